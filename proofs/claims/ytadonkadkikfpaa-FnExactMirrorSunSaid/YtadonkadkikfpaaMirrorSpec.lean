/-
  The mirrored sun: the model's side.
-/
import Derived.Test.YtadonkadkikfpaaMirrorLaw
namespace Go.Proofs.Ytadonkadkikfpaa
open Go.ChangeShapes Go.WideShapes Go.ChangeAt Go.RowKit

theorem info_zz : (Try.prog.info? 32).map (·.size) = some (sunC zer zer).size := by kernel_rfl
theorem sun_set_h {W : World} {g : Nat} {a b : List Int} {t : TypeId} (h : W.heap[g]? = some (.cells (sunC a b) t (0, 0))) (k : Nat) (hk : k < a.length) (x : Int) : (W.setCell ⟨g, k, none⟩ (.int .i16 x)).heap[g]? = some (.cells (sunC (a.set k x) b) t (0, 0)) := by
  rw [heap_setCell_same _ _ _ _ _ _ h, sunC, i16s_set, List.set_append_left _ _ hk]; rfl
theorem sun_set_t {W : World} {g : Nat} {a b : List Int} {t : TypeId} (h : W.heap[g]? = some (.cells (sunC a b) t (0, 0))) (ha : a.length = 24) (k : Nat) (x : Int) : (W.setCell ⟨g, 24 + k, none⟩ (.int .i16 x)).heap[g]? = some (.cells (sunC a (b.set k x)) t (0, 0)) := by
  rw [heap_setCell_same _ _ _ _ _ _ h, sunC, i16s_set, List.set_append_right _ _ (by omega), ha, Nat.add_sub_cancel_left]; rfl
theorem results_sun {fn : Func} {p u : Tmp} (h : fn.results = #[.cell p 32, .tmp u]) (tmps : Array Value) (w : World) (g : Nat) (a b : List Int) (ha : a.length = 24) (hb : b.length = 24) (hp : tmps.getD p undef = .pointer (some ⟨g, 0, none⟩)) (hg : w.heap[g]? = some (.cells (sunC a b) 32 (0, 0))) :
    (results fn tmps).run Try.prog w = .ok (.tuple #[.agg (sunC a b), tmps.getD u undef]) w := by
  rw [results_cell_tmp h, hp]
  have e := run_loadVar_row w g 32 32 (sunC a b) (0, 0) _ hg Try.underlying32 rfl (by rw [sunC_size _ _ ha hb]; exact info_sun)
  simp only [asAddr, Sem.run_pure, Result.andThen_ok, e]

/-- Each hour's numbers are those of the hour on the other side of noon. -/
def Mirrors (hs ts a b : List Int) (k : Nat) : Prop := ∀ j, j < k → a[j]?.getD 0 = hs[23 - j]?.getD 0 ∧ b[j]?.getD 0 = angB (-(ts[23 - j]?.getD 0))
def mirH (hs : List Int) : List Int := (List.range 24).map (fun j => hs[23 - j]?.getD 0)
def mirT (ts : List Int) : List Int := (List.range 24).map (fun j => angB (-(ts[23 - j]?.getD 0)))
theorem mirH_len (hs : List Int) : (mirH hs).length = 24 := by simp [mirH]
theorem mirT_len (ts : List Int) : (mirT ts).length = 24 := by simp [mirT]
theorem list_of_getD {a : List Int} (ha : a.length = 24) {g : Nat → Int} (h : ∀ j, j < 24 → a[j]?.getD 0 = g j) : a = (List.range 24).map g := by
  apply List.ext_getElem (by simp [ha])
  intro i h1 h2
  have := h i (by omega)
  rw [List.getElem?_eq_getElem h1, Option.getD_some] at this
  simp [this]
theorem mirrors_all {hs ts a b : List Int} (ha : a.length = 24) (hb : b.length = 24) (h : Mirrors hs ts a b 24) : a = mirH hs ∧ b = mirT ts :=
  ⟨list_of_getD ha (fun j hj => (h j hj).1), list_of_getD hb (fun j hj => (h j hj).2)⟩
theorem set_getD (a : List Int) (k : Nat) (x : Int) (hk : k < a.length) (j : Nat) : (a.set k x)[j]?.getD 0 = if j = k then x else a[j]?.getD 0 := by
  rw [List.getElem?_set]
  by_cases e : k = j
  · subst e; simp [hk]
  · rw [if_neg e, if_neg (fun h => e h.symm)]
theorem mirrors_step {hs ts a b : List Int} {k m : Nat} (ha : a.length = 24) (hb : b.length = 24) (hk : k < 24) (hm : m + k = 23) (h : Mirrors hs ts a b k) : Mirrors hs ts (a.set k (hs[m]?.getD 0)) (b.set k (angB (-(ts[m]?.getD 0)))) (k + 1) := by
  intro j hj
  rw [set_getD _ _ _ (by omega), set_getD _ _ _ (by omega)]
  by_cases e : j = k
  · have : 23 - j = m := by omega
    rw [if_pos e, if_pos e, this]; exact ⟨rfl, rfl⟩
  · rw [if_neg e, if_neg e]; exact h j (by omega)

set_option maxRecDepth 100000 in
set_option maxHeartbeats 1000000 in
theorem specMirror_no (hs ts : List Int) (hh : hs.length = 24) (ht : ts.length = 24) (rb : ∀ x ∈ hs ++ ts, -32768 ≤ x ∧ x ≤ 32767) (h1 : okB hs ts = false) (w : World) :
    Calls Try.prog 42 #[.agg (sunC hs ts)] w fun e w' => e = .returned (.tuple #[.agg (sunC zer zer), .int .i64 1]) ∧ Below w.heap.size w w' := by
  have Hok := Lib.hid h1
  have Hh := Lib.hid hh
  have Ht := Lib.hid ht
  have Rb := Lib.hid rb
  clear hh ht rb
  clear h1
  go_enter Try.func42, Try.ntmps42
  go_upto_region 1 with (fail)
  generalize he : w.heap.size + 1 = b1
  refine abs_code (fun W => Below w.heap.size w W ∧ W.heap[w.heap.size]? = some (.cells (sunC hs ts) 32 (0, 0)) ∧ W.heap[b1]? = some (.cells (sunC zer zer) 32 (0, 0))) ⟨new2_below _ _ _, new2_fst _ _ _, he ▸ new2_snd _ _ _⟩ ?_
  have hlt : w.heap.size ≤ b1 := by omega
  rintro W ⟨hb, h0, h1⟩
  have H0 := Lib.hid h0
  have H1 := Lib.hid h1
  clear h0 h1 he
  go_wp2_with (first | (go_at_call 50; refine (l01Ok_any _ hs ts Hh.out Ht.out Rb.out 32 (0, 0) _ H0.out).mono ?_; rw [Hok.out]; rintro e w' ⟨rfl, rfl⟩) | (refine wpList_store_part rfl 32 _ _ rfl b1 0 (sunC zer zer) rfl rfl 32 _ H1.out info_zz (by decide) (i16s_one _) ?_; rw [laid_all _ _ (by rfl)]))
  refine bodyPost_ret (results_sun rfl _ _ b1 zer zer rfl rfl rfl (setRow_heap _ _ _ _ _ _ H1.out)) rfl ?_
  exact ⟨rfl, below_setRow hb hlt _⟩

set_option maxRecDepth 100000 in
set_option maxHeartbeats 1000000 in
theorem specMirror_yes (hs ts : List Int) (hh : hs.length = 24) (ht : ts.length = 24) (rb : ∀ x ∈ hs ++ ts, -32768 ≤ x ∧ x ≤ 32767) (h1 : okB hs ts = true) (w : World) :
    Calls Try.prog 42 #[.agg (sunC hs ts)] w fun e w' => e = .returned (.tuple #[.agg (sunC (mirH hs) (mirT ts)), .int .i64 0]) ∧ Below w.heap.size w w' := by
  have Hok := Lib.hid h1
  have Hh := Lib.hid hh
  have Ht := Lib.hid ht
  have Rb := Lib.hid rb
  clear hh ht rb
  clear h1
  go_enter Try.func42, Try.ntmps42
  go_upto_region 1 with (fail)
  generalize he : w.heap.size + 1 = b1
  refine abs_code (fun W => Below w.heap.size w W ∧ W.heap[w.heap.size]? = some (.cells (sunC hs ts) 32 (0, 0)) ∧ W.heap[b1]? = some (.cells (sunC zer zer) 32 (0, 0))) ⟨new2_below _ _ _, new2_fst _ _ _, he ▸ new2_snd _ _ _⟩ ?_
  have hlt : w.heap.size < b1 := by omega
  rintro W ⟨hb, h0, h1⟩
  have H0 := Lib.hid h0
  have H1 := Lib.hid h1
  clear h0 h1 he
  go_upto_region 4 with (first | (go_at_call 50; refine (l01Ok_any _ hs ts Hh.out Ht.out Rb.out 32 (0, 0) _ H0.out).mono ?_; rw [Hok.out]; rintro e w' ⟨rfl, rfl⟩) | (refine wpList_store_part rfl 32 _ _ rfl _ 0 (sunC zer zer) rfl rfl 32 _ (heap_alloc_new _ _) info_zz (by decide) (i16s_one _) ?_; rw [laid_all _ _ (by rfl)]))
  have hlt1 := row_lt H1.out
  refine abs_code (fun V => Below w.heap.size w V ∧ V.heap[w.heap.size]? = some (.cells (sunC hs ts) 32 (0, 0)) ∧ V.heap[b1]? = some (.cells (sunC zer zer) 32 (0, 0)) ∧ V.heap[W.heap.size]? = some (.cells (sunC zer zer) 32 (0, 0))) ⟨below_setRow (hb.alloc hb.size _) hb.size _, laid_old _ _ H0.out, laid_old _ _ H1.out, laid_new _ _ _⟩ ?_
  clear hb H0 H1
  generalize W.heap.size = b2 at *
  rintro V ⟨hb, h0, h1, h2⟩
  have H0 := Lib.hid h0
  have H1 := Lib.hid h1
  have H2 := Lib.hid h2
  clear h0 h1 h2
  go_wp2
  go_loopw [5] (fun i wr => ∃ (k : Nat) (a b : List Int), k ≤ 24 ∧ i = .int .i64 k ∧ a.length = 24 ∧ b.length = 24 ∧ Mirrors hs ts a b k ∧ Below w.heap.size w wr ∧ wr.heap[w.heap.size]? = some (.cells (sunC hs ts) 32 (0, 0)) ∧ wr.heap[b1]? = some (.cells (sunC zer zer) 32 (0, 0)) ∧ wr.heap[b2]? = some (.cells (sunC a b) 32 (0, 0))) (fun i _ => 24 - (intOf i).toNat)
  case atStart => exact ⟨0, zer, zer, Nat.zero_le _, rfl, rfl, rfl, fun j hj => absurd hj (Nat.not_lt_zero _), hb, H0.out, H1.out, H2.out⟩
  case round =>
    clear hb H0 H1 H2 V
    obtain ⟨k, a, b, hk, rfl, ha, hbl, hM, hb, h0, h1, h2⟩ := hrel
    by_cases hlt : k < 24
    · obtain ⟨m, hm⟩ : ∃ m : Nat, m + k = 23 := ⟨23 - k, by omega⟩
      have hy := okB_t Hh.out Ht.out Hok.out (m : Int) (by omega) (by omega)
      have hx := okB_h Hh.out Ht.out Hok.out (m : Int) (by omega) (by omega)
      have ea : hs[m]?.getD 0 = atH hs (m : Int) := by unfold atH; rw [Int.toNat_natCast]
      have eb : ts[m]?.getD 0 = atH ts (m : Int) := by unfold atH; rw [Int.toNat_natCast]
      rw [← ea] at hx
      rw [← eb] at hy
      have hM1 := mirrors_step ha hbl hlt hm hM
      have c1 := cell_sun_h h0 Hh.out m (by omega)
      have c2 := cell_sun_h h2 ha k hlt
      have f2 := frozen_of_row _ b2 k _ _ h2
      obtain ⟨x, ex⟩ : ∃ x, x = hs[m]?.getD 0 := ⟨_, rfl⟩
      obtain ⟨y, ey⟩ : ∃ y, y = ts[m]?.getD 0 := ⟨_, rfl⟩
      rw [← ex] at c1 hx hM1
      rw [← ey] at hy hM1
      have r0 := (heap_setCell_other wr ⟨b2, k, none⟩ _ (.int .i16 x) (by simp; omega)).trans h0
      have r1 := (heap_setCell_other wr ⟨b2, k, none⟩ _ (.int .i16 x) (by simp; omega)).trans h1
      have r2 := sun_set_h h2 k (by omega) x
      have c3 := cell_sun_t r0 Hh.out Ht.out m (by omega)
      rw [← ey] at c3
      have c4 := cell_sun_t r2 (by simp [ha]) hbl k hlt
      have f4 := frozen_of_row _ b2 (24 + k) _ _ r2
      have r3 := (heap_setCell_other (wr.setCell ⟨b2, k, none⟩ (.int .i16 x)) ⟨b2, 24 + k, none⟩ _ (.int .i16 (angB (-y))) (by simp; omega)).trans r0
      have r4 := (heap_setCell_other (wr.setCell ⟨b2, k, none⟩ (.int .i16 x)) ⟨b2, 24 + k, none⟩ _ (.int .i16 (angB (-y))) (by simp; omega)).trans r1
      have r5 := sun_set_t r2 (by simp [ha]) k (angB (-y))
      have hlo := angB_lo (-y)
      have hhi := angB_hi (-y)
      have hw1 : IntKind.i64.wrap (23 - (k : Int)) = (m : Int) := by rw [i64_small _ (by omega) (by omega)]; omega
      have hw2 := i64_small y (by omega) (by omega)
      have hw3 := i64_small (-y) (by omega) (by omega)
      have R3 := Lib.hid r3
      have R4 := Lib.hid r4
      have R5 := Lib.hid r5
      have HM := Lib.hid hM1
      have HX := Lib.hid ha
      have HB := Lib.hid hbl
      clear h0 h1 h2 r0 r1 r2 r3 r4 r5 hM hM1 ea eb ex ey ha hbl
      go_wp2_with (go_at_call 69; refine (l01Angle_any _ _).mono ?_; rintro e w' ⟨rfl, rfl⟩)
      go_roundw
      case rel => exact ⟨k + 1, a.set k x, b.set k (angB (-y)), by omega, by go_num, by simp [HX.out], by simp [HB.out], HM.out, (hb.setCell (p := ⟨b2, k, none⟩) (by simp; omega) _).setCell (p := ⟨b2, 24 + k, none⟩) (by simp; omega) _, R3.out, R4.out, R5.out⟩
      case measure => simp [intOf]; omega
    · obtain rfl : k = 24 := by omega
      obtain ⟨rfl, rfl⟩ := mirrors_all ha hbl hM
      have H0 := Lib.hid h0
      have H1 := Lib.hid h1
      have H2 := Lib.hid h2
      clear h0 h1 h2 hM ha hbl
      go_wp2_with (first | (refine wpList_load_part rfl 32 _ rfl b2 0 48 rfl 32 (sunC (mirH hs) (mirT ts)) (0, 0) _ H2.out Try.underlying32 rfl info_sun (sun_fits _ _ (mirH_len _) (mirT_len _)) (sunC (mirH hs) (mirT ts)) (sun_all _ _ (mirH_len _) (mirT_len _)) ?_) | (refine wpList_store_part rfl 32 _ _ rfl b1 0 (sunC (mirH hs) (mirT ts)) rfl rfl 32 _ H1.out (by rw [sunC_size _ _ (mirH_len _) (mirT_len _)]; exact info_sun) (by rw [sunC_size _ _ (mirH_len _) (mirT_len _)]; decide) (i16s_one _) ?_; rw [laid_all _ _ (by rw [sunC_size _ _ (mirH_len _) (mirT_len _)]; rfl)]))
      refine bodyPost_ret (results_sun rfl _ _ b1 _ _ (mirH_len _) (mirT_len _) rfl (setRow_heap _ _ _ _ _ _ H1.out)) rfl ?_
      exact ⟨rfl, below_setRow hb (by omega) _⟩

end Go.Proofs.Ytadonkadkikfpaa
