/-
  The mirrored sun: the program's side.
-/
import Derived.Test.YtadonkadkikfpaaMirrorSpec
import Derived.Test.YtadonkadkikfpaaBestRun
namespace Go.Proofs.Ytadonkadkikfpaa
open Go.RowKit Go.Shelf

attribute [local go_sem] Oper.semAt_some

set_option maxRecDepth 100000 in
set_option maxHeartbeats 1000000 in
theorem implMirror_no (hs ts : List Int) (hh : hs.length = 24) (ht : ts.length = 24) (h1 : okB hs ts = false) (w : World) :
    Calls Try.prog 43 #[.agg (sunC hs ts)] w fun e w' => e = .returned (.tuple #[.agg (sunC zer zer), .int .i64 1]) ∧ Below w.heap.size w w' := by
  have Hc : Hid (codeB (okB hs ts) true = 1) := by rw [h1]; rfl
  have Hh := Lib.hid hh
  have Ht := Lib.hid ht
  clear hh ht h1
  go_enter Try.func43, Try.ntmps43
  go_upto_region 1 with (fail)
  generalize he : w.heap.size + 1 = b1
  refine abs_code (fun W => Below w.heap.size w W ∧ W.heap[w.heap.size]? = some (.cells (sunC hs ts) 32 (0, 0)) ∧ W.heap[b1]? = some (.cells (sunC zer zer) 32 (0, 0))) ⟨new2_below _ _ _, new2_fst _ _ _, he ▸ new2_snd _ _ _⟩ ?_
  have hlt : w.heap.size < b1 := by omega
  rintro W ⟨hb, h0, h1⟩
  have H0 := Lib.hid h0
  have H1 := Lib.hid h1
  clear h0 h1 he
  go_wp2_with (first | (refine wpList_load_part rfl 32 _ rfl w.heap.size 0 48 rfl 32 (sunC hs ts) (0, 0) _ H0.out Try.underlying32 rfl info_sun (sun_fits _ _ Hh.out Ht.out) (sunC hs ts) (sun_all _ _ Hh.out Ht.out) ?_) | (go_at_call 55; refine (checkSun_is hs ts Hh.out Ht.out true 1 Hc.out _).mono ?_; rintro e W1 ⟨rfl, hb1⟩; replace H0 := Lib.hid (below_row hb1 H0.out); replace H1 := Lib.hid (below_row hb1 H1.out); replace hb := hb.trans (hb1.mono hb.size); clear hb1) | (refine wpList_store_part rfl 32 _ _ rfl b1 0 (sunC zer zer) rfl rfl 32 _ H1.out info_zz (by decide) (i16s_one _) ?_; rw [laid_all _ _ (by rfl)]))
  refine bodyPost_ret (results_sun rfl _ _ b1 zer zer rfl rfl rfl (setRow_heap _ _ _ _ _ _ H1.out)) rfl ?_
  exact ⟨rfl, below_setRow hb (by omega) _⟩

/-- What the walk keeps. -/
def MirI (w : World) (hs ts : List Int) (b1 b2 : Nat) (pre : List Hr) (W : World) : Prop :=
  ∃ a b : List Int, a.length = 24 ∧ b.length = 24 ∧ W.heap[w.heap.size]? = some (.cells (sunC hs ts) 32 (0, 0)) ∧ W.heap[b1]? = some (.cells (sunC zer zer) 32 (0, 0)) ∧ W.heap[b2]? = some (.cells (sunC a b) 32 (0, 0)) ∧ (Good pre → Mirrors hs ts a b pre.length) ∧ Below w.heap.size w W

theorem mirI_own (w : World) (hs ts : List Int) (b1 b2 : Nat) (B : Nat) (hB : w.heap.size ≤ B) : OwnFrom B (MirI w hs ts b1 b2) := by
  intro s W W' row ⟨x, y, hx, hy, h0, h1, h2, hg, hb⟩ hg' hr
  have hr2 := fun r e => (hr r e).2
  exact ⟨x, y, hx, hy, heap_kept h0 hg' hr2, heap_kept h1 hg' hr2, heap_kept h2 hg' hr2, hg, ownFrom_below (β := Unit) (Nat.le_refl _) hB () W W' row hb hg' hr⟩

set_option maxRecDepth 100000 in
set_option maxHeartbeats 1000000 in
theorem implMirror_yes (hs ts : List Int) (hh : hs.length = 24) (ht : ts.length = 24) (h1 : okB hs ts = true) (w : World) :
    Calls Try.prog 43 #[.agg (sunC hs ts)] w fun e w' => e = .returned (.tuple #[.agg (sunC (mirH hs) (mirT ts)), .int .i64 0]) ∧ Below w.heap.size w w' := by
  refine (callsIn_wide (n := 4)).1 ?_
  have Hc : Hid (codeB (okB hs ts) true = 0) := by rw [h1]; rfl
  have Hok := Lib.hid h1
  have Hh := Lib.hid hh
  have Ht := Lib.hid ht
  clear hh ht h1
  refine callsIn_of_wp_marks Try.func43 rfl trivial ?_ rfl
  simp only [Try.ntmps43, List.size_toArray, List.length_cons, List.length_nil, Nat.reduceAdd, Nat.reduceSub, Array.replicate_succ, Array.replicate_zero, List.push_toArray, List.append_toArray, List.nil_append, List.cons_append]
  refine wpIn_wide.2 ?_
  go_upto_region 1 with (fail)
  generalize he : w.heap.size + 1 = b1
  refine abs_code (fun W => Below w.heap.size w W ∧ W.heap[w.heap.size]? = some (.cells (sunC hs ts) 32 (0, 0)) ∧ W.heap[b1]? = some (.cells (sunC zer zer) 32 (0, 0))) ⟨new2_below _ _ _, new2_fst _ _ _, he ▸ new2_snd _ _ _⟩ ?_
  have hlt : w.heap.size < b1 := by omega
  rintro W ⟨hb, h0, h1⟩
  have H0 := Lib.hid h0
  have H1 := Lib.hid h1
  clear h0 h1 he
  go_upto_region 4 with (first | (refine wpList_load_part rfl 32 _ rfl w.heap.size 0 48 rfl 32 (sunC hs ts) (0, 0) _ H0.out Try.underlying32 rfl info_sun (sun_fits _ _ Hh.out Ht.out) (sunC hs ts) (sun_all _ _ Hh.out Ht.out) ?_) | (go_at_call 55; refine (checkSun_is hs ts Hh.out Ht.out true 0 Hc.out _).mono ?_; rintro e W1 ⟨rfl, hb1⟩; replace H0 := Lib.hid (below_row hb1 H0.out); replace H1 := Lib.hid (below_row hb1 H1.out); replace hb := hb.trans (hb1.mono hb.size); clear hb1))
  have hlt1 := row_lt H1.out
  go_wp2
  refine (wpIn_wide (n := 4)).1 ?_
  refine wpIn_rangeFunc_ownF rfl (by decide) (gf := 64) (lb := #[]) rfl trivial (enters_of Try.func64 (by kernel_rfl) rfl)
    (eachHour_stops Fence.wide _ trivial rfl (by decide) w.heap.size _) belowK_t (belowK_b (by simp; omega)) (Below.refl _ _) (fun _ => rfl)
    (MirI w hs ts b1 W1.heap.size) (fun _ _ _ => False) (mirI_own w hs ts _ _ _ (by simp; omega)) (fun _ _ _ _ _ hs _ _ => hs) ?h0
    (fun x => { tmps := #[.agg (sunC hs ts), .pointer (some ⟨w.heap.size, 0, none⟩), .pointer (some ⟨b1, 0, none⟩), .int .i64 0, .int .i64 0, .pointer (some ⟨W1.heap.size, 0, none⟩), .int .i64 x.1, undef, .agg (sunC hs ts), .int .i64 0, .int .i64 0, .bool false, undef, undef, .int .i64 x.1, undef, undef, undef, undef, undef, undef, undef, undef, undef, undef, undef, undef, undef, undef, undef, undef, undef, undef, undef, undef], defers := [] }) ?assign ?body ?done ?stop
  case h0 =>
    refine ⟨zer, zer, rfl, rfl, ?_, ?_, heap_alloc_new _ _, fun _ j hj => absurd hj (Nat.not_lt_zero _), hb.alloc (by omega) _⟩
    · rw [heap_alloc_old _ _ _ (row_lt H0.out)]; exact H0.out
    · rw [heap_alloc_old _ _ _ (row_lt H1.out)]; exact H1.out
  case assign =>
    intro l x W K hK
    gi_wp2
    exact hK
  case body =>
    clear hb H0 H1
    rintro l pre ⟨x, hx0, hx1⟩ V ⟨a, b, ha, hbl, h0, h1, h2, hg, hb⟩ hl
    generalize W1.heap.size = b2 at *
    obtain ⟨k, rfl⟩ := Int.eq_ofNat_of_zero_le hx0
    have hk : k < 24 := by omega
    obtain ⟨m, hm⟩ : ∃ m : Nat, m + k = 23 := ⟨23 - k, by omega⟩
    have hy := okB_t Hh.out Ht.out Hok.out (m : Int) (by omega) (by omega)
    have ea : hs[m]?.getD 0 = atH hs (m : Int) := by unfold atH; rw [Int.toNat_natCast]
    have eb : ts[m]?.getD 0 = atH ts (m : Int) := by unfold atH; rw [Int.toNat_natCast]
    rw [← eb] at hy
    have hM1 : Good (pre ++ [⟨(k : Int), hx0, hx1⟩]) → Mirrors hs ts (a.set k (hs[m]?.getD 0)) (b.set k (angB (-(ts[m]?.getD 0)))) (pre ++ [(⟨(k : Int), hx0, hx1⟩ : Hr)]).length := by
      intro hgs
      obtain ⟨hgp, hxk⟩ := good_snoc hgs hl
      have hkl : k = pre.length := by have : (k : Int) = (pre.length : Int) := hxk; omega
      rw [List.length_append, List.length_singleton, ← hkl]
      exact mirrors_step ha hbl hk hm (by rw [hkl]; exact hg hgp)
    have c1 := cell_sun_h h0 Hh.out m (by omega)
    have c2 := cell_sun_h h2 ha k hk
    have f2 := frozen_of_row _ b2 k _ _ h2
    obtain ⟨x, ex⟩ : ∃ x, x = hs[m]?.getD 0 := ⟨_, rfl⟩
    obtain ⟨y, ey⟩ : ∃ y, y = ts[m]?.getD 0 := ⟨_, rfl⟩
    rw [← ex] at c1 hM1
    rw [← ey] at hy hM1
    have r0 := (heap_setCell_other V ⟨b2, k, none⟩ _ (.int .i16 x) (by simp; omega)).trans h0
    have r1 := (heap_setCell_other V ⟨b2, k, none⟩ _ (.int .i16 x) (by simp; omega)).trans h1
    have r2 := sun_set_h h2 k (by omega) x
    have c3 := cell_sun_t r0 Hh.out Ht.out m (by omega)
    rw [← ey] at c3
    have c4 := cell_sun_t r2 (by simp [ha]) hbl k hk
    have f4 := frozen_of_row _ b2 (24 + k) _ _ r2
    have r3 := (heap_setCell_other (V.setCell ⟨b2, k, none⟩ (.int .i16 x)) ⟨b2, 24 + k, none⟩ _ (.int .i16 (angB (-y))) (by simp; omega)).trans r0
    have r4 := (heap_setCell_other (V.setCell ⟨b2, k, none⟩ (.int .i16 x)) ⟨b2, 24 + k, none⟩ _ (.int .i16 (angB (-y))) (by simp; omega)).trans r1
    have r5 := sun_set_t r2 (by simp [ha]) k (angB (-y))
    have hw1 : IntKind.i64.wrap (23 - (k : Int)) = (m : Int) := by rw [i64_small _ (by omega) (by omega)]; omega
    have hw2 := i64_small y (by omega) (by omega)
    have hw3 := i64_small (-y) (by omega) (by omega)
    have R3 := Lib.hid r3
    have R4 := Lib.hid r4
    have R5 := Lib.hid r5
    have HM := Lib.hid hM1
    have HX := Lib.hid ha
    have HB := Lib.hid hbl
    clear h0 h1 h2 r0 r1 r2 r3 r4 r5 hg hM1 ea eb ex ey ha hbl
    refine wpIn_block (wpIn_seq ?_)
    refine region_list_round (by rfl) (fun ⟨_, _, h⟩ => h) ?_
    go_wp2
    refine wpIn_seq ?_
    refine region_list_round (by rfl) (fun ⟨_, _, h⟩ => h) ?_
    go_wp2
    refine region_list_round (by rfl) (fun ⟨_, _, h⟩ => h) ?_
    go_wp2_with (go_at_call 46; refine (angleOf_any _ _).mono ?_; rintro e w' ⟨rfl, rfl⟩)
    refine ⟨(KeepsOthers.setCell _ _ _).trans (KeepsOthers.setCell _ _ _), ((Below.refl w.heap.size V).setCell (p := ⟨b2, k, none⟩) (by simp; omega) _).setCell (p := ⟨b2, 24 + k, none⟩) (by simp; omega) _, a.set k x, b.set k (angB (-y)), by simp [HX.out], by simp [HB.out], R3.out, R4.out, R5.out, HM.out, (hb.setCell (p := ⟨b2, k, none⟩) (by simp; omega) _).setCell (p := ⟨b2, 24 + k, none⟩) (by simp; omega) _⟩
  case done =>
    clear hb H0 H1
    rintro D zs V hD rfl ⟨a, b, ha, hbl, h0, h1, h2, hg, hb⟩ hK
    rename_i K hcont
    have hD' : w.heap.size ≤ D := by simp at hD; omega
    have hDb : D ≠ b1 := by simp at hD; omega
    have hM := hg good_all
    rw [hrs_length] at hM
    obtain ⟨rfl, rfl⟩ := mirrors_all ha hbl hM
    have H1 := Lib.hid h1
    have H2 := Lib.hid h2
    have HK := Lib.hid hK
    clear hg h0 h1 h2 hD hK hM ha hbl
    refine hcont _ _ ?_
    generalize W1.heap.size = b2 at *
    go_wp2_with (first | (refine wpList_load_part rfl 32 _ rfl b2 0 48 rfl 32 (sunC (mirH hs) (mirT ts)) (0, 0) _ H2.out Try.underlying32 rfl info_sun (sun_fits _ _ (mirH_len _) (mirT_len _)) (sunC (mirH hs) (mirT ts)) (sun_all _ _ (mirH_len _) (mirT_len _)) ?_) | (refine wpList_store_part rfl 32 _ _ rfl b1 0 (sunC (mirH hs) (mirT ts)) rfl rfl 32 _ H1.out (by rw [sunC_size _ _ (mirH_len _) (mirT_len _)]; exact info_sun) (by rw [sunC_size _ _ (mirH_len _) (mirT_len _)]; decide) (i16s_one _) ?_; rw [laid_all _ _ (by rw [sunC_size _ _ (mirH_len _) (mirT_len _)]; rfl)]))
    have hK2 : (V.setRow b1 (sunC (mirH hs) (mirT ts))).heap[D]? = some (.deferred (some [])) := (setRow_other _ _ _ _ hDb).trans HK.out
    have hR := setRow_heap V b1 _ (sunC (mirH hs) (mirT ts)) _ _ H1.out
    refine ⟨by simp, .inl ⟨_, _, rfl, run_takeDeferred hK2, ?_⟩⟩
    refine ⟨.tuple #[.agg (sunC (mirH hs) (mirT ts)), .int .i64 0], results_sun (fn := Try.f43) rfl _ _ b1 _ _ (mirH_len _) (mirT_len _) rfl ((World.putObj_heap_other (Ne.symm hDb)).trans hR), rfl, ?_⟩
    exact (below_setRow hb (by omega) _).trans (belowK_b (w := w) (Nat.le_refl _) _ D _ _ hD' hK2 rfl rfl)
  case stop =>
    rintro D c pre W _ _ h _
    exact h.elim

end Go.Proofs.Ytadonkadkikfpaa
