/-
  The later sun: the law, and the model's side.
-/
import Derived.Test.YtadonkadkikfpabMirrorSpec
namespace Go.Proofs.Ytadonkadkikfpab
open Go.ChangeShapes Go.WideShapes Go.ChangeAt Go.RowKit

set_option maxRecDepth 100000 in
set_option maxHeartbeats 1000000 in
theorem FnExactLaterSun_core (hs ts : List Int) (hh : hs.length = 24) (ht : ts.length = 24) (hours : Int) (hr tr : List Int) (c : Int) (hhr : hr.length = 24) (htr : tr.length = 24)
    (hspec : ∀ w, Calls Try.prog 17 #[.agg (sunC hs ts), .int .i64 hours] w fun e w' => e = .returned (.tuple #[.agg (sunC hr tr), .int .i64 c]) ∧ Below w.heap.size w w')
    (himpl : ∀ w, Calls Try.prog 19 #[.agg (sunC hs ts), .int .i64 hours] w fun e w' => e = .returned (.tuple #[.agg (sunC hr tr), .int .i64 c]) ∧ Below w.heap.size w w') (w : World) :
    Calls Try.prog 7 #[.agg (sunC hs ts), .int .i64 hours] w fun e w' => e = .returned (.bool true) ∧ Below w.heap.size w w' := by
  have Hh := Lib.hid hh
  have Ht := Lib.hid ht
  have Hr := Lib.hid hhr
  have Tr := Lib.hid htr
  have HS := Lib.hid hspec
  have HI := Lib.hid himpl
  clear hh ht hhr htr hspec himpl
  go_enter Try.func7, Try.ntmps7
  go_upto_region 1 with (fail)
  refine abs_code (fun W => Below w.heap.size w W ∧ W.heap[w.heap.size]? = some (.cells (sunC hs ts) 30 (0, 0))) ⟨(Below.refl _ _).alloc (Nat.le_refl _) _, heap_alloc_new _ _⟩ ?_
  rintro W ⟨hb, h0⟩
  have H0 := Lib.hid h0
  clear h0
  go_upto_region 2 with (first | (refine wpList_load_part rfl 30 _ rfl w.heap.size 0 48 rfl 30 (sunC hs ts) (0, 0) _ H0.out Try.underlying30 rfl info_sunL (sun_fits _ _ Hh.out Ht.out) (sunC hs ts) (sun_all _ _ Hh.out Ht.out) ?_) | (go_at_call 18; refine (toSun_any hs ts Hh.out Ht.out _).mono ?_; rintro e W1 ⟨rfl, hb1⟩; replace H0 := Lib.hid (below_row hb1 H0.out); replace hb := hb.trans (hb1.mono hb.size); clear hb1) | (go_at_call 17; refine (HS.out _).mono ?_; rintro e W1 ⟨rfl, hb1⟩; replace H0 := Lib.hid (below_row hb1 H0.out); replace hb := hb.trans (hb1.mono hb.size); clear hb1) | (refine wpList_store_part rfl 31 _ _ rfl _ 0 (sunC hr tr) rfl rfl 31 _ (heap_alloc_new _ _) (by rw [sunC_size _ _ Hr.out Tr.out]; exact info_sun) (by rw [sunC_size _ _ Hr.out Tr.out]; decide) (i16s_one _) ?_; rw [laid_all _ _ (by rw [sunC_size _ _ Hr.out Tr.out]; rfl)]))
  have hlt1 := row_lt H0.out
  refine abs_code (fun W => Below w.heap.size w W ∧ W.heap[w.heap.size]? = some (.cells (sunC hs ts) 30 (0, 0)) ∧ W.heap[W1.heap.size]? = some (.cells (sunC hr tr) 31 (0, 0))) ⟨below_setRow (hb.alloc hb.size _) hb.size _, laid_old _ _ H0.out, laid_new _ _ _⟩ ?_
  clear hb H0
  generalize W1.heap.size = b1 at *
  rintro W2 ⟨hb, h0, h1⟩
  have H0 := Lib.hid h0
  have H1 := Lib.hid h1
  clear h0 h1
  go_upto_region 3 with (first | (refine wpList_load_part rfl 30 _ rfl w.heap.size 0 48 rfl 30 (sunC hs ts) (0, 0) _ H0.out Try.underlying30 rfl info_sunL (sun_fits _ _ Hh.out Ht.out) (sunC hs ts) (sun_all _ _ Hh.out Ht.out) ?_) | (go_at_call 18; refine (toSun_any hs ts Hh.out Ht.out _).mono ?_; rintro e W1 ⟨rfl, hb1⟩; replace H0 := Lib.hid (below_row hb1 H0.out); replace H1 := Lib.hid (below_row hb1 H1.out); replace hb := hb.trans (hb1.mono hb.size); clear hb1) | (go_at_call 19; refine (HI.out _).mono ?_; rintro e W1 ⟨rfl, hb1⟩; replace H0 := Lib.hid (below_row hb1 H0.out); replace H1 := Lib.hid (below_row hb1 H1.out); replace hb := hb.trans (hb1.mono hb.size); clear hb1) | (refine wpList_store_part rfl 31 _ _ rfl _ 0 (sunC hr tr) rfl rfl 31 _ (heap_alloc_new _ _) (by rw [sunC_size _ _ Hr.out Tr.out]; exact info_sun) (by rw [sunC_size _ _ Hr.out Tr.out]; decide) (i16s_one _) ?_; rw [laid_all _ _ (by rw [sunC_size _ _ Hr.out Tr.out]; rfl)]))
  have hlt2 := row_lt H1.out
  refine abs_code (fun W => Below w.heap.size w W ∧ W.heap[b1]? = some (.cells (sunC hr tr) 31 (0, 0)) ∧ W.heap[W1.heap.size]? = some (.cells (sunC hr tr) 31 (0, 0))) ⟨below_setRow (hb.alloc hb.size _) hb.size _, laid_old _ _ H1.out, laid_new _ _ _⟩ ?_
  clear hb H0 H1
  generalize W1.heap.size = b2 at *
  rintro W3 ⟨hb, h1, h2⟩
  have H1 := Lib.hid h1
  have H2 := Lib.hid h2
  clear h1 h2
  go_wp2_with (first | (refine wpList_load_part rfl 31 _ rfl b2 0 48 rfl 31 (sunC hr tr) (0, 0) _ H2.out Try.underlying31 rfl info_sun (sun_fits _ _ Hr.out Tr.out) (sunC hr tr) (sun_all _ _ Hr.out Tr.out) ?_) | (refine wpList_load_part rfl 31 _ rfl b1 0 48 rfl 31 (sunC hr tr) (0, 0) _ H1.out Try.underlying31 rfl info_sun (sun_fits _ _ Hr.out Tr.out) (sunC hr tr) (sun_all _ _ Hr.out Tr.out) ?_) | (go_at_call 20; refine (eqSun_same hr tr Hr.out Tr.out _).mono ?_; rintro e W1 ⟨rfl, hb1⟩; replace H1 := Lib.hid (below_row hb1 H1.out); replace H2 := Lib.hid (below_row hb1 H2.out); replace hb := hb.trans (hb1.mono hb.size); clear hb1))
  go_ret
  exact ⟨rfl, hb⟩

def lat (h j : Nat) : Nat := (j + 24 - h) % 24
theorem lat_lt (h j : Nat) : lat h j < 24 := Nat.mod_lt _ (by decide)
theorem lat_tmod {h k : Nat} (hh : h < 24) (hk : k < 24) : ((k : Int) - (h : Int) + 24).tmod 24 = (lat h k : Int) := by
  rw [Int.tmod_eq_emod_of_nonneg (by omega)]; unfold lat; omega
def Laters (hs ts a b : List Int) (h k : Nat) : Prop := ∀ j, j < k → a[j]?.getD 0 = hs[lat h j]?.getD 0 ∧ b[j]?.getD 0 = ts[lat h j]?.getD 0
def latL (hs : List Int) (h : Nat) : List Int := (List.range 24).map (fun j => hs[lat h j]?.getD 0)
theorem latL_len (hs : List Int) (h : Nat) : (latL hs h).length = 24 := by simp [latL]
theorem laters_all {hs ts a b : List Int} {h : Nat} (ha : a.length = 24) (hb : b.length = 24) (hl : Laters hs ts a b h 24) : a = latL hs h ∧ b = latL ts h :=
  ⟨list_of_getD ha (fun j hj => (hl j hj).1), list_of_getD hb (fun j hj => (hl j hj).2)⟩
theorem laters_step {hs ts a b : List Int} {h k : Nat} (ha : a.length = 24) (hb : b.length = 24) (hk : k < 24) (hl : Laters hs ts a b h k) : Laters hs ts (a.set k (hs[lat h k]?.getD 0)) (b.set k (ts[lat h k]?.getD 0)) h (k + 1) := by
  intro j hj
  rw [set_getD _ _ _ (by omega), set_getD _ _ _ (by omega)]
  by_cases e : j = k
  · rw [if_pos e, if_pos e, e]; exact ⟨rfl, rfl⟩
  · rw [if_neg e, if_neg e]; exact hl j (by omega)

set_option maxRecDepth 100000 in
set_option maxHeartbeats 1000000 in
theorem specLater_no (hs ts : List Int) (hh : hs.length = 24) (ht : ts.length = 24) (rb : ∀ x ∈ hs ++ ts, -32768 ≤ x ∧ x ≤ 32767) (hours : Int) (h1 : ¬ (okB hs ts = true ∧ inH hours = true)) (w : World) :
    Calls Try.prog 17 #[.agg (sunC hs ts), .int .i64 hours] w fun e w' => e = .returned (.tuple #[.agg (sunC zer zer), .int .i64 (codeB (okB hs ts) (inH hours))]) ∧ Below w.heap.size w w' := by
  have hne := codeB_ne h1
  generalize hf : inH hours = fine at *
  generalize hc : codeB (okB hs ts) fine = c at *
  have Hc := Lib.hid hc
  have Hi := Lib.hid hf
  have hne' : (c != 0) = true := bne_iff_ne.2 hne
  have Hh := Lib.hid hh
  have Ht := Lib.hid ht
  have Rb := Lib.hid rb
  clear hh ht rb
  clear h1 hc hf hne
  go_enter Try.func17, Try.ntmps17
  go_upto_region 1 with (fail)
  generalize he : w.heap.size + 1 = b1
  refine abs_code (fun W => Below w.heap.size w W ∧ W.heap[w.heap.size]? = some (.cells (sunC hs ts) 31 (0, 0)) ∧ W.heap[b1]? = some (.cells (sunC zer zer) 31 (0, 0))) ⟨new2_below _ _ _, new2_fst _ _ _, he ▸ new2_snd _ _ _⟩ ?_
  have hlt : w.heap.size < b1 := by omega
  rintro W ⟨hb, h0, h1⟩
  have H0 := Lib.hid h0
  have H1 := Lib.hid h1
  clear h0 h1 he
  go_wp2_with (first | (go_at_call 30; refine (l01Hour_is _ fine Hi.out _).mono ?_; rintro e w' ⟨rfl, rfl⟩) | (go_at_call 29; refine (l01Asked_is _ hs ts Hh.out Ht.out Rb.out 31 (0, 0) fine c Hc.out _ H0.out).mono ?_; rintro e w' ⟨rfl, rfl⟩) | (refine wpList_store_part rfl 31 _ _ rfl b1 0 (sunC zer zer) rfl rfl 31 _ H1.out info_zz (by decide) (i16s_one _) ?_; rw [laid_all _ _ (by rfl)]))
  refine bodyPost_ret (results_sun rfl _ _ b1 zer zer rfl rfl rfl (setRow_heap _ _ _ _ _ _ H1.out)) rfl ?_
  exact ⟨rfl, below_setRow hb (Nat.le_of_lt hlt) _⟩

set_option maxRecDepth 100000 in
set_option maxHeartbeats 1000000 in
theorem specLater_yes (hs ts : List Int) (hh : hs.length = 24) (ht : ts.length = 24) (rb : ∀ x ∈ hs ++ ts, -32768 ≤ x ∧ x ≤ 32767) (h : Nat) (hh24 : h < 24) (h1 : okB hs ts = true) (h2 : inH (h : Int) = true) (w : World) :
    Calls Try.prog 17 #[.agg (sunC hs ts), .int .i64 h] w fun e w' => e = .returned (.tuple #[.agg (sunC (latL hs h) (latL ts h)), .int .i64 0]) ∧ Below w.heap.size w w' := by
  have Hc : Hid (codeB (okB hs ts) true = 0) := by rw [h1]; rfl
  have Hi := Lib.hid h2
  have Hh := Lib.hid hh
  have Ht := Lib.hid ht
  have Rb := Lib.hid rb
  clear hh ht rb
  clear h1 h2
  go_enter Try.func17, Try.ntmps17
  go_upto_region 1 with (fail)
  generalize he : w.heap.size + 1 = b1
  refine abs_code (fun W => Below w.heap.size w W ∧ W.heap[w.heap.size]? = some (.cells (sunC hs ts) 31 (0, 0)) ∧ W.heap[b1]? = some (.cells (sunC zer zer) 31 (0, 0))) ⟨new2_below _ _ _, new2_fst _ _ _, he ▸ new2_snd _ _ _⟩ ?_
  have hlt : w.heap.size < b1 := by omega
  rintro W ⟨hb, h0, h1⟩
  have H0 := Lib.hid h0
  have H1 := Lib.hid h1
  clear h0 h1 he
  go_upto_region 5 with (first | (go_at_call 30; refine (l01Hour_is _ true Hi.out _).mono ?_; rintro e w' ⟨rfl, rfl⟩) | (go_at_call 29; refine (l01Asked_is _ hs ts Hh.out Ht.out Rb.out 31 (0, 0) true 0 Hc.out _ H0.out).mono ?_; rintro e w' ⟨rfl, rfl⟩) | (refine wpList_store_part rfl 31 _ _ rfl _ 0 (sunC zer zer) rfl rfl 31 _ (heap_alloc_new _ _) info_zz (by decide) (i16s_one _) ?_; rw [laid_all _ _ (by rfl)]))
  have hlt1 := row_lt H1.out
  refine abs_code (fun V => Below w.heap.size w V ∧ V.heap[w.heap.size]? = some (.cells (sunC hs ts) 31 (0, 0)) ∧ V.heap[b1]? = some (.cells (sunC zer zer) 31 (0, 0)) ∧ V.heap[W.heap.size]? = some (.cells (sunC zer zer) 31 (0, 0))) ⟨below_setRow (hb.alloc hb.size _) hb.size _, laid_old _ _ H0.out, laid_old _ _ H1.out, laid_new _ _ _⟩ ?_
  clear hb H0 H1
  generalize W.heap.size = b2 at *
  rintro V ⟨hb, h0, h1, h2⟩
  have H0 := Lib.hid h0
  have H1 := Lib.hid h1
  have H2 := Lib.hid h2
  clear h0 h1 h2
  go_wp2
  go_loopw [8] (fun i wr => ∃ (k : Nat) (a b : List Int), k ≤ 24 ∧ i = .int .i64 k ∧ a.length = 24 ∧ b.length = 24 ∧ Laters hs ts a b h k ∧ Below w.heap.size w wr ∧ wr.heap[w.heap.size]? = some (.cells (sunC hs ts) 31 (0, 0)) ∧ wr.heap[b1]? = some (.cells (sunC zer zer) 31 (0, 0)) ∧ wr.heap[b2]? = some (.cells (sunC a b) 31 (0, 0))) (fun i _ => 24 - (intOf i).toNat)
  case atStart => exact ⟨0, zer, zer, Nat.zero_le _, rfl, rfl, rfl, fun j hj => absurd hj (Nat.not_lt_zero _), hb, H0.out, H1.out, H2.out⟩
  case round =>
    clear hb H0 H1 H2 V
    obtain ⟨k, a, b, hk, rfl, ha, hbl, hM, hb, h0, h1, h2⟩ := hrel
    by_cases hlt : k < 24
    · skip
      obtain ⟨m, hm⟩ : ∃ m : Nat, m = lat h k := ⟨_, rfl⟩
      have hm24 : m < 24 := by rw [hm]; exact lat_lt h k
      have hM1 := laters_step ha hbl hlt hM
      rw [← hm] at hM1
      have c1 := cell_sun_h h0 Hh.out m hm24
      have c2 := cell_sun_h h2 ha k hlt
      have f2 := frozen_of_row _ b2 k _ _ h2
      obtain ⟨x, ex⟩ : ∃ x, x = hs[m]?.getD 0 := ⟨_, rfl⟩
      obtain ⟨y, ey⟩ : ∃ y, y = ts[m]?.getD 0 := ⟨_, rfl⟩
      rw [← ex] at c1 hM1
      rw [← ey] at hM1
      have r0 := (heap_setCell_other wr ⟨b2, k, none⟩ _ (.int .i16 x) (by simp; omega)).trans h0
      have r1 := (heap_setCell_other wr ⟨b2, k, none⟩ _ (.int .i16 x) (by simp; omega)).trans h1
      have r2 := sun_set_h h2 k (by omega) x
      have c3 := cell_sun_t r0 Hh.out Ht.out m hm24
      rw [← ey] at c3
      have c4 := cell_sun_t r2 (by simp [ha]) hbl k hlt
      have f4 := frozen_of_row _ b2 (24 + k) _ _ r2
      have r3 := (heap_setCell_other (wr.setCell ⟨b2, k, none⟩ (.int .i16 x)) ⟨b2, 24 + k, none⟩ _ (.int .i16 y) (by simp; omega)).trans r0
      have r4 := (heap_setCell_other (wr.setCell ⟨b2, k, none⟩ (.int .i16 x)) ⟨b2, 24 + k, none⟩ _ (.int .i16 y) (by simp; omega)).trans r1
      have r5 := sun_set_t r2 (by simp [ha]) k y
      have hw1 := i64_small ((k : Int) - (h : Int)) (by omega) (by omega)
      have hw2 := i64_small ((k : Int) - (h : Int) + 24) (by omega) (by omega)
      have hw3 : ((k : Int) - (h : Int) + 24).tmod 24 = (m : Int) := by rw [hm]; exact lat_tmod hh24 hlt
      have R3 := Lib.hid r3
      have R4 := Lib.hid r4
      have R5 := Lib.hid r5
      have HM := Lib.hid hM1
      have HX := Lib.hid ha
      have HB := Lib.hid hbl
      clear h0 h1 h2 r0 r1 r2 r3 r4 r5 hM hM1 ex ey ha hbl hm
      go_wp2
      go_roundw
      case rel => exact ⟨k + 1, a.set k x, b.set k y, by omega, by go_num, by simp [HX.out], by simp [HB.out], HM.out, (hb.setCell (p := ⟨b2, k, none⟩) (by simp; omega) _).setCell (p := ⟨b2, 24 + k, none⟩) (by simp; omega) _, R3.out, R4.out, R5.out⟩
      case measure => simp [intOf]; omega
    · obtain rfl : k = 24 := by omega
      obtain ⟨rfl, rfl⟩ := laters_all ha hbl hM
      have H0 := Lib.hid h0
      have H1 := Lib.hid h1
      have H2 := Lib.hid h2
      clear h0 h1 h2 hM ha hbl
      go_wp2_with (first | (refine wpList_load_part rfl 31 _ rfl b2 0 48 rfl 31 (sunC (latL hs h) (latL ts h)) (0, 0) _ H2.out Try.underlying31 rfl info_sun (sun_fits _ _ (latL_len _ _) (latL_len _ _)) (sunC (latL hs h) (latL ts h)) (sun_all _ _ (latL_len _ _) (latL_len _ _)) ?_) | (refine wpList_store_part rfl 31 _ _ rfl b1 0 (sunC (latL hs h) (latL ts h)) rfl rfl 31 _ H1.out (by rw [sunC_size _ _ (latL_len _ _) (latL_len _ _)]; exact info_sun) (by rw [sunC_size _ _ (latL_len _ _) (latL_len _ _)]; decide) (i16s_one _) ?_; rw [laid_all _ _ (by rw [sunC_size _ _ (latL_len _ _) (latL_len _ _)]; rfl)]))
      refine bodyPost_ret (results_sun rfl _ _ b1 _ _ (latL_len _ _) (latL_len _ _) rfl (setRow_heap _ _ _ _ _ _ H1.out)) rfl ?_
      exact ⟨rfl, below_setRow hb (by omega) _⟩

end Go.Proofs.Ytadonkadkikfpab
