/-
  The laws of the functions that return a sun: the same sun and code from both sides.
-/
import Derived.Test.YtadonkadkikfpaaSunEq
namespace Go.Proofs.Ytadonkadkikfpaa
open Go.ChangeShapes Go.WideShapes Go.ChangeAt Go.RowKit

theorem laid_new (W : World) (old cs : Array Value) {t : TypeId} : ((W.alloc (.cells old t)).setRow W.heap.size cs).heap[W.heap.size]? = some (.cells cs t (0, 0)) := setRow_heap _ _ _ _ _ _ (heap_alloc_new _ _)
theorem laid_old {W : World} (old cs : Array Value) {t : TypeId} {g : Nat} {o : Obj} (h : W.heap[g]? = some o) : ((W.alloc (.cells old t)).setRow W.heap.size cs).heap[g]? = some o :=
  (setRow_other _ _ _ _ (Nat.ne_of_lt (row_lt h))).trans ((heap_alloc_old _ _ _ (row_lt h)).trans h)

set_option maxRecDepth 100000 in
set_option maxHeartbeats 1000000 in
theorem FnExactMirrorSun_core (hs ts : List Int) (hh : hs.length = 24) (ht : ts.length = 24) (hr tr : List Int) (c : Int) (hhr : hr.length = 24) (htr : tr.length = 24)
    (hspec : ∀ w, Calls Try.prog 42 #[.agg (sunC hs ts)] w fun e w' => e = .returned (.tuple #[.agg (sunC hr tr), .int .i64 c]) ∧ Below w.heap.size w w')
    (himpl : ∀ w, Calls Try.prog 43 #[.agg (sunC hs ts)] w fun e w' => e = .returned (.tuple #[.agg (sunC hr tr), .int .i64 c]) ∧ Below w.heap.size w w') (w : World) :
    Calls Try.prog 14 #[.agg (sunC hs ts)] w fun e w' => e = .returned (.bool true) ∧ Below w.heap.size w w' := by
  have Hh := Lib.hid hh
  have Ht := Lib.hid ht
  have Hr := Lib.hid hhr
  have Tr := Lib.hid htr
  have HS := Lib.hid hspec
  have HI := Lib.hid himpl
  clear hh ht hhr htr hspec himpl
  go_enter Try.func14, Try.ntmps14
  go_upto_region 1 with (fail)
  refine abs_code (fun W => Below w.heap.size w W ∧ W.heap[w.heap.size]? = some (.cells (sunC hs ts) 30 (0, 0))) ⟨(Below.refl _ _).alloc (Nat.le_refl _) _, heap_alloc_new _ _⟩ ?_
  rintro W ⟨hb, h0⟩
  have H0 := Lib.hid h0
  clear h0
  go_upto_region 2 with (first | (refine wpList_load_part rfl 30 _ rfl w.heap.size 0 48 rfl 30 (sunC hs ts) (0, 0) _ H0.out Try.underlying30 rfl info_sunL (sun_fits _ _ Hh.out Ht.out) (sunC hs ts) (sun_all _ _ Hh.out Ht.out) ?_) | (go_at_call 21; refine (toSun_any hs ts Hh.out Ht.out _).mono ?_; rintro e W1 ⟨rfl, hb1⟩; replace H0 := Lib.hid (below_row hb1 H0.out); replace hb := hb.trans (hb1.mono hb.size); clear hb1) | (go_at_call 42; refine (HS.out _).mono ?_; rintro e W1 ⟨rfl, hb1⟩; replace H0 := Lib.hid (below_row hb1 H0.out); replace hb := hb.trans (hb1.mono hb.size); clear hb1) | (refine wpList_store_part rfl 32 _ _ rfl _ 0 (sunC hr tr) rfl rfl 32 _ (heap_alloc_new _ _) (by rw [sunC_size _ _ Hr.out Tr.out]; exact info_sun) (by rw [sunC_size _ _ Hr.out Tr.out]; decide) (i16s_one _) ?_; rw [laid_all _ _ (by rw [sunC_size _ _ Hr.out Tr.out]; rfl)]))
  have hlt1 := row_lt H0.out
  refine abs_code (fun W => Below w.heap.size w W ∧ W.heap[w.heap.size]? = some (.cells (sunC hs ts) 30 (0, 0)) ∧ W.heap[W1.heap.size]? = some (.cells (sunC hr tr) 32 (0, 0))) ⟨below_setRow (hb.alloc hb.size _) hb.size _, laid_old _ _ H0.out, laid_new _ _ _⟩ ?_
  clear hb H0
  generalize W1.heap.size = b1 at *
  rintro W2 ⟨hb, h0, h1⟩
  have H0 := Lib.hid h0
  have H1 := Lib.hid h1
  clear h0 h1
  go_upto_region 3 with (first | (refine wpList_load_part rfl 30 _ rfl w.heap.size 0 48 rfl 30 (sunC hs ts) (0, 0) _ H0.out Try.underlying30 rfl info_sunL (sun_fits _ _ Hh.out Ht.out) (sunC hs ts) (sun_all _ _ Hh.out Ht.out) ?_) | (go_at_call 21; refine (toSun_any hs ts Hh.out Ht.out _).mono ?_; rintro e W1 ⟨rfl, hb1⟩; replace H0 := Lib.hid (below_row hb1 H0.out); replace H1 := Lib.hid (below_row hb1 H1.out); replace hb := hb.trans (hb1.mono hb.size); clear hb1) | (go_at_call 43; refine (HI.out _).mono ?_; rintro e W1 ⟨rfl, hb1⟩; replace H0 := Lib.hid (below_row hb1 H0.out); replace H1 := Lib.hid (below_row hb1 H1.out); replace hb := hb.trans (hb1.mono hb.size); clear hb1) | (refine wpList_store_part rfl 32 _ _ rfl _ 0 (sunC hr tr) rfl rfl 32 _ (heap_alloc_new _ _) (by rw [sunC_size _ _ Hr.out Tr.out]; exact info_sun) (by rw [sunC_size _ _ Hr.out Tr.out]; decide) (i16s_one _) ?_; rw [laid_all _ _ (by rw [sunC_size _ _ Hr.out Tr.out]; rfl)]))
  have hlt2 := row_lt H1.out
  refine abs_code (fun W => Below w.heap.size w W ∧ W.heap[b1]? = some (.cells (sunC hr tr) 32 (0, 0)) ∧ W.heap[W1.heap.size]? = some (.cells (sunC hr tr) 32 (0, 0))) ⟨below_setRow (hb.alloc hb.size _) hb.size _, laid_old _ _ H1.out, laid_new _ _ _⟩ ?_
  clear hb H0 H1
  generalize W1.heap.size = b2 at *
  rintro W3 ⟨hb, h1, h2⟩
  have H1 := Lib.hid h1
  have H2 := Lib.hid h2
  clear h1 h2
  go_wp2_with (first | (refine wpList_load_part rfl 32 _ rfl b2 0 48 rfl 32 (sunC hr tr) (0, 0) _ H2.out Try.underlying32 rfl info_sun (sun_fits _ _ Hr.out Tr.out) (sunC hr tr) (sun_all _ _ Hr.out Tr.out) ?_) | (refine wpList_load_part rfl 32 _ rfl b1 0 48 rfl 32 (sunC hr tr) (0, 0) _ H1.out Try.underlying32 rfl info_sun (sun_fits _ _ Hr.out Tr.out) (sunC hr tr) (sun_all _ _ Hr.out Tr.out) ?_) | (go_at_call 44; refine (eqSun_same hr tr Hr.out Tr.out _).mono ?_; rintro e W1 ⟨rfl, hb1⟩; replace H1 := Lib.hid (below_row hb1 H1.out); replace H2 := Lib.hid (below_row hb1 H2.out); replace hb := hb.trans (hb1.mono hb.size); clear hb1))
  go_ret
  exact ⟨rfl, hb⟩


end Go.Proofs.Ytadonkadkikfpaa
