/-
  PlaceDesks.
-/
import Derived.Test.YtddnfbpgldchcaaDoorMq3
import Derived.Test.YtddnfbpgldchcaaDoorLawC
import Derived.Test.YtddnfbpgldchcaaDoorCards
import Derived.Test.YtddnfbpgldchcaaDoorTie
import Derived.SevenTiedAt

namespace Go.Proofs.YtddnfbpgldchcaaDoor
open Go.ChangeShapes Go.WideShapes Go.ChangeAt Go.RowKit Go.Deep Go.Joins

set_option maxRecDepth 100000 in
set_option maxHeartbeats 4000000 in
theorem FnExactPlaceDesks_row : Rows.FnExactPlaceDesksSaid :=
  OpenClaim.holds_of_wide 3 Tryd.f3 rfl rfl rfl rfl rfl rfl rfl ⟨rfl, rfl, rfl, rfl, rfl⟩ rfl rfl rfl rfl rfl (by as_aux_lemma => kernel_rfl) Tryd.func3 (by as_aux_lemma => kernel_rfl)
    (of_decide_eq_true (by as_aux_lemma => kernel_rfl)) (by unfold Func.isWrapper; first | (rw [if_pos (by decide +kernel)]; kernel_rfl) | (rw [if_neg (by decide +kernel)]; exact ⟨rfl, rfl⟩))
    (fun os started H enc _ => law_liftedC 3 Tryd.f3 Rows.fnExactPlaceDesksSpec Rows.fnExactPlaceDesksRow.domain os started H enc (by as_aux_lemma => kernel_rfl) Tryd.func3 (by as_aux_lemma => kernel_rfl) rfl rfl
      (by rw [Tryd.params3]; intro t ht; simp only [List.mem_cons, List.not_mem_nil, or_false] at ht; rcases ht with rfl | rfl | rfl <;> exact ⟨by as_aux_lemma => kernel_rfl, of_decide_eq_true (by as_aux_lemma => kernel_rfl)⟩)
      (fun ds gs hl hg => by
        match ds, hl, gs, hg with
        | [d0, d1, d2], _, [g0, g1, g2, g3], _ => rfl)
      (ChangeSpec.witness_shaped (enc := enc) (C := Tryd.checked) (os := os) (X := Met) false (World.doorLaid Tryd.prog 200 os) #[.agg #[.int .i8 0, .int .i8 0, .slice none 0 0], .float .f32 0, .int .i64 0] 8 rfl (World.shaped_of_RefB (by as_aux_lemma => kernel_rfl) (by as_aux_lemma => kernel_rfl)) (by as_aux_lemma => kernel_rfl) (by as_aux_lemma => kernel_rfl) (by as_aux_lemma => kernel_rfl) (door_met os _))
      (fun W base args ds p hval hA hL => by
        rw [Tryd.params3] at hA hval
        obtain ⟨v0, vs0, d0, ds0, p0, q0, hargs, rfl, rfl, h0, r0⟩ := trodAll_cons hA
        obtain ⟨v1, vs1, d1, ds1, p1, q1, rfl, rfl, rfl, h1, r1⟩ := trodAll_cons r0
        obtain ⟨v2, vs2, d2, ds2, p2, q2, rfl, rfl, rfl, h2, r2⟩ := trodAll_cons r1
        obtain ⟨rfl, rfl, rfl⟩ := trodAll_nil r2
        obtain rfl : args = #[v0, v1, v2] := by cases args; simp_all
        obtain ⟨wd0, hg0, sv0, ws0, rfl, rw0, hw0⟩ := open_room (hval 0 25 v0 rfl rfl) h0
        obtain ⟨a1, rfl, rfl, rfl, w1⟩ := open_float Tryd.underlying26 (hval 1 26 v1 rfl rfl) h1
        obtain ⟨a2, rfl, rfl, rfl, w2⟩ := open_int Tryd.underlying2 (hval 2 2 v2 rfl rfl) h2
        obtain ⟨e0, e1, e2, e3, hE⟩ := errs_of hL
        exact FnExactPlaceDesks_walk wd0 hg0 sv0 ws0 rw0 a1 w1 a2 W hw0 hE))

set_option maxRecDepth 100000 in
theorem FnExactPlaceDesks_holds : Rows.FnExactPlaceDesksCardSaid :=
  Claim7.holds_tied_plain_at .later [] [.sentinel, .sentinel, .sentinel, .sentinel] true Rows.fnExactPlaceDesksCard.stood.harness true
    FnExactPlaceDesks_row (fun _ h => by cases h) (by kernel_rfl) (fun _ h => by cases h) fnExactPlaceDesks_row_tie rfl ⟨rfl, rfl⟩ (by kernel_rfl) rfl
    (fun f fn hf hfn => by
      obtain rfl : f = 3 := Option.some.inj ((show Tryd.prog.funcNamed "loop.example/g01367/laws.FnExactPlaceDesks" = some 3 by kernel_rfl).symm.trans hf) |>.symm
      obtain rfl : fn = Tryd.f3 := (Option.some.inj (Tryd.func3.symm.trans hfn)).symm
      exact ⟨by kernel_rfl, fun j t ht => by
        rw [Tryd.params3] at ht
        have hm : t ∈ [25, 26, 2] := by
          have := Array.mem_of_getElem? ht
          simpa using this
        simp only [List.mem_cons, List.not_mem_nil, or_false] at hm
        rcases hm with rfl | rfl | rfl <;> (show Tryd.prog.wantsStandIn _ = false; kernel_rfl)⟩)
    (by kernel_rfl)
#print axioms FnExactPlaceDesks_holds

end Go.Proofs.YtddnfbpgldchcaaDoor
