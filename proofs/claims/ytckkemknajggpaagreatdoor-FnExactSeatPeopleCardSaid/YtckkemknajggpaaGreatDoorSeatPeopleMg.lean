/-
  SeatPeople.
-/
import Derived.Test.YtckkemknajggpaaGreatDoorMp4
import Derived.Test.YtckkemknajggpaaGreatDoorMp3
import Derived.Test.YtckkemknajggpaaGreatDoorCards
import Derived.Test.YtckkemknajggpaaGreatDoorTie
import Derived.SevenTiedAt

namespace Go.Proofs.YtckkemknajggpaaGreatDoor
open Go.ChangeShapes Go.WideShapes Go.ChangeAt Go.RowKit Go.Deep Go.Joins

set_option maxRecDepth 100000 in
set_option maxHeartbeats 4000000 in
theorem FnExactSeatPeople_row : Rows.FnExactSeatPeopleSaid :=
  OpenClaim.holds_of_wide 3 Tryz.f3 rfl rfl rfl rfl rfl rfl rfl ⟨rfl, rfl, rfl, rfl, rfl⟩ rfl rfl rfl rfl rfl (by as_aux_lemma => kernel_rfl) Tryz.func3 (by as_aux_lemma => kernel_rfl)
    (of_decide_eq_true (by as_aux_lemma => kernel_rfl)) (by unfold Func.isWrapper; first | (rw [if_pos (by decide +kernel)]; kernel_rfl) | (rw [if_neg (by decide +kernel)]; exact ⟨rfl, rfl⟩))
    (fun os started H enc _ => law_liftedC 3 Tryz.f3 Rows.fnExactSeatPeopleSpec Rows.fnExactSeatPeopleRow.domain os started H enc (by as_aux_lemma => kernel_rfl) Tryz.func3 (by as_aux_lemma => kernel_rfl) rfl rfl
      (by rw [Tryz.params3]; intro t ht; simp only [List.mem_cons, List.not_mem_nil, or_false] at ht; rcases ht with rfl | rfl | rfl <;> exact ⟨by as_aux_lemma => kernel_rfl, of_decide_eq_true (by as_aux_lemma => kernel_rfl)⟩)
      (fun ds gs hl hg => by
        match ds, hl, gs, hg with
        | [d0, d1, d2], _, [g0, g1, g2, g3], _ => rfl)
      (ChangeSpec.witness_shaped (enc := enc) (C := Tryz.checked) (os := os) (X := Met) false (World.doorLaid Tryz.prog 200 os) #[.agg #[.int .i8 0, .int .i8 0, .slice none 0 0], .slice none 0 0, .slice none 0 0] 8 rfl (World.shaped_of_RefB (by as_aux_lemma => kernel_rfl) (by as_aux_lemma => kernel_rfl)) (by as_aux_lemma => kernel_rfl) (by as_aux_lemma => kernel_rfl) (by as_aux_lemma => kernel_rfl) (door_met os _))
      (fun W base args ds p hval hA hL => by
        rw [Tryz.params3] at hA hval
        obtain ⟨v0, vs0, d0, ds0, p0, q0, hargs, rfl, rfl, h0, r0⟩ := trodAll_cons hA
        obtain ⟨v1, vs1, d1, ds1, p1, q1, rfl, rfl, rfl, h1, r1⟩ := trodAll_cons r0
        obtain ⟨v2, vs2, d2, ds2, p2, q2, rfl, rfl, rfl, h2, r2⟩ := trodAll_cons r1
        obtain ⟨rfl, rfl, rfl⟩ := trodAll_nil r2
        obtain rfl : args = #[v0, v1, v2] := by cases args; simp_all
        obtain ⟨wd0, hg0, sv0, ws0, rfl, rw0, hw0⟩ := open_room (hval 0 25 v0 rfl rfl) h0
        obtain ⟨ls1, hl1, lw1⟩ := open_desks (hval 1 26 v1 rfl rfl) h1
        obtain ⟨ls2, hl2, lw2⟩ := open_persons (hval 2 27 v2 rfl rfl) h2
        obtain ⟨e0, e1, e2, e3, hE⟩ := errs_of hL
        exact FnExactSeatPeople_walk wd0 hg0 sv0 ws0 rw0 v1 ls1 lw1 v2 ls2 lw2 W hw0 hl1 hl2 hE))

set_option maxRecDepth 100000 in
theorem FnExactSeatPeople_holds : Rows.FnExactSeatPeopleCardSaid :=
  Claim7.holds_tied_plain_at .later [] [.sentinel, .sentinel, .sentinel, .sentinel] true Rows.fnExactSeatPeopleCard.stood.harness true
    FnExactSeatPeople_row (fun _ h => by cases h) (by kernel_rfl) (fun _ h => by cases h) fnExactSeatPeople_row_tie rfl ⟨rfl, rfl⟩ (by kernel_rfl) rfl
    (fun f fn hf hfn => by
      obtain rfl : f = 3 := Option.some.inj ((show Tryz.prog.funcNamed "loop.example/g01367/laws.FnExactSeatPeople" = some 3 by kernel_rfl).symm.trans hf) |>.symm
      obtain rfl : fn = Tryz.f3 := (Option.some.inj (Tryz.func3.symm.trans hfn)).symm
      exact ⟨by kernel_rfl, fun j t ht => by
        rw [Tryz.params3] at ht
        have hm : t ∈ [25, 26, 27] := by
          have := Array.mem_of_getElem? ht
          simpa using this
        simp only [List.mem_cons, List.not_mem_nil, or_false] at hm
        rcases hm with rfl | rfl | rfl <;> (show Tryz.prog.wantsStandIn _ = false; kernel_rfl)⟩)
    (by kernel_rfl)
#print axioms FnExactSeatPeople_holds

end Go.Proofs.YtckkemknajggpaaGreatDoor
