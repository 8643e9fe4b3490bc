/-
  For every room, desk and person, valid or not: whether the desk suits the person is what the model says. No conditions.
-/
import Derived.Test.YtnienahjfocalabDoorSuitsW
import Derived.Test.YtnienahjfocalabDoorLawC
import Derived.Test.YtnienahjfocalabDoorCards
import Derived.Test.YtnienahjfocalabDoorTie
import Derived.SevenTiedAt
import Derived.Test.YtnienahjfocalabDoorRoomP
namespace Go.Proofs.YtnienahjfocalabDoor
open Go.ChangeShapes Go.WideShapes Go.ChangeAt Go.RowKit Go.Deep Go.Joins

set_option maxRecDepth 100000 in
set_option maxHeartbeats 4000000 in
theorem FnExactSuits_row : Rows.FnExactSuitsSaid :=
  OpenClaim.holds_of_wide 8 Tryd.f8 rfl rfl rfl rfl rfl rfl rfl ⟨rfl, rfl, rfl, rfl, rfl⟩ rfl rfl rfl rfl rfl (by as_aux_lemma => kernel_rfl) Tryd.func8 (by as_aux_lemma => kernel_rfl)
    (of_decide_eq_true (by as_aux_lemma => kernel_rfl)) (by unfold Func.isWrapper; first | (rw [if_pos (by decide +kernel)]; kernel_rfl) | (rw [if_neg (by decide +kernel)]; exact ⟨rfl, rfl⟩))
    (fun os started H enc _ => law_liftedC 8 Tryd.f8 Rows.fnExactSuitsSpec Rows.fnExactSuitsRow.domain os started H enc (by as_aux_lemma => kernel_rfl) Tryd.func8 (by as_aux_lemma => kernel_rfl) rfl rfl
      (by rw [Tryd.params8]; intro t ht; simp only [List.mem_cons, List.not_mem_nil, or_false] at ht; rcases ht with rfl | rfl | rfl <;> exact ⟨by as_aux_lemma => kernel_rfl, of_decide_eq_true (by as_aux_lemma => kernel_rfl)⟩)
      (fun ds gs hl hg => by
        match ds, hl, gs, hg with
        | [d0, d1, d2], _, [g0, g1, g2, g3], _ => rfl)
      (ChangeSpec.witness_shaped (enc := enc) (C := Tryd.checked) (os := os) (X := Met) false (World.doorLaid Tryd.prog 200 os) #[.agg #[.int .i8 0, .int .i8 0, .slice none 0 0], .agg #[.int .i8 0, .int .i8 0, .int .i8 0], .agg #[.float .f32 0, .float .f32 0, .float .f32 0]] 8 rfl (World.shaped_of_RefB (by as_aux_lemma => kernel_rfl) (by as_aux_lemma => kernel_rfl)) (by as_aux_lemma => kernel_rfl) (by as_aux_lemma => kernel_rfl) (by as_aux_lemma => kernel_rfl) (door_met os _))
      (fun W base args ds p hval hA hL => by
        rw [Tryd.params8] at hA hval
        obtain ⟨v0, vs0, d0, ds0, p0, q0, hargs, rfl, rfl, h0, r0⟩ := trodAll_cons hA
        obtain ⟨v1, vs1, d1, ds1, p1, q1, rfl, rfl, rfl, h1, r1⟩ := trodAll_cons r0
        obtain ⟨v2, vs2, d2, ds2, p2, q2, rfl, rfl, rfl, h2, r2⟩ := trodAll_cons r1
        obtain ⟨rfl, rfl, rfl⟩ := trodAll_nil r2
        obtain rfl : args = #[v0, v1, v2] := by cases args; simp_all
        obtain ⟨wd0, hg0, sv0, ws0, rfl, rw0, hw0⟩ := open_room (hval 0 42 v0 rfl rfl) h0
        obtain ⟨dx1, dy1, dw1, dww1, rfl⟩ := open_desk (hval 1 62 v1 rfl rfl) h1
        obtain ⟨pl2, pm2, pg2, pw2, rfl⟩ := open_person (hval 2 64 v2 rfl rfl) h2
        obtain ⟨e0, e1, e2, e3, hE⟩ := errs_of hL
        exact lawSuits_walk wd0 hg0 sv0 ws0 rw0 dx1 dy1 dw1 dww1 pl2 pm2 pg2 pw2 W hw0 hE))

set_option maxRecDepth 100000 in
theorem FnExactSuits_holds : Rows.FnExactSuitsCardSaid :=
  Claim7.holds_tied_plain_at .later [] [.sentinel, .sentinel, .sentinel, .sentinel] true Rows.fnExactSuitsCard.stood.harness true
    FnExactSuits_row (fun _ h => by cases h) (by kernel_rfl) (fun _ h => by cases h) fnExactSuits_row_tie rfl ⟨rfl, rfl⟩ (by kernel_rfl) rfl
    (fun f fn hf hfn => by
      obtain rfl : f = 8 := Option.some.inj ((show Tryd.prog.funcNamed "loop.example/g01367/laws.FnExactSuits" = some 8 by kernel_rfl).symm.trans hf) |>.symm
      obtain rfl : fn = Tryd.f8 := (Option.some.inj (Tryd.func8.symm.trans hfn)).symm
      exact ⟨by kernel_rfl, fun j t ht => by
        rw [Tryd.params8] at ht
        have hm : t ∈ [42, 62, 64] := by
          have := Array.mem_of_getElem? ht
          simpa using this
        simp only [List.mem_cons, List.not_mem_nil, or_false] at hm
        rcases hm with rfl | rfl | rfl <;> (show Tryd.prog.wantsStandIn _ = false; kernel_rfl)⟩)
    (by kernel_rfl)
#print axioms FnExactSuits_holds

end Go.Proofs.YtnienahjfocalabDoor
