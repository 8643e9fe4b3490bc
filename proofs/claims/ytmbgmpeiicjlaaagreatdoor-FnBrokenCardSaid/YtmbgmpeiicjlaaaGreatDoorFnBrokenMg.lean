/-
  FnBroken.
-/
import Derived.Test.YtmbgmpeiicjlaaaGreatDoorBkVMg
import Derived.Test.YtmbgmpeiicjlaaaGreatDoorMt14
import Derived.Test.YtmbgmpeiicjlaaaGreatDoorCards
import Derived.Test.YtmbgmpeiicjlaaaGreatDoorTie
import Derived.SevenTiedAt

namespace Go.Proofs.YtmbgmpeiicjlaaaGreatDoor

open Go.ChangeShapes Go.WideShapes Go.ChangeAt Go.RowKit Go.Deep Go.Joins

set_option maxRecDepth 100000 in
set_option maxHeartbeats 4000000 in
theorem FnBroken_row : Rows.FnBrokenSaid :=
  OpenClaim.holds_of_wide 3 Tryz.f3 rfl rfl rfl rfl rfl rfl rfl ⟨rfl, rfl, rfl, rfl, rfl⟩ rfl rfl rfl rfl rfl (by as_aux_lemma => kernel_rfl) Tryz.func3 (by as_aux_lemma => kernel_rfl)
    (of_decide_eq_true (by as_aux_lemma => kernel_rfl)) (by unfold Func.isWrapper; first | (rw [if_pos (by decide +kernel)]; kernel_rfl) | (rw [if_neg (by decide +kernel)]; exact ⟨rfl, rfl⟩))
    (fun os started H enc _ => law_liftedH 3 Tryz.f3 Rows.fnBrokenSpec Rows.fnBrokenRow.domain os started H enc (by as_aux_lemma => kernel_rfl) Tryz.func3 rfl rfl
      (by rw [Tryz.params3]; intro t ht; simp only [List.mem_cons, List.not_mem_nil, or_false] at ht; rcases ht with rfl | rfl <;> exact ⟨by as_aux_lemma => kernel_rfl, of_decide_eq_true (by as_aux_lemma => kernel_rfl)⟩)
      (fun ds hl => by
        match ds, hl with
        | [d0, d1], _ => rfl)
      (ChangeSpec.witness_at (enc := enc) (C := Tryz.checked) (os := os) (X := MetH) false (laidWorld os) #[.slice none 0 0, .slice none 0 0] 8 rfl (by as_aux_lemma => kernel_rfl) (by as_aux_lemma => kernel_rfl) (by as_aux_lemma => kernel_rfl) (by as_aux_lemma => kernel_rfl) (by as_aux_lemma => kernel_rfl) (laidWorld_met os _))
      (fun W base args ds p hval hA hL => by
        rw [Tryz.params3] at hA hval
        obtain ⟨v0, vs0, d0, ds0, p0, q0, hargs, rfl, rfl, h0, r0⟩ := trodAll_cons hA
        obtain ⟨v1, vs1, d1, ds1, p1, q1, rfl, rfl, rfl, h1, r1⟩ := trodAll_cons r0
        obtain ⟨rfl, rfl, rfl⟩ := trodAll_nil r1
        obtain rfl : args = #[v0, v1] := by cases args; simp_all
        obtain ⟨a0, n0, cap0, rfl, hb0⟩ := open_byteS (hval 0 22 v0 rfl rfl) h0
        obtain ⟨a1, n1, cap1, rfl, hb1⟩ := open_byteS (hval 1 22 v1 rfl rfl) h1
        have hE := handle_of_laid hL
        exact FnBroken_walk a0 n0 cap0 a1 n1 cap1 W hb0 hb1 hE))

set_option maxRecDepth 100000 in
theorem FnBroken_holds : Rows.FnBrokenCardSaid :=
  Claim7.holds_tied_plain_at .later [] [.handle] true Rows.fnBrokenCard.stood.harness true
    FnBroken_row (fun _ h => by cases h) (by kernel_rfl) (fun _ h => by cases h) fnBroken_row_tie rfl ⟨rfl, rfl⟩ (by kernel_rfl) rfl
    (fun f fn hf hfn => by
      obtain rfl : f = 3 := Option.some.inj ((show Tryz.prog.funcNamed "loop.example/g01367/laws.FnBroken" = some 3 by kernel_rfl).symm.trans hf) |>.symm
      obtain rfl : fn = Tryz.f3 := (Option.some.inj (Tryz.func3.symm.trans hfn)).symm
      exact ⟨by kernel_rfl, fun j t ht => by
        rw [Tryz.params3] at ht
        have hm : t ∈ [22, 22] := by
          have := Array.mem_of_getElem? ht
          simpa using this
        simp only [List.mem_cons, List.not_mem_nil, or_false] at hm
        rcases hm with rfl | rfl <;> (show Tryz.prog.wantsStandIn _ = false; kernel_rfl)⟩)
    (by kernel_rfl)

#print axioms FnBroken_holds

end Go.Proofs.YtmbgmpeiicjlaaaGreatDoor
