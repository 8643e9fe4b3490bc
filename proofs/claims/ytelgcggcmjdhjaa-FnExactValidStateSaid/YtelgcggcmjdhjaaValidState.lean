/-
  For every state: whether it is valid is what the model says. No conditions.
-/
import Derived.Test.YtelgcggcmjdhjaaCtOk
namespace Go.Proofs.Ytelgcggcmjdhjaa
open Go.ChangeShapes Go.WideShapes Go.ChangeAt Go.RowKit Go.Deep Go.Joins

set_option maxRecDepth 100000 in
set_option maxHeartbeats 1000000 in
theorem FnExactValidState_core (ti : Int) (wt : Int) (sm : Int) (v0 : Bool)
    (hspec : ∀ w, Calls Try.prog 18 #[.agg (saC ti wt sm)] w fun e w' => e = .returned (.bool v0) ∧ Below w.heap.size w w')
    (himpl : ∀ w, Calls Try.prog 20 #[.agg (saC ti wt sm)] w fun e w' => e = .returned (.bool v0) ∧ Below w.heap.size w w') (w : World) :
    Calls Try.prog 4 #[.agg (saC ti wt sm)] w fun e w' => e = .returned (.bool true) ∧ Below w.heap.size w w' := by
  have HS := Lib.hid hspec
  have HI := Lib.hid himpl
  clear hspec himpl
  go_enter Try.func4, Try.ntmps4
  go_upto_region 1 with (fail)
  refine abs_world (fun W => Below w.heap.size w W ∧ W.heap[w.heap.size]? = some (.cells (saC ti wt sm) 32 (0, 0))) ⟨(Below.refl _ _).alloc (Nat.le_refl _) _, heap_alloc_new _ _⟩ ?_
  rintro W ⟨hb, h0⟩
  have H0 := Lib.hid h0
  clear h0
  go_wp2_with (first | (refine wpList_load_part rfl 32 _ rfl w.heap.size 0 3 rfl 32 (saC ti wt sm) (0, 0) _ H0.out Try.underlying32 rfl info_saL (sa_fits _ _ _) _ (sa_all _ _ _) ?_) | (go_at_call 19; refine (toState_any _ _ _ _).mono ?_; rintro e W1 ⟨rfl, hb1⟩; replace H0 := Lib.hid (below_row hb1 H0.out); replace hb := hb.trans (hb1.mono hb.size); clear hb1) | (go_at_call 18; refine (HS.out _).mono ?_; rintro e W1 ⟨rfl, hb1⟩; replace H0 := Lib.hid (below_row hb1 H0.out); replace hb := hb.trans (hb1.mono hb.size); clear hb1) | (go_at_call 20; refine (HI.out _).mono ?_; rintro e W1 ⟨rfl, hb1⟩; replace H0 := Lib.hid (below_row hb1 H0.out); replace hb := hb.trans (hb1.mono hb.size); clear hb1))
  go_ret
  exact ⟨rfl, hb⟩

theorem lawStateValid_walk (ti : Int) (wt : Int) (sm : Int) (hw : SaWf ti wt sm) (w : World) :
    Calls Try.prog 4 #[.agg (saC ti wt sm)] w fun e w' => e = .returned (.bool true) ∧ Below w.heap.size w w' :=
  FnExactValidState_core ti wt sm _ (fun w => specValidState_any ti wt sm hw w) (fun w => implValidState_any ti wt sm hw w) w

set_option maxRecDepth 100000 in
theorem FnExactValidState_holds : Rows.FnExactValidStateSaid :=
  OpenClaim.holds_of_wide 4 Try.f4 rfl rfl rfl rfl rfl rfl rfl ⟨rfl, rfl, rfl, rfl, rfl⟩ rfl rfl rfl rfl rfl (by kernel_rfl) Try.func4 (by kernel_rfl)
    (of_decide_eq_true (by kernel_rfl)) (by unfold Func.isWrapper; first | (rw [if_pos (by decide +kernel)]; kernel_rfl) | (rw [if_neg (by decide +kernel)]; exact ⟨rfl, rfl⟩))
    (fun os started H enc _ => law_lifted 4 Try.f4 Rows.fnExactValidStateSpec Rows.fnExactValidStateRow.domain os started H enc (by kernel_rfl) Try.func4 rfl rfl
      (by rw [Try.params4]; intro t ht; simp only [List.mem_cons, List.not_mem_nil, or_false] at ht; subst ht <;> exact ⟨by kernel_rfl, of_decide_eq_true (by kernel_rfl)⟩)
      (fun ds hl => by
        match ds, hl with
        | [d0], _ => rfl)
      (ChangeSpec.witness6 (enc := enc) (C := Try.checked) false ⟨#[], #[.agg #[.int .i16 0, .int .i8 0, .int .i8 0]], []⟩ 8 (by kernel_rfl) (by kernel_rfl) (by kernel_rfl) (by kernel_rfl))
      (fun W base args ds p hval hA => by
        rw [Try.params4] at hA hval
        obtain ⟨v0, vs0, d0, ds0, p0, q0, hargs, rfl, rfl, h0, r0⟩ := trodAll_cons hA
        obtain ⟨rfl, rfl, rfl⟩ := trodAll_nil r0
        obtain rfl : args = #[v0] := by cases args; simp_all
        obtain ⟨sti0, swt0, ssm0, swf0, rfl⟩ := open_sa (hval 0 32 v0 rfl rfl) h0
        exact lawStateValid_walk sti0 swt0 ssm0 swf0 W ))
#print axioms FnExactValidState_holds

end Go.Proofs.Ytelgcggcmjdhjaa
