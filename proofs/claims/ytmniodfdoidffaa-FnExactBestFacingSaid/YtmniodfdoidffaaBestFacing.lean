/-
  For every sun: the facing with the most light is the model's, and so is the light. No conditions.
-/
import Derived.Test.YtmniodfdoidffaaBfD
namespace Go.Proofs.Ytmniodfdoidffaa
open Go.ChangeShapes Go.WideShapes Go.ChangeAt Go.RowKit

theorem FnExactBestFacing_walk (hs ts : List Int) (hh : hs.length = 24) (ht : ts.length = 24) (rb : ∀ x ∈ hs ++ ts, -32768 ≤ x ∧ x ≤ 32767) (w : World) :
    Calls Try.prog 5 #[.agg (sunC hs ts)] w fun e w' => e = .returned (.bool true) ∧ Below w.heap.size w w' := by
  cases h : okB hs ts with
  | true => exact FnExactBestFacing_core hs ts hh ht _ _ _ (pos_fin (bestF_pos hs ts 256)) (fun w => sBestF_yes hs ts hh ht rb h w) (fun w => iBestF_yes hs ts hh ht h w) w
  | false => exact FnExactBestFacing_core hs ts hh ht _ _ _ zero_fin (fun w => sBestF_no hs ts hh ht rb h w) (fun w => iBestF_no hs ts hh ht h w) w

set_option maxRecDepth 100000 in
theorem FnExactBestFacing_holds : Rows.FnExactBestFacingSaid :=
  OpenClaim.holds_of_wide 5 Try.f5 rfl rfl rfl rfl rfl rfl rfl ⟨rfl, rfl, rfl, rfl, rfl⟩ rfl rfl rfl rfl rfl (by kernel_rfl) Try.func5 (by kernel_rfl)
    (of_decide_eq_true (by kernel_rfl)) (by unfold Func.isWrapper; first | (rw [if_pos (by decide +kernel)]; kernel_rfl) | (rw [if_neg (by decide +kernel)]; exact ⟨rfl, rfl⟩))
    (fun os started H enc _ => law_lifted 5 Try.f5 Rows.fnExactBestFacingSpec Rows.fnExactBestFacingRow.domain os started H enc (by kernel_rfl) Try.func5 rfl rfl
      (by rw [Try.params5]; intro t ht; simp only [List.mem_cons, List.not_mem_nil, or_false] at ht; subst ht <;> exact ⟨by kernel_rfl, of_decide_eq_true (by kernel_rfl)⟩)
      (fun ds hl => by
        match ds, hl with
        | [d0], _ => rfl)
      (ChangeSpec.witness6 (enc := enc) (C := Try.checked) false ⟨#[], #[.agg #[.int .i16 0, .int .i16 0, .int .i16 0, .int .i16 0, .int .i16 0, .int .i16 0, .int .i16 0, .int .i16 0, .int .i16 0, .int .i16 0, .int .i16 0, .int .i16 0, .int .i16 0, .int .i16 0, .int .i16 0, .int .i16 0, .int .i16 0, .int .i16 0, .int .i16 0, .int .i16 0, .int .i16 0, .int .i16 0, .int .i16 0, .int .i16 0, .int .i16 0, .int .i16 0, .int .i16 0, .int .i16 0, .int .i16 0, .int .i16 0, .int .i16 0, .int .i16 0, .int .i16 0, .int .i16 0, .int .i16 0, .int .i16 0, .int .i16 0, .int .i16 0, .int .i16 0, .int .i16 0, .int .i16 0, .int .i16 0, .int .i16 0, .int .i16 0, .int .i16 0, .int .i16 0, .int .i16 0, .int .i16 0]], []⟩ 8 (by kernel_rfl) (by kernel_rfl) (by kernel_rfl) (by kernel_rfl))
      (fun W base args ds p hval hA => by
        rw [Try.params5] at hA hval
        obtain ⟨v0, vs0, d0, ds0, p0, q0, hargs, rfl, rfl, h0, r0⟩ := trodAll_cons hA
        obtain ⟨rfl, rfl, rfl⟩ := trodAll_nil r0
        obtain rfl : args = #[v0] := by cases args; simp_all
        obtain ⟨hs0, ts0, hh0, ht0, rb0, rfl⟩ := open_sun (hval 0 57 v0 rfl rfl) h0
        exact FnExactBestFacing_walk hs0 ts0 hh0 ht0 rb0 W ))
#print axioms FnExactBestFacing_holds

end Go.Proofs.Ytmniodfdoidffaa
