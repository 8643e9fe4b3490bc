/-
  For every blind, height and wanted light, valid or not: the tilt that passes nearest, and what passes then, are what the model says. No conditions.
-/
import Derived.Test.YtelgcggcmjdhjabTfR
import Derived.Test.YtelgcggcmjdhjabLeave
namespace Go.Proofs.Ytelgcggcmjdhjab
open Go.ChangeShapes Go.WideShapes Go.ChangeAt Go.RowKit Go.Deep Go.Joins

theorem lawTiltFor_walk (n : Int) (wd gp : Nat) (t : Int) (sh : Nat) (bw : BlWf n wd gp t sh) (h : Int) (want : Nat) (hww : (Lit.float .f32 want).wf = true) (w : World) :
    Calls Try.prog 7 #[.agg (blindC n wd gp t sh), .int .i64 h, .float .f32 want] w fun e w' => e = .returned (.bool true) ∧ Below w.heap.size w w' := by
  by_cases hk : okBl n wd gp t sh = true ∧ fineT h want = true
  · obtain ⟨hk, hf⟩ := hk
    unfold fineT at hf
    rw [Bool.and_eq_true] at hf
    obtain ⟨hi, hp⟩ := hf
    have OK := blok_of bw hk
    exact FnExactTiltFor_core n wd gp t sh h want _ _ 0 (pT_fin wd gp OK.2.2.2.2.2.2.2.2 h _) (fun w => sTF_yes n wd gp t sh bw h want hww w hk hi hp) (fun w => iTF_yes n wd gp t sh bw h want hww w hk hi hp) w
  · exact FnExactTiltFor_core n wd gp t sh h want 0 0 _ zero_fin (fun w => sTF_no n wd gp t sh bw h want w hk) (fun w => iTF_no n wd gp t sh bw h want w hk) w

set_option maxRecDepth 100000 in
theorem FnExactTiltFor_holds : Rows.FnExactTiltForSaid :=
  OpenClaim.holds_of_wide_leaving 7 Try.f7 rfl rfl rfl rfl rfl rfl rfl ⟨rfl, rfl, rfl, rfl, rfl⟩ rfl rfl rfl rfl rfl (by kernel_rfl) Try.func7 (by kernel_rfl)
    (of_decide_eq_true (by kernel_rfl)) (by unfold Func.isWrapper; first | (rw [if_pos (by decide +kernel)]; kernel_rfl) | (rw [if_neg (by decide +kernel)]; exact ⟨rfl, rfl⟩))
    (fun os started H enc _ => leaving_of_handed (law_lifted 7 Try.f7 Rows.fnExactTiltForSpec Rows.fnExactTiltForRow.domain os started H enc (by kernel_rfl) Try.func7 rfl rfl
      (by rw [Try.params7]; intro t ht; simp only [List.mem_cons, List.not_mem_nil, or_false] at ht; rcases ht with rfl | rfl | rfl <;> exact ⟨by kernel_rfl, of_decide_eq_true (by kernel_rfl)⟩)
      (fun ds hl => by
        match ds, hl with
        | [d0, d1, d2], _ => rfl)
      (ChangeSpec.witness6 (enc := enc) (C := Try.checked) false ⟨#[], #[.agg #[.int .i8 0, .float .f32 0, .float .f32 0, .int .i16 0, .float .f32 0], .int .i64 0, .float .f32 0], []⟩ 8 (by kernel_rfl) (by kernel_rfl) (by kernel_rfl) (by kernel_rfl))
      (fun W base args ds p hval hA => by
        rw [Try.params7] at hA hval
        obtain ⟨v0, vs0, d0, ds0, p0, q0, hargs, rfl, rfl, h0, r0⟩ := trodAll_cons hA
        obtain ⟨v1, vs1, d1, ds1, p1, q1, rfl, rfl, rfl, h1, r1⟩ := trodAll_cons r0
        obtain ⟨v2, vs2, d2, ds2, p2, q2, rfl, rfl, rfl, h2, r2⟩ := trodAll_cons r1
        obtain ⟨rfl, rfl, rfl⟩ := trodAll_nil r2
        obtain rfl : args = #[v0, v1, v2] := by cases args; simp_all
        obtain ⟨n0, wd0, gp0, t0, sh0, bw0, rfl⟩ := open_blind (hval 0 28 v0 rfl rfl) h0
        obtain ⟨a1, rfl, rfl, rfl, w1⟩ := open_int Try.underlying2 (hval 1 2 v1 rfl rfl) h1
        obtain ⟨a2, rfl, rfl, rfl, w2⟩ := open_float Try.underlying22 (hval 2 22 v2 rfl rfl) h2
        exact lawTiltFor_walk n0 wd0 gp0 t0 sh0 bw0 a1 a2 w2 W )))
#print axioms FnExactTiltFor_holds

end Go.Proofs.Ytelgcggcmjdhjab
