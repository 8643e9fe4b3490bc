/-
  For every two numbers: how many steps they are apart is what the model says. No conditions.
-/
import Derived.Test.YtjpnbcfdnolcjaaStpA
import Derived.Deep.Cut
import Derived.Deep.DeepCutAuto
namespace Go.Proofs.Ytjpnbcfdnolcjaa
open Go.ChangeShapes Go.WideShapes Go.ChangeAt Go.RowKit Go.Deep Go.Joins

theorem pureB {fn : Nat} {args : Array Value} {w : World} {v : Value} (h : Calls Try.prog fn args w fun e w' => e = .returned v ∧ w = w') : Calls Try.prog fn args w fun e w' => e = .returned v ∧ Below w.heap.size w w' := by
  refine h.mono ?_
  rintro e w' ⟨rfl, rfl⟩
  exact ⟨rfl, Below.refl _ _⟩
set_option maxRecDepth 100000 in
set_option maxHeartbeats 4000000 in
theorem lawStepsApart_core (a0 : Nat) (a1 : Nat) (v : Int) (c : Int) (w : World) 
    (hspec : ∀ w, Calls Try.prog 21 #[.float .f32 a0, .float .f32 a1] w fun e w' => e = .returned (.tuple #[.int .i64 v, .int .i64 c]) ∧ Below w.heap.size w w')
    (himpl : ∀ w, Calls Try.prog 22 #[.float .f32 a0, .float .f32 a1] w fun e w' => e = .returned (.tuple #[.int .i64 v, .int .i64 c]) ∧ Below w.heap.size w w') :
    Calls Try.prog 5 #[.float .f32 a0, .float .f32 a1] w fun e w' => e = .returned (.bool true) ∧ Below w.heap.size w w' := by
  have HS := Lib.hid hspec
  have HI := Lib.hid himpl
  have zc : (c != c) = false := by simp
  have zv : (v != v) = false := by simp
  have hb : Below w.heap.size w w := Below.refl _ _
  clear hspec himpl
  go_enter Try.func5, Try.ntmps5
  go_upto_region 2 with (go_at_call 21; refine (HS.out _  ).mono ?_; rintro e W1 ⟨rfl, hb1⟩; replace hb := hb.trans (hb1.mono hb.size); clear hb1)
  go_wp2_with (go_at_call 22; refine (HI.out _  ).mono ?_; rintro e W2 ⟨rfl, hb1⟩; replace hb := hb.trans (hb1.mono hb.size); clear hb1)
  go_ret
  exact ⟨rfl, hb⟩
theorem lawStepsApart_walk (a0 : Nat) (hwf0 : (Lit.float .f32 a0).wf = true) (a1 : Nat) (hwf1 : (Lit.float .f32 a1).wf = true) (w : World)  :
    Calls Try.prog 5 #[.float .f32 a0, .float .f32 a1] w fun e w' => e = .returned (.bool true) ∧ Below w.heap.size w w' := by
  cases h : plainB a0 && plainB a1 with
  | true =>
    rw [Bool.and_eq_true] at h
    exact lawStepsApart_core a0 a1 _ 0 w (fun w => pureB (sStepsApart_yes a0 a1 h.1 h.2 hwf0 hwf1 w)) (fun w => pureB (iStepsApart_yes a0 a1 h.1 h.2 hwf0 hwf1 w))
  | false => exact lawStepsApart_core a0 a1 0 1 w (fun w => pureB (sStepsApart_no a0 a1 h w)) (fun w => pureB (iStepsApart_no a0 a1 h w))

set_option maxRecDepth 100000 in
theorem FnExactStepsApart_holds : Rows.FnExactStepsApartSaid :=
  OpenClaim.holds_of_wide 5 Try.f5 rfl rfl rfl rfl rfl rfl rfl ⟨rfl, rfl, rfl, rfl, rfl⟩ rfl rfl rfl rfl rfl (by kernel_rfl) Try.func5 (by kernel_rfl)
    (of_decide_eq_true (by kernel_rfl)) (by unfold Func.isWrapper; first | (rw [if_pos (by decide +kernel)]; kernel_rfl) | (rw [if_neg (by decide +kernel)]; exact ⟨rfl, rfl⟩))
    (fun os started H enc _ => law_lifted 5 Try.f5 Rows.fnExactStepsApartSpec Rows.fnExactStepsApartRow.domain os started H enc (by kernel_rfl) Try.func5 rfl rfl
      (by rw [Try.params5]; intro t ht; simp only [List.mem_cons, List.not_mem_nil, or_false] at ht; rcases ht with rfl | rfl <;> exact ⟨by kernel_rfl, of_decide_eq_true (by kernel_rfl)⟩)
      (fun ds hl => by
        match ds, hl with
        | [d0, d1], _ => rfl)
      (ChangeSpec.witness6 (enc := enc) (C := Try.checked) false ⟨#[], #[.float .f32 0, .float .f32 0], []⟩ 8 (by kernel_rfl) (by kernel_rfl) (by kernel_rfl) (by kernel_rfl))
      (fun W base args ds p hval hA => by
        rw [Try.params5] at hA hval
        obtain ⟨v0, vs0, d0, ds0, p0, q0, hargs, rfl, rfl, h0, r0⟩ := trodAll_cons hA
        obtain ⟨v1, vs1, d1, ds1, p1, q1, rfl, rfl, rfl, h1, r1⟩ := trodAll_cons r0
        obtain ⟨rfl, rfl, rfl⟩ := trodAll_nil r1
        obtain rfl : args = #[v0, v1] := by cases args; simp_all
        obtain ⟨a0, rfl, rfl, rfl, w0⟩ := open_float Try.underlying26 (hval 0 26 v0 rfl rfl) h0
        obtain ⟨a1, rfl, rfl, rfl, w1⟩ := open_float Try.underlying26 (hval 1 26 v1 rfl rfl) h1
        exact lawStepsApart_walk a0 w0 a1 w1 W ))
#print axioms FnExactStepsApart_holds

end Go.Proofs.Ytjpnbcfdnolcjaa
