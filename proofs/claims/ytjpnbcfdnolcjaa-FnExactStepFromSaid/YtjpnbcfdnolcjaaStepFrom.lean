/-
  For every number, plain or not, and every number of steps: the number so many steps away is what the model says. No conditions.
-/
import Derived.Test.YtjpnbcfdnolcjaaStpB
import Derived.Deep.Cut
import Derived.Deep.DeepCutAuto
namespace Go.Proofs.Ytjpnbcfdnolcjaa
open Go.ChangeShapes Go.WideShapes Go.ChangeAt Go.RowKit Go.Deep Go.Joins

theorem pureB {fn : Nat} {args : Array Value} {w : World} {v : Value} (h : Calls Try.prog fn args w fun e w' => e = .returned v ∧ w = w') : Calls Try.prog fn args w fun e w' => e = .returned v ∧ Below w.heap.size w w' := by
  refine h.mono ?_
  rintro e w' ⟨rfl, rfl⟩
  exact ⟨rfl, Below.refl _ _⟩
set_option maxRecDepth 100000 in
set_option maxHeartbeats 4000000 in
theorem lawStepFrom_core (a0 : Nat) (a1 : Int) (v : Nat) (c : Int) (hv : fin32 v = true) (w : World) 
    (hspec : ∀ w, Calls Try.prog 23 #[.float .f32 a0, .int .i64 a1] w fun e w' => e = .returned (.tuple #[.float .f32 v, .int .i64 c]) ∧ Below w.heap.size w w')
    (himpl : ∀ w, Calls Try.prog 24 #[.float .f32 a0, .int .i64 a1] w fun e w' => e = .returned (.tuple #[.float .f32 v, .int .i64 c]) ∧ Below w.heap.size w w') :
    Calls Try.prog 6 #[.float .f32 a0, .int .i64 a1] w fun e w' => e = .returned (.bool true) ∧ Below w.heap.size w w' := by
  have HS := Lib.hid hspec
  have HI := Lib.hid himpl
  have hw0 := run_wide _ hv
  have Hv0 := Lib.hid hv
  have zc : (c != c) = false := by simp
  clear hv
  have hb : Below w.heap.size w w := Below.refl _ _
  clear hspec himpl
  go_enter Try.func6, Try.ntmps6
  go_upto_region 2 with (go_at_call 23; refine (HS.out _  ).mono ?_; rintro e W1 ⟨rfl, hb1⟩; replace hb := hb.trans (hb1.mono hb.size); clear hb1)
  go_upto_region 3 with (go_at_call 24; refine (HI.out _  ).mono ?_; rintro e W2 ⟨rfl, hb1⟩; replace hb := hb.trans (hb1.mono hb.size); clear hb1)
  go_wp2_with (go_at_call 25; refine (same_wide _ Hv0.out _).mono ?_; rintro e u1 ⟨rfl, rfl⟩)
  go_ret
  exact ⟨rfl, hb⟩
theorem lawStepFrom_walk (a0 : Nat) (hwf0 : (Lit.float .f32 a0).wf = true) (a1 : Int) (w : World)  :
    Calls Try.prog 6 #[.float .f32 a0, .int .i64 a1] w fun e w' => e = .returned (.bool true) ∧ Below w.heap.size w w' := by
  exact lawStepFrom_core a0 a1 (valSt a0 a1) (codeSt a0 a1) (valSt_fin a0 hwf0 a1) w (fun w => pureB (sStepFrom_any a0 hwf0 a1 w)) (fun w => pureB (iStepFrom_any a0 hwf0 a1 w))

set_option maxRecDepth 100000 in
theorem FnExactStepFrom_holds : Rows.FnExactStepFromSaid :=
  OpenClaim.holds_of_wide 6 Try.f6 rfl rfl rfl rfl rfl rfl rfl ⟨rfl, rfl, rfl, rfl, rfl⟩ rfl rfl rfl rfl rfl (by kernel_rfl) Try.func6 (by kernel_rfl)
    (of_decide_eq_true (by kernel_rfl)) (by unfold Func.isWrapper; first | (rw [if_pos (by decide +kernel)]; kernel_rfl) | (rw [if_neg (by decide +kernel)]; exact ⟨rfl, rfl⟩))
    (fun os started H enc _ => law_lifted 6 Try.f6 Rows.fnExactStepFromSpec Rows.fnExactStepFromRow.domain os started H enc (by kernel_rfl) Try.func6 rfl rfl
      (by rw [Try.params6]; intro t ht; simp only [List.mem_cons, List.not_mem_nil, or_false] at ht; rcases ht with rfl | rfl <;> exact ⟨by kernel_rfl, of_decide_eq_true (by kernel_rfl)⟩)
      (fun ds hl => by
        match ds, hl with
        | [d0, d1], _ => rfl)
      (ChangeSpec.witness6 (enc := enc) (C := Try.checked) false ⟨#[], #[.float .f32 0, .int .i64 0], []⟩ 8 (by kernel_rfl) (by kernel_rfl) (by kernel_rfl) (by kernel_rfl))
      (fun W base args ds p hval hA => by
        rw [Try.params6] at hA hval
        obtain ⟨v0, vs0, d0, ds0, p0, q0, hargs, rfl, rfl, h0, r0⟩ := trodAll_cons hA
        obtain ⟨v1, vs1, d1, ds1, p1, q1, rfl, rfl, rfl, h1, r1⟩ := trodAll_cons r0
        obtain ⟨rfl, rfl, rfl⟩ := trodAll_nil r1
        obtain rfl : args = #[v0, v1] := by cases args; simp_all
        obtain ⟨a0, rfl, rfl, rfl, w0⟩ := open_float Try.underlying26 (hval 0 26 v0 rfl rfl) h0
        obtain ⟨a1, rfl, rfl, rfl, w1⟩ := open_int Try.underlying2 (hval 1 2 v1 rfl rfl) h1
        exact lawStepFrom_walk a0 w0 a1 W ))
#print axioms FnExactStepFrom_holds

end Go.Proofs.Ytjpnbcfdnolcjaa
