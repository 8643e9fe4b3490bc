/-
  For every two numbers of single precision: whether they are the same is what the model says. No conditions.
-/
import Derived.Test.YtadonkadkikfpabLaw
import Derived.WalkSpells
import Derived.WalkLawsBesides
import Derived.Lib.Hide
namespace Go.Proofs.Ytadonkadkikfpab
open Go.ChangeShapes Go.WideShapes Go.ChangeAt Go.RowKit

theorem run_bits (a : Nat) (w : World) : (callFunc 40 #[.float .f32 a]).run Try.prog w = .ok (.value (.int .u32 a)) w := by kernel_rfl

theorem order_self (a : Nat) : FloatKind.f32.format.order a a = some .eq ∨ FloatKind.f32.format.order a a = none := by
  show (Ieee.single.read a).order (Ieee.single.read a) = some .eq ∨ _
  generalize hd : Ieee.single.read a = d
  have e : FloatKind.f32.format.order a a = d.order d := by show (Ieee.single.read a).order (Ieee.single.read a) = _; rw [hd]
  rw [e]
  cases d with
  | number s m e => left; simp [Ieee.Datum.order]
  | infinity s => left; simp [Ieee.Datum.order]
  | nan s f => right; rfl

set_option maxHeartbeats 400000 in
theorem numberBits_num (a : Nat) (h : FloatKind.f32.format.order a a = some .eq) (w : World) :
    Calls Try.prog 26 #[.float .f32 a] w fun e w' => e = .returned (.int .u32 a) ∧ w = w' := by
  have hb := run_bits a
  go_enter Try.func26, Try.ntmps26
  go_wp2
  go_ret
  exact ⟨rfl, rfl⟩
set_option maxHeartbeats 400000 in
theorem numberBits_nan (a : Nat) (h : FloatKind.f32.format.order a a = none) (w : World) :
    Calls Try.prog 26 #[.float .f32 a] w fun e w' => e = .returned (.int .u32 2143289344) ∧ w = w' := by
  go_enter Try.func26, Try.ntmps26
  go_wp2
  go_ret
  exact ⟨rfl, rfl⟩

theorem not_nan {a : Nat} (h : FloatKind.f32.format.order a a = some .eq) : ((a : Int) == 2143289344) = false ∧ ((2143289344 : Int) == (a : Int)) = false := by
  have hn : FloatKind.f32.format.order 2143289344 2143289344 = none := by decide +kernel
  have hne : (a : Int) ≠ 2143289344 := fun e => by
    have e' : a = 2143289344 := by omega
    rw [e', hn] at h; cases h
  exact ⟨beq_eq_false_iff_ne.2 hne, beq_eq_false_iff_ne.2 (Ne.symm hne)⟩

set_option maxHeartbeats 1000000 in
theorem lawSameNumber_walk (a : Nat) (_ : (Lit.float .f32 a).wf = true) (b : Nat) (_ : (Lit.float .f32 b).wf = true) (w : World) :
    Calls Try.prog 4 #[.float .f32 a, .float .f32 b] w fun e w' => e = .returned (.bool true) ∧ Below w.heap.size w w' := by
  have ra := run_bits a
  have rb := run_bits b
  rcases order_self a with ha | ha <;> rcases order_self b with hb | hb
  · go_enter Try.func4, Try.ntmps4
    go_wp2
    all_goals (go_ret; exact ⟨rfl, Below.refl _ _⟩)
  · obtain ⟨n1, n2⟩ := not_nan ha
    go_enter Try.func4, Try.ntmps4
    go_wp2
    all_goals (go_ret; exact ⟨rfl, Below.refl _ _⟩)
  · obtain ⟨n1, n2⟩ := not_nan hb
    go_enter Try.func4, Try.ntmps4
    go_wp2
    all_goals (go_ret; exact ⟨rfl, Below.refl _ _⟩)
  · go_enter Try.func4, Try.ntmps4
    go_wp2
    all_goals (go_ret; exact ⟨rfl, Below.refl _ _⟩)

set_option maxRecDepth 100000 in
theorem FnExactSameNumber_holds : Rows.FnExactSameNumberSaid :=
  OpenClaim.holds_of_wide 4 Try.f4 rfl rfl rfl rfl rfl rfl rfl ⟨rfl, rfl, rfl, rfl, rfl⟩ rfl rfl rfl rfl rfl (by kernel_rfl) Try.func4 (by kernel_rfl)
    (of_decide_eq_true (by kernel_rfl)) (by unfold Func.isWrapper; first | (rw [if_pos (by decide +kernel)]; kernel_rfl) | (rw [if_neg (by decide +kernel)]; exact ⟨rfl, rfl⟩))
    (fun os started H enc _ => law_lifted 4 Try.f4 Rows.fnExactSameNumberSpec Rows.fnExactSameNumberRow.domain os started H enc (by kernel_rfl) Try.func4 rfl rfl
      (by rw [Try.params4]; intro t ht; simp only [List.mem_cons, List.not_mem_nil, or_false] at ht; rcases ht with rfl | rfl <;> exact ⟨by kernel_rfl, of_decide_eq_true (by kernel_rfl)⟩)
      (fun ds hl => by
        match ds, hl with
        | [d0, d1], _ => rfl)
      (ChangeSpec.witness6 (enc := enc) (C := Try.checked) false ⟨#[], #[.float .f32 0, .float .f32 0], []⟩ 8 (by kernel_rfl) (by kernel_rfl) (by kernel_rfl) (by kernel_rfl))
      (fun W base args ds p hval hA => by
        rw [Try.params4] at hA hval
        obtain ⟨v0, vs0, d0, ds0, p0, q0, hargs, rfl, rfl, h0, r0⟩ := trodAll_cons hA
        obtain ⟨v1, vs1, d1, ds1, p1, q1, rfl, rfl, rfl, h1, r1⟩ := trodAll_cons r0
        obtain ⟨rfl, rfl, rfl⟩ := trodAll_nil r1
        obtain rfl : args = #[v0, v1] := by cases args; simp_all
        obtain ⟨a0, rfl, rfl, rfl, w0⟩ := open_float Try.underlying24 (hval 0 24 v0 rfl rfl) h0
        obtain ⟨a1, rfl, rfl, rfl, w1⟩ := open_float Try.underlying24 (hval 1 24 v1 rfl rfl) h1
        exact lawSameNumber_walk a0 w0 a1 w1 W))
#print axioms FnExactSameNumber_holds

end Go.Proofs.Ytadonkadkikfpab
