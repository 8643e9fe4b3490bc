/-
  For every two numbers of single precision: whether they are the same is what the model says. No conditions.
-/
import Derived.Test.YtmniodfdoidffaaDoorLaw
import Derived.WalkSpells
import Derived.WalkLawsBesides
import Derived.Lib.Hide
namespace Go.Proofs.YtmniodfdoidffaaDoor
open Go.ChangeShapes Go.WideShapes Go.ChangeAt Go.RowKit

theorem run_bits (a : Nat) (w : World) : (callFunc 104 #[.float .f32 a]).run Tryd.prog w = .ok (.value (.int .u32 a)) w := by kernel_rfl

theorem order_selfB (a : Nat) : FloatKind.f32.format.order a a = some .eq ∨ FloatKind.f32.format.order a a = none := by
  show (Ieee.single.read a).order (Ieee.single.read a) = some .eq ∨ _
  generalize hd : Ieee.single.read a = d
  have e : FloatKind.f32.format.order a a = d.order d := by show (Ieee.single.read a).order (Ieee.single.read a) = _; rw [hd]
  rw [e]
  cases d with
  | number s m e => left; simp [Ieee.Datum.order]
  | infinity s => left; simp [Ieee.Datum.order]
  | nan s f => right; rfl

set_option maxHeartbeats 400000 in
theorem numberBits_num (a : Nat) (h : FloatKind.f32.format.order a a = some .eq) (w : World) :
    Calls Tryd.prog 62 #[.float .f32 a] w fun e w' => e = .returned (.int .u32 a) ∧ w = w' := by
  have hb := run_bits a
  go_enter Tryd.func62, Tryd.ntmps62
  go_wp2
  go_ret
  exact ⟨rfl, rfl⟩

set_option maxHeartbeats 400000 in
theorem numberBits_nan (a : Nat) (h : FloatKind.f32.format.order a a = none) (w : World) :
    Calls Tryd.prog 62 #[.float .f32 a] w fun e w' => e = .returned (.int .u32 2143289344) ∧ w = w' := by
  go_enter Tryd.func62, Tryd.ntmps62
  go_wp2
  go_ret
  exact ⟨rfl, rfl⟩

theorem not_nan {a : Nat} (h : FloatKind.f32.format.order a a = some .eq) : ((a : Int) == 2143289344) = false ∧ ((2143289344 : Int) == (a : Int)) = false := by
  have hn : FloatKind.f32.format.order 2143289344 2143289344 = none := by decide +kernel
  have hne : (a : Int) ≠ 2143289344 := fun e => by
    have e' : a = 2143289344 := by omega
    rw [e', hn] at h; cases h
  exact ⟨beq_eq_false_iff_ne.2 hne, beq_eq_false_iff_ne.2 (Ne.symm hne)⟩

end Go.Proofs.YtmniodfdoidffaaDoor
