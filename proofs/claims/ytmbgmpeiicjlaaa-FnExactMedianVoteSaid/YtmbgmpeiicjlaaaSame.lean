/-
  The contract of the comparison of two numbers that are given alike.

-/
import Derived.Test.YtmbgmpeiicjlaaaWide
import Derived.Test.YtmbgmpeiicjlaaaRows
import Derived.WalkKit
import Derived.WalkSpells
import Derived.WalkLawsBesides
import Derived.Lib.Hide

namespace Go.Proofs.Ytmbgmpeiicjlaaa

open Go.RowKit

theorem div_zero_pos : floatBits .quo .f64 4607182418800017408 0 = some 9218868437227405312 := by decide +kernel

theorem div_zero_neg : floatBits .quo .f64 4607182418800017408 9223372036854775808 = some 18442240474082181120 := by decide +kernel

set_option maxHeartbeats 400000 in
theorem same_zero_pos (w : World) :
    Calls Try.prog 7 #[.float .f64 0, .float .f64 0] w fun e w' => e = .returned (.bool true) ∧ w = w' := by
  have r : ∀ t w, (binOp .quo t (.float .f64 4607182418800017408) (.float .f64 0)).run Try.prog w = .ok (.float .f64 9218868437227405312) w := fun t w => run_float_arith w .quo t .f64 _ _ _ div_zero_pos
  have o1 : FloatKind.f64.format.order 0 0 = some .eq := by decide +kernel
  have o2 : FloatKind.f64.format.order 9218868437227405312 0 = some .gt := by decide +kernel
  go_enter Try.func7, Try.ntmps7
  go_wp2
  go_ret
  exact ⟨rfl, rfl⟩

set_option maxHeartbeats 400000 in
theorem same_zero_neg (w : World) :
    Calls Try.prog 7 #[.float .f64 9223372036854775808, .float .f64 9223372036854775808] w fun e w' => e = .returned (.bool true) ∧ w = w' := by
  have r : ∀ t w, (binOp .quo t (.float .f64 4607182418800017408) (.float .f64 9223372036854775808)).run Try.prog w = .ok (.float .f64 18442240474082181120) w := fun t w => run_float_arith w .quo t .f64 _ _ _ div_zero_neg
  have o1 : FloatKind.f64.format.order 9223372036854775808 0 = some .eq := by decide +kernel
  have o3 : FloatKind.f64.format.order 9223372036854775808 9223372036854775808 = some .eq := by decide +kernel
  have o2 : FloatKind.f64.format.order 18442240474082181120 0 = some .lt := by decide +kernel
  go_enter Try.func7, Try.ntmps7
  go_wp2
  go_ret
  exact ⟨rfl, rfl⟩

set_option maxHeartbeats 400000 in
theorem same_else (r : Nat) (hr : FloatKind.f64.format.order r r = some .eq) (h0 : (FloatKind.f64.format.order r 0 == some .eq) = false) (w : World) :
    Calls Try.prog 7 #[.float .f64 r, .float .f64 r] w fun e w' => e = .returned (.bool true) ∧ w = w' := by
  go_enter Try.func7, Try.ntmps7
  go_wp2
  go_ret
  exact ⟨rfl, rfl⟩

theorem same_fin (r : Nat) (hlt : r < 18446744073709551616) (hr : FloatKind.f64.format.order r r = some .eq) (w : World) :
    Calls Try.prog 7 #[.float .f64 r, .float .f64 r] w fun e w' => e = .returned (.bool true) ∧ w = w' := by
  by_cases h0 : FloatKind.f64.format.order r 0 = some .eq
  · rcases zero_of_order r hlt h0 with rfl | rfl
    · exact same_zero_pos w
    · exact same_zero_neg w
  · exact same_else r hr (beq_eq_false_iff_ne.2 h0) w

theorem same_wide (x : Nat) (h : fin32 x = true) (w : World) :
    Calls Try.prog 7 #[.float .f64 (wide x), .float .f64 (wide x)] w fun e w' => e = .returned (.bool true) ∧ w = w' := by
  obtain ⟨_, h1, h2⟩ := wide_ok x h
  exact same_fin _ h1 h2 w

theorem run_wide (x : Nat) (h : fin32 x = true) (w : World) : (convert 23 28 (.float .f32 x)).run Try.prog w = .ok (.float .f64 (wide x)) w :=
  run_convert_float_float w 23 28 .f32 .f64 x _ (by rw [Try.underlying23]; rfl) Try.underlying28 (wide_ok x h).1

end Go.Proofs.Ytmbgmpeiicjlaaa
