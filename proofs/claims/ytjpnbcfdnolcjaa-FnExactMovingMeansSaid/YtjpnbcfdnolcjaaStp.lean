/-
  How many steps a number is away from 0, and the number some steps away.
-/
import Derived.Test.YtjpnbcfdnolcjaaPlnL
import Derived.Laws.BitsAllLaws
import Derived.Deep.Cut
import Derived.Deep.DeepCutAuto
namespace Go.Proofs.Ytjpnbcfdnolcjaa
open Go.ChangeShapes Go.WideShapes Go.ChangeAt Go.RowKit Go.Deep Go.Joins

attribute [local go_sem] run_store_f

theorem run_bits6 (a : Nat) (w : World) : (callFunc 75 #[.float .f32 a]).run Try.prog w = .ok (.value (.int .u32 a)) w := by kernel_rfl
theorem run_from6 (a : Nat) (w : World) : (callFunc 78 #[.int .u32 (a : Int)]).run Try.prog w = .ok (.value (.float .f32 a)) w := by kernel_rfl
theorem ret_i64 {a b : Int} (h : a = b) : Ending.returned (.int .i64 a) = .returned (.int .i64 b) := by rw [h]
theorem ret_f32 {a b : Nat} (h : a = b) : Ending.returned (.float .f32 a) = .returned (.float .f32 b) := by rw [h]

/-- How many steps a number is above 0. -/
def placeI (x : Nat) : Int := if x < 2147483648 then (x : Int) else 2147483648 - (x : Int)
theorem and31 (x : Nat) : x &&& 2147483648 = if x.testBit 31 then 2147483648 else 0 := by
  apply Nat.eq_of_testBit_eq
  intro i
  rw [Nat.testBit_and, show (2147483648 : Nat) = 2 ^ 31 by rfl, Nat.testBit_two_pow]
  by_cases h : 31 = i
  · subst h
    cases x.testBit 31
    · rw [if_neg (by simp)]; simp
    · rw [if_pos rfl, Nat.testBit_two_pow, Bool.true_and]
  · rw [decide_eq_false h, Bool.and_false]
    split
    · rw [Nat.testBit_two_pow, decide_eq_false h]
    · simp
theorem bits_low {x : Nat} (h : x < 2147483648) : bits .andNot .u32 (x : Int) 2147483648 = (x : Int) ∧ bits .and .u32 (x : Int) 2147483648 = 0 := by
  have h1 := u32_andNot_nat x 2147483648 (by omega) (by decide)
  have h2 := u32_and_nat x 2147483648 (by omega) (by decide)
  have e1 : x &&& (4294967295 - 2147483648) = x := by
    rw [show (4294967295 - 2147483648 : Nat) = 2 ^ 31 - 1 by rfl, Nat.and_two_pow_sub_one_eq_mod]; omega
  have e2 : x &&& 2147483648 = 0 := by
    rw [and31, Nat.testBit_lt_two_pow (by omega)]; rfl
  rw [e1] at h1
  rw [e2] at h2
  exact ⟨h1, h2⟩
theorem bits_high {r : Nat} (h : r < 2147483648) : bits .andNot .u32 ((2147483648 + r : Nat) : Int) 2147483648 = (r : Int) ∧ bits .and .u32 ((2147483648 + r : Nat) : Int) 2147483648 = 2147483648 := by
  have h1 := u32_andNot_nat (2147483648 + r) 2147483648 (by omega) (by decide)
  have h2 := u32_and_nat (2147483648 + r) 2147483648 (by omega) (by decide)
  have e1 : (2147483648 + r) &&& (4294967295 - 2147483648) = r := by
    rw [show (4294967295 - 2147483648 : Nat) = 2 ^ 31 - 1 by rfl, Nat.and_two_pow_sub_one_eq_mod]; omega
  have e2 : (2147483648 + r) &&& 2147483648 = 2147483648 := by
    have ht : (2147483648 + r).testBit 31 = true := by
      rw [show (2147483648 : Nat) = 2 ^ 31 by rfl, Nat.testBit_two_pow_add_eq, Nat.testBit_lt_two_pow (by omega)]; rfl
    rw [and31, ht]; rfl
  rw [e1] at h1
  rw [e2] at h2
  exact ⟨h1, h2⟩
set_option maxRecDepth 100000 in
set_option maxHeartbeats 1000000 in
theorem stepsTo_any (x : Nat) (hx : x < 4294967296) (w : World) : Calls Try.prog 57 #[.float .f32 x] w fun e w' => e = .returned (.int .i64 (placeI x)) ∧ w = w' := by
  have rb := run_bits6 x
  unfold placeI
  by_cases h : x < 2147483648
  · obtain ⟨e1, e2⟩ := bits_low h
    rw [if_pos h]
    have z0 : (0 : Int) ≤ (x : Int) := by omega
    have z1 : (x : Int) < 2147483648 := by omega
    clear hx
    go_enter Try.func57, Try.ntmps57
    go_wp2
    go_ret
    exact ⟨rfl, rfl⟩
  · obtain ⟨r, rfl⟩ : ∃ r, x = 2147483648 + r := ⟨x - 2147483648, by omega⟩
    obtain ⟨e1, e2⟩ := bits_high (r := r) (by omega)
    rw [if_neg h]
    have hr : (2147483648 : Int) - ((2147483648 + r : Nat) : Int) = -(r : Int) := by omega
    rw [hr]
    have z0 : (0 : Int) ≤ (r : Int) := by omega
    have z1 : (r : Int) < 2147483648 := by omega
    clear hx h hr
    generalize ((2147483648 + r : Nat) : Int) = y at *
    go_enter Try.func57, Try.ntmps57
    go_wp2
    go_ret
    exact ⟨rfl, rfl⟩
set_option maxRecDepth 100000 in
set_option maxHeartbeats 1000000 in
theorem l06Place_any (x : Nat) (hx : x < 4294967296) (w : World) : Calls Try.prog 56 #[.float .f32 x] w fun e w' => e = .returned (.int .i64 (placeI x)) ∧ w = w' := by
  have rb := run_bits6 x
  unfold placeI
  have z0 : (0 : Int) ≤ (x : Int) := by omega
  by_cases h : x < 2147483648
  · rw [if_pos h]
    have z1 : (x : Int) < 2147483648 := by omega
    clear hx h
    generalize (x : Int) = y at *
    go_enter Try.func56, Try.ntmps56
    go_wp2
    go_ret
    exact ⟨rfl, rfl⟩
  · rw [if_neg h]
    have z1 : (2147483648 : Int) ≤ (x : Int) := by omega
    have z2 : (x : Int) < 4294967296 := by omega
    clear hx h
    generalize (x : Int) = y at *
    go_enter Try.func56, Try.ntmps56
    go_wp2
    go_ret
    exact ⟨rfl, rfl⟩

end Go.Proofs.Ytjpnbcfdnolcjaa
