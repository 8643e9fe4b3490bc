/-
  The bits of all numbers below a bound for which something holds. Nothing of the program is named.
-/
import Derived.Laws.BitsAllLaws
import Derived.IntWalk
namespace Go.Proofs.YtmniodfdoidffaaDoor
open Go.RowKit

def packP (p : Nat → Bool) : Nat → Nat
  | 0 => 0
  | k + 1 => if p k then packP p k ||| 2 ^ k else packP p k

theorem packP_lt (p : Nat → Bool) : ∀ k, packP p k < 2 ^ k
  | 0 => by show 0 < 1; decide
  | k + 1 => by
    have ih := packP_lt p k
    have h2 : 2 ^ (k + 1) = 2 * 2 ^ k := by rw [Nat.pow_succ]; omega
    rw [packP]
    split
    · exact Nat.or_lt_two_pow (by omega) (by omega)
    · omega

theorem packP_congr {p q : Nat → Bool} : ∀ k, (∀ j, j < k → p j = q j) → packP p k = packP q k
  | 0, _ => rfl
  | k + 1, h => by rw [packP, packP, h k (by omega), packP_congr k (fun j hj => h j (by omega))]

theorem packP_bit (p : Nat → Bool) (j : Nat) : ∀ k, (packP p k).testBit j = (decide (j < k) && p j)
  | 0 => by simp [packP]
  | k + 1 => by
    have ih := packP_bit p j k
    rw [packP]
    split
    · next h =>
      rw [Nat.testBit_or, ih, Nat.testBit_two_pow]
      by_cases e : k = j
      · subst e; simp [h]
      · have : decide (k = j) = false := decide_eq_false e
        rw [this, Bool.or_false]
        have : decide (j < k + 1) = decide (j < k) := by simp; omega
        rw [this]
    · next h =>
      rw [ih]
      by_cases e : j = k
      · subst e; simp [h]
      · have : decide (j < k + 1) = decide (j < k) := by simp; omega
        rw [this]

theorem two32 (k : Nat) (h : k ≤ 31) : 2 ^ k < 4294967296 := by
  have : 2 ^ k ≤ 2 ^ 31 := Nat.pow_le_pow_right (by decide) h
  omega

theorem packP_32 (p : Nat → Bool) (k : Nat) (h : k ≤ 32) : packP p k < 4294967296 := by
  have h1 := packP_lt p k
  have : 2 ^ k ≤ 2 ^ 32 := Nat.pow_le_pow_right (by decide) h
  omega

theorem packP_step (p : Nat → Bool) (k : Nat) (h : k ≤ 31) :
    (p k = true → packP p (k + 1) = (packP p k ||| 2 ^ k)) ∧ (p k = false → packP p (k + 1) = packP p k) ∧ (2 : Int) ^ k % 4294967296 = (2 : Int) ^ k ∧ bits .or .u32 (packP p k : Int) ((2 : Int) ^ k) = ((packP p k ||| 2 ^ k : Nat) : Int) := by
  have h2 := two32 k h
  have hp := packP_32 p k (by omega)
  have ec : (2 : Int) ^ k = ((2 ^ k : Nat) : Int) := by rw [Int.natCast_pow]; rfl
  refine ⟨fun hg => by rw [packP, hg, if_pos rfl], fun hg => by rw [packP, hg, if_neg (by decide)], ?_, ?_⟩
  · rw [ec]
    have h3 : (0 : Int) ≤ ((2 ^ k : Nat) : Int) := Int.natCast_nonneg _
    have h4 : ((2 ^ k : Nat) : Int) < ((4294967296 : Nat) : Int) := Int.ofNat_lt.2 h2
    exact Int.emod_eq_of_lt h3 h4
  · rw [ec]; exact u32_or_nat _ _ hp h2

end Go.Proofs.YtmniodfdoidffaaDoor
