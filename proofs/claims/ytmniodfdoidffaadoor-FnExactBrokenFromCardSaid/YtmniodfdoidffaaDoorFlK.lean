/-
  Floors behind slats some of which are broken. Nothing of the program is named.
-/
import Derived.Test.YtmniodfdoidffaaDoorPkP
import Derived.Test.YtmniodfdoidffaaDoorBlk
namespace Go.Proofs.YtmniodfdoidffaaDoor
open Go.RowKit

def flK (g : Nat → Nat) (k : Nat) : List Nat := (List.range k).map g ++ List.replicate (24 - k) 0

theorem flK_len (g : Nat → Nat) {k : Nat} (hk : k ≤ 24) : (flK g k).length = 24 := by
  unfold flK
  simp
  omega

theorem flK_set (g : Nat → Nat) {k : Nat} (hk : k < 24) : (flK g k).set k (g k) = flK g (k + 1) := by
  unfold flK
  have e2 : 24 - k = (24 - (k + 1)) + 1 := by omega
  rw [List.set_append_right _ _ (by simp), e2, List.replicate_succ, List.length_map, List.length_range, Nat.sub_self, List.set_cons_zero, List.range_succ, List.map_append, List.append_assoc]
  rfl

theorem flK_zero (g : Nat → Nat) {k : Nat} (hk : k < 24) (h : g k = 0) : flK g k = flK g (k + 1) := by
  rw [← flK_set g hk, h]
  unfold flK
  have e2 : 24 - k = (24 - (k + 1)) + 1 := by omega
  rw [List.set_append_right _ _ (by simp), e2, List.replicate_succ, List.length_map, List.length_range, Nat.sub_self, List.set_cons_zero]

theorem flK_get (g : Nat → Nat) {k : Nat} (hk : k < 24) : (flK g 24)[k]?.getD 0 = g k := by
  unfold flK
  rw [List.getElem?_append_left (by simpa using hk), List.getElem?_map, List.getElem?_range hk]
  rfl

theorem flK_congr {g h : Nat → Nat} {k : Nat} (e : ∀ j, j < k → g j = h j) : flK g k = flK h k := by
  unfold flK
  congr 1
  apply List.map_congr_left
  intro j hj
  exact e j (by simpa using hj)

/-- How many slats are looked at. -/
def mB (n : Int) : Int := if 24 < n then 24 else n

theorem mB_le (n : Int) : mB n ≤ 24 := by unfold mB; split <;> omega

/-- The light behind the slats: those that hang, and the whole ones. -/
def flP (wh hg br m : Nat) (k : Nat) : Nat := if k < m then (if br.testBit k then hg else wh) else 0

def allP (m : Nat) : Nat := packP (fun _ => true) m

theorem allP_bit (m j : Nat) : (allP m).testBit j = decide (j < m) := by
  unfold allP
  rw [packP_bit, Bool.and_true]

theorem allP_lt {m : Nat} (h : m ≤ 24) : allP m < 4294967296 := packP_32 _ _ (by omega)

theorem high_bit {br m k : Nat} (h : br < 2 ^ m) (hk : m ≤ k) : br.testBit k = false :=
  Nat.testBit_lt_two_pow (Nat.lt_of_lt_of_le h (Nat.pow_le_pow_right (by decide) hk))

theorem out_bits {a m : Nat} (ha : a < 4294967296) (hm : m ≤ 24) : (a &&& (4294967295 - allP m) = 0) ↔ a < 2 ^ m := by
  have hM := allP_lt hm
  have e : 4294967295 - allP m = 2 ^ 32 - (allP m + 1) := by omega
  rw [e]
  constructor
  · intro h
    apply Nat.lt_of_not_le
    intro hge
    obtain ⟨i, hi, hb⟩ := Nat.exists_ge_and_testBit_of_ge_two_pow hge
    have h32 : i < 32 := by
      apply Nat.lt_of_not_le
      intro h32
      have := high_bit (br := a) (m := 32) (by omega) h32
      rw [this] at hb; cases hb
    have hz : (a &&& (2 ^ 32 - (allP m + 1))).testBit i = false := by rw [h]; exact Nat.zero_testBit i
    rw [Nat.testBit_and, hb, Nat.testBit_two_pow_sub_succ (by omega), allP_bit] at hz
    simp [h32] at hz
    omega
  · intro h
    apply Nat.eq_of_testBit_eq
    intro i
    rw [Nat.testBit_and, Nat.testBit_two_pow_sub_succ (by omega), allP_bit, Nat.zero_testBit]
    by_cases hi : i < m
    · simp [hi]
    · rw [high_bit h (by omega), Bool.false_and]

theorem not_bits {a m : Nat} (ha : a < 4294967296) (hm : m ≤ 24) : bits .andNot .u32 (a : Int) (allP m : Int) = ((a &&& (4294967295 - allP m) : Nat) : Int) := u32_andNot_nat a _ ha (allP_lt hm)

/-- Whether only slats that are looked at are told to be broken. -/
def fitB (br : Nat) (n : Int) : Bool := decide (br < 2 ^ (mB n).toNat)

theorem fit_impl {a : Nat} (ha : a < 4294967296) (n : Int) : (bits .andNot .u32 (a : Int) (allP (mB n).toNat : Int) == 0) = fitB a n := by
  have hm : (mB n).toNat ≤ 24 := by have := mB_le n; omega
  rw [not_bits ha hm]
  unfold fitB
  have h := out_bits ha hm
  by_cases c : a < 2 ^ (mB n).toNat
  · rw [decide_eq_true c, h.2 c]; rfl
  · rw [decide_eq_false c]
    have : a &&& (4294967295 - allP (mB n).toNat) ≠ 0 := fun e => c (h.1 e)
    simpa using this

theorem fit_spec (a : Nat) (n : Int) : ((a : Int) / 2 ^ (mB n).toNat != 0) = !fitB a n := by
  unfold fitB
  have e : (a : Int) / 2 ^ (mB n).toNat = ((a / 2 ^ (mB n).toNat : Nat) : Int) := by rw [Int.natCast_ediv, Int.natCast_pow]; rfl
  rw [e]
  have hp : 0 < 2 ^ (mB n).toNat := Nat.two_pow_pos _
  by_cases c : a < 2 ^ (mB n).toNat
  · rw [decide_eq_true c, Nat.div_eq_of_lt c]; rfl
  · rw [decide_eq_false c]
    have : 0 < a / 2 ^ (mB n).toNat := Nat.div_pos (by omega) hp
    simp
    omega

theorem bit_nat (a k : Nat) : a.testBit k = decide (a / 2 ^ k % 2 = 1) := Nat.testBit_eq_decide_div_mod_eq

theorem bit_impl {a : Nat} (ha : a < 4294967296) (k : Nat) : (bits .and .u32 ((a : Int) / 2 ^ k) 1 == 1) = a.testBit k := by
  have e : (a : Int) / 2 ^ k = ((a / 2 ^ k : Nat) : Int) := by rw [Int.natCast_ediv, Int.natCast_pow]; rfl
  have hl : a / 2 ^ k < 4294967296 := Nat.lt_of_le_of_lt (Nat.div_le_self _ _) ha
  rw [e, show (1 : Int) = ((1 : Nat) : Int) from rfl, u32_and_nat _ 1 hl (by decide), nat_mask1, bit_nat]
  by_cases c : a / 2 ^ k % 2 = 1
  · rw [c]; rfl
  · rw [decide_eq_false c]
    have : a / 2 ^ k % 2 = 0 := by omega
    rw [this]; rfl

theorem bit_spec (a k : Nat) : (((a : Int) / 2 ^ k).tmod 2 == 1) = a.testBit k := by
  have e0 : (a : Int) / 2 ^ k = ((a / 2 ^ k : Nat) : Int) := by rw [Int.natCast_ediv, Int.natCast_pow]; rfl
  have e : ((a : Int) / 2 ^ k).tmod 2 = ((a / 2 ^ k % 2 : Nat) : Int) := by
    rw [e0, Int.tmod_eq_emod_of_nonneg (Int.natCast_nonneg _), Int.natCast_emod]; rfl
  rw [e, bit_nat]
  by_cases c : a / 2 ^ k % 2 = 1
  · rw [c]; rfl
  · rw [decide_eq_false c]
    have : a / 2 ^ k % 2 = 0 := by omega
    rw [this]; rfl

/-- The tilt of a slat that hangs down. -/
def hgT (t : Int) : Int := if t - 32 < -64 then -64 else t - 32

theorem hgT_in {t : Int} (h0 : -64 ≤ t) (h1 : t ≤ 64) : -64 ≤ hgT t ∧ hgT t ≤ 64 := by unfold hgT; split <;> omega

/-- The light of the stripes. -/
def flB (n : Int) (wd gp : Nat) (t h : Int) (br : Nat) : List Nat := flK (flP (opnB wd gp t h) (opnB wd gp (hgT t) h) br (mB n).toNat) 24

theorem flB_len (n : Int) (wd gp : Nat) (t h : Int) (br : Nat) : (flB n wd gp t h br).length = 24 := flK_len _ (Nat.le_refl _)

theorem flP_le {wh hg br m : Nat} (h1 : wh ≤ 1065353216) (h2 : hg ≤ 1065353216) (k : Nat) : flP wh hg br m k ≤ 1065353216 := by
  unfold flP
  split
  · split
    · exact h2
    · exact h1
  · decide

def codeFl (ok hi fit : Bool) : Int := if !ok then 1 else if !(hi && fit) then 2 else 0

end Go.Proofs.YtmniodfdoidffaaDoor
