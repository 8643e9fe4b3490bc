/-
  The light on a window, as a number: its range, and products with numbers less than 0. Nothing of the program is named.
-/
import Derived.Test.YthpimcfmgefkkaaDoorNear
import Derived.Test.YthpimcfmgefkkaaDoorAdd
namespace Go.Proofs.YthpimcfmgefkkaaDoor
open Go

theorem word_true (k : Nat) : Ieee.single.word true k = 2147483648 + Ieee.single.word false k := by
  unfold Ieee.Format.word
  have hw : Ieee.single.signWeight = 2147483648 := by decide
  simp [hw]
theorem nearest_true (m : Nat) (e : Int) : Ieee.single.nearest true m e = 2147483648 + Ieee.single.nearest false m e := by
  unfold Ieee.Format.nearest
  split
  · exact word_true _
  · exact word_true _
theorem cosB_pos_nat : ∀ n : Nat, n < 65 → cosB (n : Int) ≤ 1065353216 := by decide +kernel
theorem sineB_sgn_nat : ∀ n : Nat, n < 256 → sineB (n : Int) ≤ 1065353216 ∨ (2147483648 ≤ sineB (n : Int) ∧ sineB (n : Int) ≤ 2147483648 + 1065353216) := by decide +kernel
theorem cosB_sgn (a : Int) : cosB a ≤ 1065353216 ∨ (2147483648 ≤ cosB a ∧ cosB a ≤ 2147483648 + 1065353216) := by
  unfold cosB
  have h0 := angB_lo (a + 64)
  have h1 := angB_hi (a + 64)
  generalize angB (a + 64) = n at *
  obtain ⟨m, rfl⟩ := Int.eq_ofNat_of_zero_le h0
  exact sineB_sgn_nat m (by omega)
theorem read_neg_same {x : Nat} (hx : x < 2139095040) {m : Nat} {e : Int} (h : Ieee.single.read x = .number false m e) : Ieee.single.read (2147483648 + x) = .number true m e := by
  unfold Ieee.Format.read at h ⊢
  have hw : Ieee.single.signWeight = 2147483648 := by decide
  have hbi : Ieee.single.binade = 8388608 := by decide
  have hir : Ieee.single.infRung = 2139095040 := by decide
  simp only [hw, hbi, hir] at h ⊢
  have e1 : x % 2147483648 = x := Nat.mod_eq_of_lt (by omega)
  have e2 : (2147483648 + x) % 2147483648 = x := by omega
  rw [e1] at h
  rw [e2]
  have e3 : ¬ (2147483648 ≤ x) := by omega
  have e4 : 2147483648 ≤ 2147483648 + x := by omega
  by_cases h1 : x < 8388608
  · simp_all
    omega
  · have h2 : x < 2139095040 := hx
    simp_all
    rw [if_neg (by omega)]
    have h5 : (x / 2147483648 + 1) % 2 = 1 := by omega
    rw [h5]
    rfl
theorem fall_num (x d : Int) (h0 : 0 < x) (h1 : x ≤ 64) : num32 (fallB x d) = true := by
  unfold fallB
  rw [if_pos h0]
  have hl : num32 (fmul (cosB x) (cosB d)) = true := by
    obtain ⟨n, rfl⟩ := Int.eq_ofNat_of_zero_le (by omega : 0 ≤ x)
    have ha := cosB_pos_nat n (by omega)
    generalize cosB (n : Int) = a at *
    rcases cosB_sgn d with hb | ⟨hb0, hb1⟩
    · exact num_of_isNum (.inl (Nat.lt_of_le_of_lt (mul_le_one (x := a) (y := cosB d) (by omega) hb) (by omega)))
    · obtain ⟨b, hb⟩ : ∃ b, cosB d = 2147483648 + b := ⟨cosB d - 2147483648, by omega⟩
      rw [hb]
      have hbl : b ≤ 1065353216 := by omega
      obtain ⟨m, i, hm, _⟩ := read_pos (x := a) (by omega)
      obtain ⟨k, j, hk, _⟩ := read_pos (x := b) (by omega)
      have hk' := read_neg_same (x := b) (by omega) hk
      have e1 : fmul a b = Ieee.single.write (.number (false ^^ false) (m * k) (-149 + (i : Int) + (-149 + (j : Int)))) := by
        have h : Ieee.single.mul a b = some (Ieee.single.write (.number (false ^^ false) (m * k) (-149 + (i : Int) + (-149 + (j : Int))))) := by
          unfold Ieee.Format.mul
          rw [hm, hk]; rfl
        unfold fmul; rw [h]; rfl
      have e2 : fmul a (2147483648 + b) = Ieee.single.write (.number (false ^^ true) (m * k) (-149 + (i : Int) + (-149 + (j : Int)))) := by
        have h : Ieee.single.mul a (2147483648 + b) = some (Ieee.single.write (.number (false ^^ true) (m * k) (-149 + (i : Int) + (-149 + (j : Int))))) := by
          unfold Ieee.Format.mul
          rw [hm, hk']; rfl
        unfold fmul; rw [h]; rfl
      have e3 : fmul a (2147483648 + b) = 2147483648 + fmul a b := by
        rw [e1, e2]
        exact nearest_true _ _
      have h2 := mul_le_one (x := a) (y := b) (by omega) hbl
      rw [e3]
      exact num_of_isNum (.inr ⟨by omega, by omega⟩)
  unfold litB
  split
  · exact hl
  · decide

theorem fmul_zero {a : Nat} (ha : a < 2139095040) : fmul a 0 = 0 := rnd_exact (mul_rnd ha (y := 0) (by decide)).2 (by decide) (Nat.two_pow_pos _) (by rw [rv_zero]; simp)
theorem zero_fmul {a : Nat} (ha : a < 2139095040) : fmul 0 a = 0 := rnd_exact (mul_rnd (x := 0) (by decide) ha).2 (by decide) (Nat.two_pow_pos _) (by rw [rv_zero]; simp)
theorem mul_negR {a b : Nat} (ha : a < 2139095040) (hb : b < 2139095040) : fmul a (2147483648 + b) = 2147483648 + fmul a b := by
  obtain ⟨m, i, hm, _⟩ := read_pos (x := a) ha
  obtain ⟨k, j, hk, _⟩ := read_pos (x := b) hb
  have hk' := read_neg_same (x := b) hb hk
  have e1 : fmul a b = Ieee.single.write (.number (false ^^ false) (m * k) (-149 + (i : Int) + (-149 + (j : Int)))) := by
    have h : Ieee.single.mul a b = some (Ieee.single.write (.number (false ^^ false) (m * k) (-149 + (i : Int) + (-149 + (j : Int))))) := by
      unfold Ieee.Format.mul
      rw [hm, hk]; rfl
    unfold fmul; rw [h]; rfl
  have e2 : fmul a (2147483648 + b) = Ieee.single.write (.number (false ^^ true) (m * k) (-149 + (i : Int) + (-149 + (j : Int)))) := by
    have h : Ieee.single.mul a (2147483648 + b) = some (Ieee.single.write (.number (false ^^ true) (m * k) (-149 + (i : Int) + (-149 + (j : Int))))) := by
      unfold Ieee.Format.mul
      rw [hm, hk']; rfl
    unfold fmul; rw [h]; rfl
  rw [e1, e2]
  exact nearest_true _ _

theorem litB_word {p : Nat} (h0 : 0 < p) (h1 : p < 2139095040) : litB p = p := by
  unfold litB
  rw [order_pos h1 (by decide), if_pos]
  rw [Nat.compare_eq_gt.2 h0]
theorem litB_zero : litB 0 = 0 := by decide +kernel
theorem litB_under {r : Nat} (h : r < 2139095040) : litB (2147483648 + r) = 0 := by
  unfold litB
  rw [order_num (.inr ⟨by omega, by omega⟩) (.inl (by decide)), if_neg]
  intro h1
  injection h1 with h1
  have h2 := Int.compare_eq_gt.1 h1
  have h3 := sv_neg_le r
  have h4 : sv 0 = 0 := rfl
  omega

theorem sine_step_nat : ∀ n : Nat, n < 256 → sineB (n : Int) = 0 ∨ (1019794704 ≤ sineB (n : Int) ∧ sineB (n : Int) ≤ 1065353216) ∨ (2147483648 ≤ sineB (n : Int) ∧ sineB (n : Int) ≤ 2147483648 + 1065353216) := by decide +kernel
theorem cos_step (a : Int) : cosB a = 0 ∨ (1019794704 ≤ cosB a ∧ cosB a ≤ 1065353216) ∨ (2147483648 ≤ cosB a ∧ cosB a ≤ 2147483648 + 1065353216) := by
  unfold cosB
  have h0 := angB_lo (a + 64)
  have h1 := angB_hi (a + 64)
  generalize angB (a + 64) = n at *
  obtain ⟨m, rfl⟩ := Int.eq_ofNat_of_zero_le h0
  exact sine_step_nat m (by omega)
theorem least_light : fmul 1019794704 1019794704 = 975015322 := by decide +kernel

/-- Light on a window is 0, or not next to it, and at most 1. -/
theorem fall_rng (x d : Int) (h0 : 0 < x) (h1 : x ≤ 64) : fallB x d = 0 ∨ (975015322 ≤ fallB x d ∧ fallB x d ≤ 1065353216) := by
  unfold fallB
  rw [if_pos h0]
  have ha := cos_step x
  have hc : cosB x ≤ 1065353216 := by
    obtain ⟨n, rfl⟩ := Int.eq_ofNat_of_zero_le (by omega : 0 ≤ x)
    exact cosB_pos_nat n (by omega)
  have hb := cos_step d
  generalize cosB x = a at *
  generalize cosB d = b at *
  rcases hb with rfl | ⟨b0, b1⟩ | ⟨b0, b1⟩
  · rw [fmul_zero (by omega), litB_zero]; exact .inl rfl
  · rcases ha with rfl | ⟨a0, a1⟩ | ⟨a0, a1⟩
    · rw [zero_fmul (by omega), litB_zero]; exact .inl rfl
    · have m1 := mul_mono (x := 1019794704) (X := a) (y := 1019794704) (Y := b) (by omega) (by omega) a0 b0
      have m2 := mul_le_one (x := a) (y := b) (by omega) b1
      rw [least_light] at m1
      rw [litB_word (by omega) (by omega)]
      exact .inr ⟨m1, by omega⟩
    · omega
  · obtain ⟨c, rfl⟩ : ∃ c, b = 2147483648 + c := ⟨b - 2147483648, by omega⟩
    have m2 := mul_le_one (x := a) (y := c) (by omega) (by omega)
    rw [mul_negR (by omega) (by omega), litB_under (by omega)]
    exact .inl rfl

theorem pos_of_lt {x : Nat} (h : x < 2139095040) : pos32 x = true := by
  obtain ⟨m, i, hr, _⟩ := read_pos h
  unfold pos32
  rw [hr]; rfl

end Go.Proofs.YthpimcfmgefkkaaDoor
