/-
  The light that passes into a window at an hour: the number, the program's and the model's.
-/
import Derived.Test.YteagbfobnjfhcabPasser
import Derived.Test.YteagbfobnjfhcabFallOn
import Derived.Test.YteagbfobnjfhcabAdd
namespace Go.Proofs.Yteagbfobnjfhcab
open Go.RowKit

/-- The light into a window. -/
def winB (wd gp : Nat) (t : Int) (sh : Nat) (hs ts : List Int) (hour facing : Int) : Nat := if 0 < atH hs hour then fmul (fallOf hs ts hour facing) (pasB wd gp t sh (atH hs hour)) else 0

theorem word_true (k : Nat) : Ieee.single.word true k = 2147483648 + Ieee.single.word false k := by
  unfold Ieee.Format.word
  have hw : Ieee.single.signWeight = 2147483648 := by decide
  simp [hw]
theorem nearest_true (m : Nat) (e : Int) : Ieee.single.nearest true m e = 2147483648 + Ieee.single.nearest false m e := by
  unfold Ieee.Format.nearest
  split
  · exact word_true _
  · exact word_true _
theorem cosB_pos_nat : ∀ n : Nat, n < 65 → cosB (n : Int) ≤ 1065353216 := by decide +kernel
theorem sineB_sgn_nat : ∀ n : Nat, n < 256 → sineB (n : Int) ≤ 1065353216 ∨ (2147483648 ≤ sineB (n : Int) ∧ sineB (n : Int) ≤ 2147483648 + 1065353216) := by decide +kernel
theorem cosB_sgn (a : Int) : cosB a ≤ 1065353216 ∨ (2147483648 ≤ cosB a ∧ cosB a ≤ 2147483648 + 1065353216) := by
  unfold cosB
  have h0 := angB_lo (a + 64)
  have h1 := angB_hi (a + 64)
  generalize angB (a + 64) = n at *
  obtain ⟨m, rfl⟩ := Int.eq_ofNat_of_zero_le h0
  exact sineB_sgn_nat m (by omega)
theorem read_neg_same {x : Nat} (hx : x < 2139095040) {m : Nat} {e : Int} (h : Ieee.single.read x = .number false m e) : Ieee.single.read (2147483648 + x) = .number true m e := by
  unfold Ieee.Format.read at h ⊢
  have hw : Ieee.single.signWeight = 2147483648 := by decide
  have hbi : Ieee.single.binade = 8388608 := by decide
  have hir : Ieee.single.infRung = 2139095040 := by decide
  simp only [hw, hbi, hir] at h ⊢
  have e1 : x % 2147483648 = x := Nat.mod_eq_of_lt (by omega)
  have e2 : (2147483648 + x) % 2147483648 = x := by omega
  rw [e1] at h
  rw [e2]
  have e3 : ¬ (2147483648 ≤ x) := by omega
  have e4 : 2147483648 ≤ 2147483648 + x := by omega
  by_cases h1 : x < 8388608
  · simp_all
    omega
  · have h2 : x < 2139095040 := hx
    simp_all
    rw [if_neg (by omega)]
    have h5 : (x / 2147483648 + 1) % 2 = 1 := by omega
    rw [h5]
    rfl
theorem fall_num (x d : Int) (h0 : 0 < x) (h1 : x ≤ 64) : num32 (fallB x d) = true := by
  unfold fallB
  rw [if_pos h0]
  have hl : num32 (fmul (cosB x) (cosB d)) = true := by
    obtain ⟨n, rfl⟩ := Int.eq_ofNat_of_zero_le (by omega : 0 ≤ x)
    have ha := cosB_pos_nat n (by omega)
    generalize cosB (n : Int) = a at *
    rcases cosB_sgn d with hb | ⟨hb0, hb1⟩
    · exact num_of_isNum (.inl (Nat.lt_of_le_of_lt (mul_le_one (x := a) (y := cosB d) (by omega) hb) (by omega)))
    · obtain ⟨b, hb⟩ : ∃ b, cosB d = 2147483648 + b := ⟨cosB d - 2147483648, by omega⟩
      rw [hb]
      have hbl : b ≤ 1065353216 := by omega
      obtain ⟨m, i, hm, _⟩ := read_pos (x := a) (by omega)
      obtain ⟨k, j, hk, _⟩ := read_pos (x := b) (by omega)
      have hk' := read_neg_same (x := b) (by omega) hk
      have e1 : fmul a b = Ieee.single.write (.number (false ^^ false) (m * k) (-149 + (i : Int) + (-149 + (j : Int)))) := by
        have h : Ieee.single.mul a b = some (Ieee.single.write (.number (false ^^ false) (m * k) (-149 + (i : Int) + (-149 + (j : Int))))) := by
          unfold Ieee.Format.mul
          rw [hm, hk]; rfl
        unfold fmul; rw [h]; rfl
      have e2 : fmul a (2147483648 + b) = Ieee.single.write (.number (false ^^ true) (m * k) (-149 + (i : Int) + (-149 + (j : Int)))) := by
        have h : Ieee.single.mul a (2147483648 + b) = some (Ieee.single.write (.number (false ^^ true) (m * k) (-149 + (i : Int) + (-149 + (j : Int))))) := by
          unfold Ieee.Format.mul
          rw [hm, hk']; rfl
        unfold fmul; rw [h]; rfl
      have e3 : fmul a (2147483648 + b) = 2147483648 + fmul a b := by
        rw [e1, e2]
        exact nearest_true _ _
      have h2 := mul_le_one (x := a) (y := b) (by omega) hbl
      rw [e3]
      exact num_of_isNum (.inr ⟨by omega, by omega⟩)
  unfold litB
  split
  · exact hl
  · decide

theorem win_ok (wd gp : Nat) (t : Int) {sh : Nat} (hs : sh ≤ 1065353216 ∨ sh = 2147483648) (x d : Int) (h0 : 0 < x) (h1 : x ≤ 64) :
    floatBits .mul .f32 (fallB x d) (pasB wd gp t sh x) = some (fmul (fallB x d) (pasB wd gp t sh x)) ∧ pos32 (fmul (fallB x d) (pasB wd gp t sh x)) = true := by
  have hn := fall_num x d h0 h1
  have hp := fallB_pos x d
  have hq := (pas_facts wd gp t hs x).2.2.2.2
  generalize fallB x d = F at *
  generalize pasB wd gp t sh x = P at *
  obtain ⟨k, j, hk, _⟩ := read_pos (x := P) hq
  obtain ⟨s, m, e, hr⟩ := num32_get hn
  have hs : s = false := by
    unfold pos32 at hp
    rw [hr] at hp
    simpa using hp
  subst hs
  have h : Ieee.single.mul F P = some (Ieee.single.write (.number (false ^^ false) (m * k) (e + (-149 + (j : Int))))) := by
    unfold Ieee.Format.mul
    rw [hr, hk]; rfl
  have e1 : fmul F P = Ieee.single.write (.number (false ^^ false) (m * k) (e + (-149 + (j : Int)))) := by unfold fmul; rw [h]; rfl
  rw [e1]
  exact ⟨h, pos_nearest _ _⟩
theorem winB_pos (wd gp : Nat) (t : Int) {sh : Nat} (hsh : sh ≤ 1065353216 ∨ sh = 2147483648) (hs ts : List Int) (hour facing : Int) (h1 : atH hs hour ≤ 64) : pos32 (winB wd gp t sh hs ts hour facing) = true := by
  unfold winB
  split
  · rename_i h0
    exact (win_ok wd gp t hsh _ _ h0 h1).2
  · decide


end Go.Proofs.Yteagbfobnjfhcab
