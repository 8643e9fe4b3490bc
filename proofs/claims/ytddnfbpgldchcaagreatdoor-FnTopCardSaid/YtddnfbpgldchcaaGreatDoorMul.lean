/-
  Products, sums and comparisons of numbers of single precision. Nothing of the program is named.

-/
import Derived.Test.YtddnfbpgldchcaaGreatDoorWide

namespace Go.Proofs.YtddnfbpgldchcaaGreatDoor

open Go

def num32 (x : Nat) : Bool := match Ieee.single.read x with | .number .. => true | _ => false

theorem num32_get {x : Nat} (h : num32 x = true) : ∃ s m e, Ieee.single.read x = .number s m e := by
  unfold num32 at h
  cases hr : Ieee.single.read x with
  | number s m e => exact ⟨s, m, e, rfl⟩
  | infinity s => rw [hr] at h; cases h
  | nan s f => rw [hr] at h; cases h

theorem single_read_word (s : Bool) (k : Nat) (h : k ≤ Ieee.single.infRung) : (Ieee.single.read (Ieee.single.word s k)).isNaN = false := by
  have hi : Ieee.single.infRung = 2139095040 := by decide
  have hw : Ieee.single.signWeight = 2147483648 := by decide
  rw [hi] at h
  unfold Ieee.Format.read Ieee.Format.word
  simp only [hi, hw]
  have hk : k % 2147483648 = k := Nat.mod_eq_of_lt (by omega)
  have hs1 : (2147483648 + k) % 2147483648 = k := by omega
  cases s
  · simp only [Bool.false_eq_true, if_false, hk]
    split
    · rfl
    · split
      · rfl
      · rw [if_pos (by omega)]; rfl
  · simp only [if_true, hs1]
    split
    · rfl
    · split
      · rfl
      · rw [if_pos (by omega)]; rfl

theorem nearest_fin (s : Bool) (m : Nat) (e : Int) : fin32 (Ieee.single.nearest s m e) = true := by
  unfold fin32
  rw [Bool.not_eq_true']
  unfold Ieee.Format.nearest
  split
  · exact single_read_word s 0 (Nat.zero_le _)
  · exact single_read_word s _ (Nat.min_le_right _ _)

theorem write_fin (d : Ieee.Datum) (h : d.isNaN = false) : fin32 (Ieee.single.write d) = true := by
  cases d with
  | number s m e => exact nearest_fin s m e
  | infinity s => unfold fin32; rw [Bool.not_eq_true']; exact single_read_word s _ (Nat.le_refl _)
  | nan s f => cases h

/-- A product of two numbers is made without a draw, and is no NaN. -/
theorem mul_ok {x y : Nat} (hx : num32 x = true) (hy : num32 y = true) : floatBits .mul .f32 x y = some (fmul x y) ∧ fin32 (fmul x y) = true := by
  obtain ⟨s, m, e, hr⟩ := num32_get hx
  obtain ⟨t, n, j, hq⟩ := num32_get hy
  have h : Ieee.single.mul x y = some (Ieee.single.write (.number (s ^^ t) (m * n) (e + j))) := by
    unfold Ieee.Format.mul
    rw [hr, hq]; rfl
  have e1 : fmul x y = Ieee.single.write (.number (s ^^ t) (m * n) (e + j)) := by unfold fmul; rw [h]; rfl
  rw [e1]
  exact ⟨h, write_fin _ rfl⟩

theorem order_some {x y : Nat} (hx : fin32 x = true) (hy : fin32 y = true) : ∃ o, FloatKind.f32.format.order x y = some o := by
  unfold fin32 at hx hy
  rw [Bool.not_eq_true'] at hx hy
  show ∃ o, (Ieee.single.read x).order (Ieee.single.read y) = some o
  generalize Ieee.single.read x = a at *
  generalize Ieee.single.read y = b at *
  cases a <;> cases b <;> first | (cases hx; done) | (cases hy; done) | exact ⟨_, rfl⟩

theorem num_fin {x : Nat} (h : num32 x = true) : fin32 x = true := by
  obtain ⟨s, m, e, hr⟩ := num32_get h
  unfold fin32; rw [hr]; rfl

theorem sineB_num_nat : ∀ n : Nat, n < 256 → num32 (sineB (n : Int)) = true := by decide +kernel

theorem sineB_num (a : Int) : num32 (sineB (angB a)) = true := by
  have h0 := angB_lo a
  have h1 := angB_hi a
  generalize angB a = n at *
  obtain ⟨m, rfl⟩ := Int.eq_ofNat_of_zero_le h0
  exact sineB_num_nat m (by omega)

theorem cosB_num (a : Int) : num32 (cosB a) = true := sineB_num _

def litB (l : Nat) : Nat := if FloatKind.f32.format.order l 0 = some .gt then l else 0

def fallB (x d : Int) : Nat := if 0 < x then litB (fmul (cosB x) (cosB d)) else 0

theorem zero_fin : fin32 0 = true := by decide

end Go.Proofs.YtddnfbpgldchcaaGreatDoor
