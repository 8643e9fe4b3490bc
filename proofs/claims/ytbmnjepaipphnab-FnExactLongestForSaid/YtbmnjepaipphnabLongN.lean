/-
  How far an awning may reach out, by eighths: the numbers.
-/
import Derived.Test.YtbmnjepaipphnabFallN
namespace Go.Proofs.Ytbmnjepaipphnab
open Go

/-- The Out that is so many eighths. -/
def eig (k : Nat) : Nat := fdiv (floatOfInt .f32 (k : Int)) 1090519040
def eigOk (k : Nat) : Bool :=
  floatBits .quo .f32 (floatOfInt .f32 (k : Int)) 1090519040 == some (eig k) && num32 (eig k) && floatBits .mul .f32 (eig k) (eig k) == some (fmul (eig k) (eig k)) && num32 (fmul (eig k) (eig k))
    && (k == 0 || (floatBits .sub .f32 (eig k) 1040187392 == some (eig (k - 1)) && decide (eig (k - 1) < eig k)))
theorem eigOk_nat : ∀ k : Nat, k < 65 → eigOk k = true := by decide +kernel
theorem eig_get (k : Nat) (h : k ≤ 64) : floatBits .quo .f32 (floatOfInt .f32 (k : Int)) 1090519040 = some (eig k) ∧ num32 (eig k) = true ∧ floatBits .mul .f32 (eig k) (eig k) = some (fmul (eig k) (eig k)) ∧ num32 (fmul (eig k) (eig k)) = true := by
  have h := eigOk_nat k (by omega)
  simp only [eigOk, Bool.and_eq_true, beq_iff_eq] at h
  exact ⟨h.1.1.1.1, h.1.1.1.2, h.1.1.2, h.1.2⟩
theorem eig_pred (k : Nat) (h : k + 1 ≤ 64) : floatBits .sub .f32 (eig (k + 1)) 1040187392 = some (eig k) ∧ eig k < eig (k + 1) := by
  have h := eigOk_nat (k + 1) (by omega)
  simp only [eigOk, Bool.and_eq_true, beq_iff_eq, Bool.or_eq_true, decide_eq_true_eq, Nat.add_sub_cancel] at h
  rcases h.2 with h | h
  · omega
  · exact h
theorem eig_top : eig 64 = 1090519040 := by decide +kernel
theorem eig_zero : eig 0 = 0 := by decide +kernel
/-- The strain of a gust. -/
def stn (x g : Nat) : Nat := fmul (fmul x x) g
/-- The greatest of the first n that is fine; 0 if none is. -/
def lastK (P : Nat → Bool) : Nat → Nat
  | 0 => 0
  | k + 1 => if P (k + 1) then k + 1 else lastK P k
theorem lastK_hit {P : Nat → Bool} {k : Nat} (h : P (k + 1) = true) : lastK P (k + 1) = k + 1 := by rw [lastK, if_pos h]
theorem lastK_miss {P : Nat → Bool} {k : Nat} (h : P (k + 1) = false) : lastK P (k + 1) = lastK P k := by rw [lastK, if_neg (by rw [h]; decide)]
theorem lastK_le (P : Nat → Bool) : ∀ k, lastK P k ≤ k
  | 0 => Nat.le_refl _
  | k + 1 => by
    unfold lastK
    split
    · exact Nat.le_refl _
    · exact Nat.le_succ_of_le (lastK_le P k)
def fitK (g b k : Nat) : Bool := le0 (FloatKind.f32.format.order (stn (eig k) g) b)

theorem num_small {x B : Nat} (h : x ≤ B ∨ x = 2147483648) (hB : B < 2139095040) : num32 x = true := by
  rcases h with h | rfl
  · exact num_of_isNum (.inl (by omega))
  · decide +kernel
theorem stn_ok {g : Nat} (hg : g ≤ 1233125376 ∨ g = 2147483648) (k : Nat) (h : k ≤ 64) : floatBits .mul .f32 (fmul (eig k) (eig k)) g = some (stn (eig k) g) ∧ fin32 (stn (eig k) g) = true :=
  mul_ok (eig_get k h).2.2.2 (num_small hg (by decide))
theorem fit_zero {g b : Nat} (hg : g ≤ 1233125376 ∨ g = 2147483648) (hb : b ≤ 1233125376 ∨ b = 2147483648) : fitK g b 0 = true := by
  have e : fmul (eig 0) (eig 0) = 0 := by decide +kernel
  have hs : stn (eig 0) g = 0 ∨ stn (eig 0) g = 2147483648 := by
    unfold stn
    rw [e]
    rcases hg with h | rfl
    · exact .inl (zero_fmul (by omega))
    · right; decide +kernel
  have hbn : isNum b ∧ 0 ≤ sv b := by
    rcases hb with h | rfl
    · exact ⟨.inl (by omega), by rw [sv_pos (by omega)]; omega⟩
    · exact ⟨.inr ⟨by decide, by decide⟩, by decide +kernel⟩
  unfold fitK
  have key : ∀ z, isNum z → sv z = 0 → le0 (FloatKind.f32.format.order z b) = true := fun z hz hz0 => by
    rw [order_num hz hbn.1, le0_compare, hz0]
    exact decide_eq_true hbn.2
  rcases hs with h | h
  · rw [h]; exact key 0 (.inl (by decide)) rfl
  · rw [h]; exact key _ (.inr ⟨by decide, by decide⟩) (by decide +kernel)
/-- How the comparison of a strain comes out. -/
theorem fit_cases {g b : Nat} (hg : g ≤ 1233125376 ∨ g = 2147483648) (hb : b ≤ 1233125376 ∨ b = 2147483648) (k : Nat) (h : k ≤ 64) :
    (FloatKind.f32.format.order (stn (eig k) g) b = some .gt ∧ fitK g b k = false) ∨ (FloatKind.f32.format.order (stn (eig k) g) b = some .eq ∧ fitK g b k = true) ∨ (FloatKind.f32.format.order (stn (eig k) g) b = some .lt ∧ fitK g b k = true) := by
  obtain ⟨o, ho⟩ := order_some (stn_ok hg k h).2 (num_fin (num_small hb (by decide)))
  unfold fitK
  rw [ho]
  cases o
  · exact .inr (.inr ⟨rfl, rfl⟩)
  · exact .inr (.inl ⟨rfl, rfl⟩)
  · exact .inl ⟨rfl, rfl⟩
def fltN : Value → Nat
  | .float _ b => b
  | _ => 0

end Go.Proofs.Ytbmnjepaipphnab
