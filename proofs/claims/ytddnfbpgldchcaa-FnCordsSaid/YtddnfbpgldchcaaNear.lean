/-
  A difference of two finite numbers that are not too great is a finite number; and the first of several numbers that is least. Nothing of the program is named.
-/
import Derived.Test.YtddnfbpgldchcaaBlk
namespace Go.Proofs.Ytddnfbpgldchcaa
open Go

theorem cut_sign (s : Bool) (n d : Nat) : Ieee.Toward.even.cut s n d = Ieee.Toward.even.cut false n d := by
  unfold Ieee.Toward.cut
  rfl

theorem nearest_sign (s : Bool) (m : Nat) (e : Int) : Ieee.single.nearest s m e = if s then 2147483648 + Ieee.single.nearest false m e else Ieee.single.nearest false m e := by
  have hw : Ieee.single.signWeight = 2147483648 := by decide
  have hword : ∀ r, Ieee.single.word s r = if s then 2147483648 + Ieee.single.word false r else Ieee.single.word false r := by
    intro r
    unfold Ieee.Format.word
    rw [hw]
    cases s <;> rfl
  unfold Ieee.Format.nearest
  by_cases hm : m = 0
  · rw [if_pos hm, if_pos hm]
    exact hword 0
  · rw [if_neg hm, if_neg hm]
    dsimp only
    rw [cut_sign s]
    exact hword _

theorem signed_not (t : Bool) (n k : Nat) : Ieee.signed (!t) n k = - Ieee.signed t n k := by
  unfold Ieee.signed
  cases t <;> simp

theorem sub_num {x y B C : Nat} (hx : isNum x) (hy : isNum y) (hX : (sv x).natAbs ≤ rv B) (hY : (sv y).natAbs ≤ rv B) (hBC : 2 * rv B ≤ rv C) (hC : C < 2139095040) :
    floatBits .sub .f32 x y = some (fsub x y) ∧ isNum (fsub x y) := by
  obtain ⟨s, m, i, hr, hm⟩ := read_num32 hx
  obtain ⟨t, n, j, hq, hn⟩ := read_num32 hy
  rw [← signed_scale s m i (min i j) (Nat.min_le_left _ _)] at hm
  rw [← signed_scale t n j (min i j) (Nat.min_le_right _ _)] at hn
  have h : Ieee.single.sub x y = some (Ieee.single.nearest (if Ieee.signed s m (i - min i j) - Ieee.signed t n (j - min i j) = 0 then (s && !t) else decide (Ieee.signed s m (i - min i j) - Ieee.signed t n (j - min i j) < 0)) (Ieee.signed s m (i - min i j) - Ieee.signed t n (j - min i j)).natAbs (-149 + ((min i j : Nat) : Int))) := by
    unfold Ieee.Format.sub
    rw [hr, hq]
    have e0 : min (-149 + (i : Int)) (-149 + (j : Int)) = -149 + ((min i j : Nat) : Int) := by omega
    have e1 : (-149 + (i : Int) - (-149 + ((min i j : Nat) : Int))).toNat = i - min i j := by omega
    have e2 : (-149 + (j : Int) - (-149 + ((min i j : Nat) : Int))).toNat = j - min i j := by omega
    simp only [Ieee.Datum.opposite, Ieee.Datum.sum, Option.map_some, Ieee.Format.write, e0, e1, e2, signed_not, ← Int.sub_eq_add_neg]
  refine ⟨by unfold fsub; rw [h]; exact h, ?_⟩
  have e1 : fsub x y = (Ieee.single.sub x y).getD 0 := rfl
  rw [h, Option.getD_some] at e1
  generalize hT : Ieee.signed s m (i - min i j) - Ieee.signed t n (j - min i j) = T at *
  have hsv : T * ((2 ^ min i j : Nat) : Int) = sv x - sv y := by rw [← hT, Int.sub_mul, hm, hn]
  have habs : T.natAbs * 2 ^ min i j ≤ rv C := by
    have h1 : (T * ((2 ^ min i j : Nat) : Int)).natAbs = T.natAbs * 2 ^ min i j := by rw [Int.natAbs_mul, Int.natAbs_natCast]
    rw [← h1, hsv]
    omega
  have hR := nearest_rnd T.natAbs (-149 + ((min i j : Nat) : Int)) (min i j) 0 (by omega)
  have hle := rnd_le hR (r := C) (by decide) (by simpa using habs)
  rw [e1]
  generalize (if T = 0 then (s && !t) else decide (T < 0)) = sg
  rw [nearest_sign]
  cases sg
  · rw [if_neg (by simp)]; exact .inl (by omega)
  · rw [if_pos rfl]; exact .inr ⟨by omega, by omega⟩

theorem size_isNum {x : Nat} (h : isNum x) : isNum (sizeB x) := by
  unfold sizeB
  split
  · rcases h with h | ⟨h1, h2⟩
    · exact .inl (by omega)
    · exact .inl (by omega)
  · exact h

/-- Whether a number is less than another one. -/
def ltF (a b : Nat) : Bool := FloatKind.f32.format.order a b == some .lt
/-- The first of several numbers that is least. -/
def firstMin (d : Nat → Nat) : Nat → Nat
  | 0 => 0
  | k + 1 => if ltF (d (k + 1)) (d (firstMin d k)) then k + 1 else firstMin d k
theorem firstMin_le (d : Nat → Nat) : ∀ k, firstMin d k ≤ k
  | 0 => Nat.le_refl _
  | k + 1 => by
    have := firstMin_le d k
    unfold firstMin
    split <;> omega
theorem firstMin_hit {d : Nat → Nat} {k : Nat} (h : ltF (d (k + 1)) (d (firstMin d k)) = true) : firstMin d (k + 1) = k + 1 := by rw [firstMin, if_pos h]
theorem firstMin_miss {d : Nat → Nat} {k : Nat} (h : ltF (d (k + 1)) (d (firstMin d k)) = false) : firstMin d (k + 1) = firstMin d k := by rw [firstMin, if_neg (by rw [h]; decide)]
/-- The order of two finite numbers. -/
theorem order_cases {x y : Nat} (hx : isNum x) (hy : isNum y) : (FloatKind.f32.format.order x y = some .lt ∧ ltF x y = true) ∨ (FloatKind.f32.format.order x y = some .eq ∧ ltF x y = false) ∨ (FloatKind.f32.format.order x y = some .gt ∧ ltF x y = false) := by
  unfold ltF
  rw [order_num hx hy]
  cases compare (sv x) (sv y) <;> simp
theorem order_self {x : Nat} (hx : isNum x) : FloatKind.f32.format.order x x = some .eq := by
  rw [order_num hx hx, Int.compare_eq_eq.2 rfl]

/-- The same, with the first one looked at twice. -/
def bestK (d : Nat → Nat) (k : Nat) : Nat := if k = 0 then 0 else firstMin d (k - 1)
theorem bestK_hit {d : Nat → Nat} {k : Nat} (h : ltF (d k) (d (bestK d k)) = true) : bestK d (k + 1) = k := by
  cases k with
  | zero => rfl
  | succ k => exact firstMin_hit h
theorem bestK_miss {d : Nat → Nat} {k : Nat} (h : ltF (d k) (d (bestK d k)) = false) : bestK d (k + 1) = bestK d k := by
  cases k with
  | zero => rfl
  | succ k => exact firstMin_miss h
theorem bestK_lt (d : Nat → Nat) {k n : Nat} (h : k ≤ n) (hn : 0 < n) : bestK d k < n := by
  unfold bestK
  split
  · exact hn
  · have := firstMin_le d (k - 1)
    omega
theorem bestK_end (d : Nat → Nat) {n : Nat} (hn : 0 < n) : bestK d n = firstMin d (n - 1) := by
  unfold bestK
  rw [if_neg (by omega)]

end Go.Proofs.Ytddnfbpgldchcaa
