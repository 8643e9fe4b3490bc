/-
  The anger that votes make at a tilt, and the tilt with the least one. Nothing of the program is named.
-/
import Derived.Test.YtdccmdcgbembpaaFlP
import Derived.Test.YtdccmdcgbembpaaNear
namespace Go.Proofs.Ytdccmdcgbembpaa
open Go

theorem sub_bound {x y B C : Nat} (hx : isNum x) (hy : isNum y) (hX : (sv x).natAbs ≤ rv B) (hY : (sv y).natAbs ≤ rv B) (hBC : 2 * rv B ≤ rv C) (_hC : C < 2139095040) :
    floatBits .sub .f32 x y = some (fsub x y) ∧ (fsub x y ≤ C ∨ (2147483648 ≤ fsub x y ∧ fsub x y ≤ 2147483648 + C)) := by
  obtain ⟨s, m, i, hr, hm⟩ := read_num32 hx
  obtain ⟨t, n, j, hq, hn⟩ := read_num32 hy
  rw [← signed_scale s m i (min i j) (Nat.min_le_left _ _)] at hm
  rw [← signed_scale t n j (min i j) (Nat.min_le_right _ _)] at hn
  have h : Ieee.single.sub x y = some (Ieee.single.nearest (if Ieee.signed s m (i - min i j) - Ieee.signed t n (j - min i j) = 0 then (s && !t) else decide (Ieee.signed s m (i - min i j) - Ieee.signed t n (j - min i j) < 0)) (Ieee.signed s m (i - min i j) - Ieee.signed t n (j - min i j)).natAbs (-149 + ((min i j : Nat) : Int))) := by
    unfold Ieee.Format.sub
    rw [hr, hq]
    have e0 : min (-149 + (i : Int)) (-149 + (j : Int)) = -149 + ((min i j : Nat) : Int) := by omega
    have e1 : (-149 + (i : Int) - (-149 + ((min i j : Nat) : Int))).toNat = i - min i j := by omega
    have e2 : (-149 + (j : Int) - (-149 + ((min i j : Nat) : Int))).toNat = j - min i j := by omega
    simp only [Ieee.Datum.opposite, Ieee.Datum.sum, Option.map_some, Ieee.Format.write, e0, e1, e2, signed_not, ← Int.sub_eq_add_neg]
  refine ⟨by unfold fsub; rw [h]; exact h, ?_⟩
  have e1 : fsub x y = (Ieee.single.sub x y).getD 0 := rfl
  rw [h, Option.getD_some] at e1
  generalize hT : Ieee.signed s m (i - min i j) - Ieee.signed t n (j - min i j) = T at *
  have hsv : T * ((2 ^ min i j : Nat) : Int) = sv x - sv y := by rw [← hT, Int.sub_mul, hm, hn]
  have habs : T.natAbs * 2 ^ min i j ≤ rv C := by
    have h1 : (T * ((2 ^ min i j : Nat) : Int)).natAbs = T.natAbs * 2 ^ min i j := by rw [Int.natAbs_mul, Int.natAbs_natCast]
    rw [← h1, hsv]
    omega
  have hR := nearest_rnd T.natAbs (-149 + ((min i j : Nat) : Int)) (min i j) 0 (by omega)
  have hle := rnd_le hR (r := C) (by decide) (by simpa using habs)
  rw [e1]
  generalize (if T = 0 then (s && !t) else decide (T < 0)) = sg
  rw [nearest_sign]
  cases sg
  · rw [if_neg (by simp)]; exact .inl (by omega)
  · rw [if_pos rfl]; exact .inr ⟨by omega, by omega⟩

/-- The difference of what passes and a vote, without its sign. -/
def dV (p x : Nat) : Nat := sizeB (fsub p x)
theorem dV_ok {p x : Nat} (hp : p ≤ 1069547520) (hx : PartOk x) : floatBits .sub .f32 p x = some (fsub p x) ∧ isNum (fsub p x) ∧ (dV p x ≤ 1077936128 ∨ dV p x = 2147483648) := by
  have hpv : sv p = (rv p : Int) := sv_pos (by omega)
  have hp2 : rv p ≤ rv 1069547520 := rv_le hp
  have e : 2 * rv 1069547520 ≤ rv 1077936128 := by decide +kernel
  have hxn : isNum x ∧ (sv x).natAbs ≤ rv 1069547520 := by
    rcases hx with hx | rfl
    · have hxv : sv x = (rv x : Int) := sv_pos (by omega)
      have hx2 : rv x ≤ rv 1069547520 := rv_le (by omega)
      exact ⟨.inl (by omega), by rw [hxv]; omega⟩
    · have hz : sv 2147483648 = 0 := by decide +kernel
      exact ⟨.inr ⟨by decide, by decide⟩, by rw [hz]; exact Nat.zero_le _⟩
  obtain ⟨h1, h2⟩ := sub_bound (x := p) (y := x) (B := 1069547520) (C := 1077936128) (.inl (by omega)) hxn.1 (by rw [hpv]; omega) hxn.2 e (by decide)
  refine ⟨h1, ?_, ?_⟩
  · rcases h2 with h2 | ⟨h2, h3⟩
    · exact .inl (by omega)
    · exact .inr ⟨h2, by omega⟩
  · unfold dV sizeB
    split <;> omega
/-- The sum of the first k differences. -/
def sumA (p : Nat) (zs : List Nat) : Nat → Nat
  | 0 => 0
  | k + 1 => fadd (sumA p zs k) (dV p (zs.getD k 0))
theorem capA : ∀ k : Nat, k < 13 → floatOfInt .f32 ((3 * k : Nat) : Int) < 2139095040 ∧ fadd (floatOfInt .f32 ((3 * k : Nat) : Int)) 1077936128 = floatOfInt .f32 ((3 * (k + 1) : Nat) : Int) ∧ floatOfInt .f32 ((3 * k : Nat) : Int) ≤ floatOfInt .f32 ((3 * (k + 1) : Nat) : Int) := by decide +kernel
theorem addA {s k d : Nat} (hs : s ≤ floatOfInt .f32 ((3 * k : Nat) : Int)) (hk : k ≤ 12) (hd : d ≤ 1077936128 ∨ d = 2147483648) : floatBits .add .f32 s d = some (fadd s d) ∧ fadd s d ≤ floatOfInt .f32 ((3 * (k + 1) : Nat) : Int) := by
  obtain ⟨c0, c1, c2⟩ := capA k (by omega)
  rcases hd with hd | rfl
  · have a := add_mono (x := s) (X := floatOfInt .f32 ((3 * k : Nat) : Int)) (y := d) (Y := 1077936128) c0 (by decide) hs hd
    rw [c1] at a
    exact ⟨(add_rnd (by omega) (by omega)).1, a⟩
  · have h := add_neg0 (x := s) (by omega)
    rw [fadd_get h]
    exact ⟨h, by omega⟩
theorem sumA_le {p : Nat} {zs : List Nat} (hp : p ≤ 1069547520) (hz : ∀ z ∈ zs, PartOk z) (hl : zs.length ≤ 12) : ∀ k, k ≤ zs.length → sumA p zs k ≤ floatOfInt .f32 ((3 * k : Nat) : Int)
  | 0, _ => Nat.zero_le _
  | k + 1, h => (addA (sumA_le hp hz hl k (by omega)) (by omega) (dV_ok hp (getD_part hz k (by omega))).2.2).2
theorem sumA_step {p : Nat} {zs : List Nat} (hp : p ≤ 1069547520) (hz : ∀ z ∈ zs, PartOk z) (hl : zs.length ≤ 12) (k : Nat) (h : k < zs.length) : floatBits .add .f32 (sumA p zs k) (dV p (zs.getD k 0)) = some (sumA p zs (k + 1)) :=
  (addA (sumA_le hp hz hl k (by omega)) (by omega) (dV_ok hp (getD_part hz k h)).2.2).1
theorem sumA_num {p : Nat} {zs : List Nat} (hp : p ≤ 1069547520) (hz : ∀ z ∈ zs, PartOk z) (hl : zs.length ≤ 12) : sumA p zs zs.length < 2139095040 := by
  have h := sumA_le hp hz hl zs.length (Nat.le_refl _)
  have c := (capA zs.length (by omega)).1
  omega
theorem pas_le (wd gp : Nat) (t : Int) {sh : Nat} (hs : sh ≤ 1065353216 ∨ sh = 2147483648) (h : Int) : pasB wd gp t sh h ≤ 1069547520 := by
  have hb := blk_le wd gp t h
  have ho := (opn_facts wd gp t h).2
  have hv := (opn_facts wd gp t 1).2
  unfold pasB bncB
  generalize blkB wd gp t h = b at *
  generalize opnB wd gp t h = o at *
  generalize opnB wd gp t 1 = v at *
  rcases hs with hs | rfl
  · have m1 := mul_le_one (x := b) (y := sh) (by omega) hs
    have m2 := mul_le_one (x := fmul b sh) (y := v) (by omega) hv
    have d1 := div_mono (x := fmul (fmul b sh) v) (X := 1065353216) (y := 1073741824) (Y := 1073741824) (by decide) (by decide) (by decide) (by omega) (Nat.le_refl _)
    have e1 : fdiv 1065353216 1073741824 = 1056964608 := by decide +kernel
    rw [e1] at d1
    have a1 := add_mono (x := o) (X := 1065353216) (y := fdiv (fmul (fmul b sh) v) 1073741824) (Y := 1056964608) (by decide) (by decide) ho d1
    have e2 : fadd 1065353216 1056964608 = 1069547520 := by decide +kernel
    rw [e2] at a1
    exact a1
  · have m1 := (mul_neg0 (x := b) (by omega)).1
    have m2 := (mul_neg0 (x := v) (by omega)).2
    rw [fmul_get m1, fmul_get m2]
    have d1 : floatBits .quo .f32 2147483648 1073741824 = some 2147483648 := by decide +kernel
    rw [fdiv_get d1]
    have a1 := add_neg0 (x := o) (by omega)
    rw [fadd_get a1]
    omega
/-- The anger at the k-th tilt. -/
def dA (wd gp sh : Nat) (h : Int) (zs : List Nat) (k : Nat) : Nat := sumA (pasB wd gp ((k : Int) - 64) sh h) zs zs.length
theorem dA_lt (wd gp : Nat) {sh : Nat} (hs : sh ≤ 1065353216 ∨ sh = 2147483648) (h : Int) {zs : List Nat} (hz : ∀ z ∈ zs, PartOk z) (hl : zs.length ≤ 12) (k : Nat) : dA wd gp sh h zs k < 2139095040 := sumA_num (pas_le wd gp _ hs h) hz hl
theorem dA_num (wd gp : Nat) {sh : Nat} (hs : sh ≤ 1065353216 ∨ sh = 2147483648) (h : Int) {zs : List Nat} (hz : ∀ z ∈ zs, PartOk z) (hl : zs.length ≤ 12) (k : Nat) : isNum (dA wd gp sh h zs k) := .inl (dA_lt wd gp hs h hz hl k)
theorem order_neg1 {x : Nat} (hx : x < 2139095040) : FloatKind.f32.format.order x 0 = some .gt ∨ FloatKind.f32.format.order x 0 = some .eq := by
  rw [order_pos hx (by decide)]
  rcases Nat.eq_zero_or_pos x with rfl | h
  · right; rfl
  · left; rw [Nat.compare_eq_gt.2 h]
theorem order_m1 : FloatKind.f32.format.order 3212836864 0 = some .lt := by decide +kernel

end Go.Proofs.Ytdccmdcgbembpaa
