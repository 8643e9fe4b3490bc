/-
  The part of light that a blind blocks, that is open, and that passes, as plain functions; none of their steps is without an answer. Nothing of the program is named.

-/
import Derived.Test.YtddnfbpgldchcaaGreatDoorSgn

namespace Go.Proofs.YtddnfbpgldchcaaGreatDoor

open Go

/-- The size of a number. -/
def sizeB (x : Nat) : Nat := if 2147483648 < x then x - 2147483648 else x

theorem sub_neg {r : Nat} (h : r < 2139095040) : floatBits .sub .f32 0 (2147483648 + r) = some r := by
  obtain ⟨m, i, hr, hm⟩ := read_neg h
  have hz : Ieee.single.read 0 = .number false 0 (-149) := by decide
  show Ieee.single.sub 0 (2147483648 + r) = some r
  unfold Ieee.Format.sub
  rw [hz, hr]
  have e0 : min (-149 : Int) (-149 + (i : Int)) = -149 := by omega
  have e2 : (-149 + (i : Int) - (-149 : Int)).toNat = i := by omega
  simp only [Ieee.Datum.opposite, Ieee.Datum.sum, Option.map_some, Ieee.Format.write, e0, e2, Bool.not_true, signed_false]
  have e3 : (((0 * 2 ^ (-149 - (-149 : Int)).toNat : Nat) : Int) + ((m * 2 ^ i : Nat) : Int)) = ((m * 2 ^ i : Nat) : Int) := by simp
  rw [e3, Int.natAbs_natCast]
  have e5 : (if ((m * 2 ^ i : Nat) : Int) = 0 then (false && false) else decide (((m * 2 ^ i : Nat) : Int) < 0)) = false := by
    split
    · rfl
    · exact decide_eq_false (by omega)
  rw [e5]
  have hR := nearest_rnd (m * 2 ^ i) (-149) 0 0 (by omega)
  rw [hm] at hR ⊢
  rw [rnd_exact hR (r := r) (by omega) (by decide) rfl]

theorem neg_neg {r : Nat} (h : r < 2147483648) : Op.negFloat .f32 (2147483648 + r) = r := by
  show (2147483648 + r) ^^^ 2 ^ 31 = r
  have e : 2147483648 + r = 2 ^ 31 ||| r := by
    have := Nat.two_pow_add_eq_or_of_lt (i := 31) (b := r) h 1
    simpa using this
  rw [e]
  apply Nat.eq_of_testBit_eq
  intro j
  rw [Nat.testBit_xor, Nat.testBit_or, Nat.testBit_two_pow]
  by_cases c : 31 = j
  · subst c
    rw [Nat.testBit_lt_two_pow h]; decide
  · simp [c]

theorem sizeB_neg {r : Nat} (h : 0 < r) : sizeB (2147483648 + r) = r := by
  unfold sizeB
  rw [if_pos (by omega)]; omega

theorem sizeB_pos {x : Nat} (h : x ≤ 2147483648) : sizeB x = x := if_neg (by omega)

/-- A finite number is below 0, or it is its own size. -/
theorem size_cases {x : Nat} (h : isNum x) : (∃ r, 0 < r ∧ r < 2139095040 ∧ x = 2147483648 + r ∧ FloatKind.f32.format.order x 0 = some .lt) ∨ (x ≤ 2147483648 ∧ (FloatKind.f32.format.order x 0 = some .eq ∨ FloatKind.f32.format.order x 0 = some .gt)) := by
  have h0 : sv 0 = 0 := rfl
  rcases h with h | ⟨h1, h2⟩
  · right
    refine ⟨by omega, ?_⟩
    rw [order_num (.inl h) (.inl (by decide)), h0, sv_pos (by omega)]
    by_cases c : rv x = 0
    · left; rw [c]; rfl
    · right; congr 1; exact Int.compare_eq_gt.2 (by omega)
  · obtain ⟨r, rfl⟩ : ∃ r, x = 2147483648 + r := ⟨x - 2147483648, by omega⟩
    by_cases c : r = 0
    · subst c
      right
      exact ⟨Nat.le_refl _, .inl (by decide +kernel)⟩
    · left
      refine ⟨r, by omega, by omega, rfl, ?_⟩
      rw [order_num (.inr ⟨h1, h2⟩) (.inl (by decide)), h0, sv_neg]
      have := rv_pos (r := r) (by omega)
      congr 1; exact Int.compare_eq_lt.2 (by omega)

theorem sine_size_nat : ∀ n : Nat, n < 256 → (decide (sineB (n : Int) < 2139095040) || decide (2147483648 ≤ sineB (n : Int) ∧ sineB (n : Int) < 4286578688)) = true ∧ sizeB (sineB (n : Int)) ≤ 1065353216 := by decide +kernel

theorem sine_isNum (a : Int) : isNum (sineB (angB a)) := by
  have h0 := angB_lo a
  have h1 := angB_hi a
  generalize angB a = n at *
  obtain ⟨m, rfl⟩ := Int.eq_ofNat_of_zero_le h0
  have h := (sine_size_nat m (by omega)).1
  simp only [Bool.or_eq_true, decide_eq_true_eq] at h
  exact h

theorem sine_size (a : Int) : sizeB (sineB (angB a)) ≤ 1065353216 := by
  have h0 := angB_lo a
  have h1 := angB_hi a
  generalize angB a = n at *
  obtain ⟨m, rfl⟩ := Int.eq_ofNat_of_zero_le h0
  exact (sine_size_nat m (by omega)).2

theorem cos_high_nat : ∀ n : Nat, n < 63 → 1019794704 ≤ cosB ((n : Int) + 1) ∧ cosB ((n : Int) + 1) ≤ 1065353216 := by decide +kernel

theorem cos_high (h : Int) (h0 : 1 ≤ h) (h1 : h < 64) : 1019794704 ≤ cosB h ∧ cosB h ≤ 1065353216 := by
  obtain ⟨n, rfl⟩ : ∃ n : Nat, h = (n : Int) + 1 := ⟨(h - 1).toNat, by omega⟩
  exact cos_high_nat n (by omega)

theorem cos_top : cosB 64 = 0 := by decide +kernel

/-! ### Products, quotients and sums grow with their operands -/

theorem mul_mono {x X y Y : Nat} (hX : X < 2139095040) (hY : Y < 2139095040) (hx : x ≤ X) (hy : y ≤ Y) : fmul x y ≤ fmul X Y :=
  rnd_mono (mul_rnd (by omega) (by omega)).2 (mul_rnd hX hY).2 (Nat.two_pow_pos _) (Nat.two_pow_pos _) (Nat.mul_le_mul_right _ (Nat.mul_le_mul (rv_le hx) (rv_le hy)))

theorem div_mono {x X y Y : Nat} (hX : X < 2139095040) (hy' : y < 2139095040) (hY : 0 < Y) (hx : x ≤ X) (hy : Y ≤ y) : fdiv x y ≤ fdiv X Y := by
  refine rnd_mono (div_rnd (by omega) hy' (by omega)).2 (div_rnd hX (by omega) hY).2 (rv_pos (by omega)) (rv_pos hY) ?_
  exact Nat.mul_le_mul (Nat.mul_le_mul_right _ (rv_le hx)) (rv_le hy)

theorem add_mono {x X y Y : Nat} (hX : X < 2139095040) (hY : Y < 2139095040) (hx : x ≤ X) (hy : y ≤ Y) : fadd x y ≤ fadd X Y :=
  rnd_mono (add_rnd (by omega) (by omega)).2 (add_rnd hX hY).2 (by decide) (by decide) (by rw [Nat.mul_one, Nat.mul_one]; exact Nat.add_le_add (rv_le hx) (rv_le hy))

/-! ### What is blocked -/

def min1 (q : Nat) : Nat := if 1065353216 < q then 1065353216 else q

def quoB (wd gp : Nat) (t h : Int) : Nat := fdiv (fmul wd (sizeB (sineB (angB (h + t))))) (fmul gp (cosB h))

def blkB (wd gp : Nat) (t h : Int) : Nat := if h = 64 then 1065353216 else min1 (quoB wd gp t h)

def opnB (wd gp : Nat) (t h : Int) : Nat := fsub 1065353216 (blkB wd gp t h)

def bncB (wd gp : Nat) (t : Int) (sh : Nat) (h : Int) : Nat := fdiv (fmul (fmul (blkB wd gp t h) sh) (opnB wd gp t 1)) 1073741824

def pasB (wd gp : Nat) (t : Int) (sh : Nat) (h : Int) : Nat := fadd (opnB wd gp t h) (bncB wd gp t sh h)

theorem blk_facts {wd gp : Nat} {t h : Int} (w0 : 1031798784 ≤ wd) (w1 : wd ≤ 1115684864) (g0 : 1031798784 ≤ gp) (g1 : gp ≤ 1115684864) (h0 : 1 ≤ h) (h1 : h < 64) :
    floatBits .mul .f32 wd (sizeB (sineB (angB (h + t)))) = some (fmul wd (sizeB (sineB (angB (h + t))))) ∧ floatBits .mul .f32 gp (cosB h) = some (fmul gp (cosB h)) ∧
    floatBits .quo .f32 (fmul wd (sizeB (sineB (angB (h + t))))) (fmul gp (cosB h)) = some (quoB wd gp t h) ∧ quoB wd gp t h < 2139095040 ∧ 0 < fmul gp (cosB h) ∧ fmul gp (cosB h) < 2139095040 := by
  have hs := sine_size (h + t)
  obtain ⟨c0, c1⟩ := cos_high h h0 h1
  unfold quoB
  generalize sizeB (sineB (angB (h + t))) = s at *
  generalize cosB h = c at *
  have m1 := mul_mono (x := wd) (X := 1115684864) (y := s) (Y := 1065353216) (by decide) (by decide) w1 hs
  have m2 := mul_mono (x := gp) (X := 1115684864) (y := c) (Y := 1065353216) (by decide) (by decide) g1 c1
  have m3 := mul_mono (x := 1031798784) (X := gp) (y := 1019794704) (Y := c) (by omega) (by omega) g0 c0
  have e1 : fmul 1115684864 1065353216 = 1115684864 := by decide +kernel
  have e3 : fmul 1031798784 1019794704 = 986240272 := by decide +kernel
  rw [e1] at m1 m2
  rw [e3] at m3
  have d := div_mono (x := fmul wd s) (X := 1115684864) (y := fmul gp c) (Y := 986240272) (by decide) (by omega) (by decide) m1 m3
  have e4 : fdiv 1115684864 986240272 < 2139095040 := by decide +kernel
  exact ⟨(mul_rnd (by omega) (by omega)).1, (mul_rnd (by omega) (by omega)).1, (div_rnd (by omega) (by omega) (by omega)).1, by omega, by omega, by omega⟩

theorem blk_le (wd gp : Nat) (t h : Int) : blkB wd gp t h ≤ 1065353216 := by
  unfold blkB min1
  split
  · exact Nat.le_refl _
  · split <;> omega

theorem one_sub_facts {b : Nat} (hb : b ≤ 1065353216) : floatBits .sub .f32 1065353216 b = some (fsub 1065353216 b) ∧ fsub 1065353216 b ≤ 1065353216 := by
  refine ⟨(sub_rnd (by decide) hb).1, ?_⟩
  refine rnd_le (sub_rnd (x := 1065353216) (by decide) hb).2 (by decide) ?_
  omega

theorem opn_facts (wd gp : Nat) (t h : Int) : floatBits .sub .f32 1065353216 (blkB wd gp t h) = some (opnB wd gp t h) ∧ opnB wd gp t h ≤ 1065353216 := one_sub_facts (blk_le wd gp t h)

theorem one_mul {x : Nat} (hx : x < 2139095040) : fmul x 1065353216 = x := by
  refine rnd_exact (mul_rnd hx (y := 1065353216) (by decide)).2 (by omega) (Nat.two_pow_pos _) ?_
  have : rv 1065353216 = 2 ^ 149 := by decide +kernel
  rw [this]

theorem mul_le_one {x y : Nat} (hx : x < 2139095040) (hy : y ≤ 1065353216) : fmul x y ≤ x := by
  have := mul_mono (x := x) (X := x) (y := y) (Y := 1065353216) hx (by decide) (Nat.le_refl _) hy
  rwa [one_mul hx] at this

/-- A product with -0. -/
theorem mul_neg0 {x : Nat} (hx : x < 2139095040) : floatBits .mul .f32 x 2147483648 = some 2147483648 ∧ floatBits .mul .f32 2147483648 x = some 2147483648 := by
  obtain ⟨m, i, hr, hm⟩ := read_pos hx
  have hz : Ieee.single.read 2147483648 = .number true 0 (-149) := by decide +kernel
  constructor
  · show Ieee.single.mul x 2147483648 = _
    unfold Ieee.Format.mul
    rw [hr, hz]; rfl
  · show Ieee.single.mul 2147483648 x = _
    unfold Ieee.Format.mul
    rw [hr, hz]
    simp only [Ieee.Datum.product, Nat.zero_mul, Option.map_some, Ieee.Format.write]
    rfl

theorem add_neg0 {x : Nat} (hx : x < 2139095040) : floatBits .add .f32 x 2147483648 = some x := by
  obtain ⟨m, i, hr, hm⟩ := read_pos hx
  have hz : Ieee.single.read 2147483648 = .number true 0 (-149) := by decide +kernel
  show Ieee.single.add x 2147483648 = _
  unfold Ieee.Format.add
  rw [hr, hz]
  have e0 : min (-149 + (i : Int)) (-149) = -149 := by omega
  have e2 : (-149 + (i : Int) - (-149 : Int)).toNat = i := by omega
  have e4 : Ieee.signed true 0 (-149 - (-149 : Int)).toNat = 0 := by decide
  simp only [Ieee.Datum.sum, Option.map_some, Ieee.Format.write, e0, e2, e4, signed_false, Int.add_zero, Int.natAbs_natCast]
  have e5 : (if ((m * 2 ^ i : Nat) : Int) = 0 then (false && true) else decide (((m * 2 ^ i : Nat) : Int) < 0)) = false := by
    split
    · rfl
    · exact decide_eq_false (by omega)
  rw [e5]
  have hR := nearest_rnd (m * 2 ^ i) (-149) 0 0 (by omega)
  rw [hm] at hR ⊢
  rw [rnd_exact hR (r := x) (by omega) (by decide) rfl]

theorem fget {op : BinOp} {x y r : Nat} {g : Nat → Nat → Nat} (hg : ∀ x y, g x y = (floatBits op .f32 x y).getD 0) (h : floatBits op .f32 x y = some r) : g x y = r := by rw [hg, h]; rfl

theorem fmul_get {x y r : Nat} (h : floatBits .mul .f32 x y = some r) : fmul x y = r := fget (g := fmul) (fun _ _ => rfl) h

theorem fadd_get {x y r : Nat} (h : floatBits .add .f32 x y = some r) : fadd x y = r := fget (g := fadd) (fun _ _ => rfl) h

theorem fdiv_get {x y r : Nat} (h : floatBits .quo .f32 x y = some r) : fdiv x y = r := fget (g := fdiv) (fun _ _ => rfl) h

/-- Every step of what passes has an answer, and the answer is from 0 to .. -/
theorem pas_facts (wd gp : Nat) (t : Int) {sh : Nat} (hs : sh ≤ 1065353216 ∨ sh = 2147483648) (h : Int) :
    floatBits .mul .f32 (blkB wd gp t h) sh = some (fmul (blkB wd gp t h) sh) ∧ floatBits .mul .f32 (fmul (blkB wd gp t h) sh) (opnB wd gp t 1) = some (fmul (fmul (blkB wd gp t h) sh) (opnB wd gp t 1)) ∧
    floatBits .quo .f32 (fmul (fmul (blkB wd gp t h) sh) (opnB wd gp t 1)) 1073741824 = some (bncB wd gp t sh h) ∧ floatBits .add .f32 (opnB wd gp t h) (bncB wd gp t sh h) = some (pasB wd gp t sh h) ∧ pasB wd gp t sh h < 2139095040 := by
  have hb := blk_le wd gp t h
  have ho := (opn_facts wd gp t h).2
  have hv := (opn_facts wd gp t 1).2
  unfold pasB bncB
  generalize blkB wd gp t h = b at *
  generalize opnB wd gp t h = o at *
  generalize opnB wd gp t 1 = v at *
  rcases hs with hs | rfl
  · have m1 := mul_le_one (x := b) (y := sh) (by omega) hs
    have m2 := mul_le_one (x := fmul b sh) (y := v) (by omega) hv
    have d1 := div_mono (x := fmul (fmul b sh) v) (X := 1065353216) (y := 1073741824) (Y := 1073741824) (by decide) (by decide) (by decide) (by omega) (Nat.le_refl _)
    have e1 : fdiv 1065353216 1073741824 = 1056964608 := by decide +kernel
    rw [e1] at d1
    have a1 := add_mono (x := o) (X := 1065353216) (y := fdiv (fmul (fmul b sh) v) 1073741824) (Y := 1056964608) (by decide) (by decide) ho d1
    have e2 : fadd 1065353216 1056964608 = 1069547520 := by decide +kernel
    rw [e2] at a1
    exact ⟨(mul_rnd (by omega) (by omega)).1, (mul_rnd (by omega) (by omega)).1, (div_rnd (by omega) (by decide) (by decide)).1, (add_rnd (by omega) (by omega)).1, by omega⟩
  · have m1 := (mul_neg0 (x := b) (by omega)).1
    have m2 := (mul_neg0 (x := v) (by omega)).2
    rw [fmul_get m1, fmul_get m2]
    have d1 : floatBits .quo .f32 2147483648 1073741824 = some 2147483648 := by decide +kernel
    rw [fdiv_get d1]
    have a1 := add_neg0 (x := o) (by omega)
    rw [fadd_get a1]
    exact ⟨m1, m2, d1, a1, by omega⟩

theorem fin_of_lt {x : Nat} (h : x < 2139095040) : fin32 x = true := num_fin (num_of_isNum (.inl h))

end Go.Proofs.YtddnfbpgldchcaaGreatDoor
