/-
  How the shaded part grows with the reach of an awning, and what halving comes to.
-/
import Derived.Test.YthpimcfmgefkkaaDoorShadeN
import Derived.Test.YthpimcfmgefkkaaDoorShF
namespace Go.Proofs.YthpimcfmgefkkaaDoor
open Go.RowKit

theorem sub_neg0 {x : Nat} (hx : x < 2139095040) : fsub x 2147483648 = x := by
  have e : Ieee.single.sub x 2147483648 = Ieee.single.add x 0 := by
    obtain ⟨m, i, hr, hm⟩ := read_pos hx
    have hz : Ieee.single.read 2147483648 = .number true 0 (-149) := by decide +kernel
    have h0 : Ieee.single.read 0 = .number false 0 (-149) := by decide +kernel
    unfold Ieee.Format.sub Ieee.Format.add
    rw [hr, hz, h0]
    rfl
  have e2 : fadd x 0 = x := rnd_exact (add_rnd (x := x) (y := 0) (by omega) (by decide)).2 (by omega) (by decide) (by rw [rv_zero]; omega)
  unfold fadd at e2
  unfold fsub
  rw [e]; exact e2

theorem sub_under {x y : Nat} (hx : x < y) (hy : y < 2139095040) : ∃ r, fsub x y = 2147483648 + r ∧ r ≤ y := by
  obtain ⟨m, i, hr, hm⟩ := read_pos (Nat.lt_trans hx hy)
  obtain ⟨n, j, hq, hn⟩ := read_pos hy
  have hlt : m * 2 ^ (i - min i j) < n * 2 ^ (j - min i j) := by
    have h1 := rv_lt hx
    rw [← hm, ← hn] at h1
    have e1 : n * 2 ^ j = n * 2 ^ (j - min i j) * 2 ^ (min i j) := by rw [Nat.mul_assoc, ← Nat.pow_add, Nat.sub_add_cancel (Nat.min_le_right _ _)]
    have e2 : m * 2 ^ i = m * 2 ^ (i - min i j) * 2 ^ (min i j) := by rw [Nat.mul_assoc, ← Nat.pow_add, Nat.sub_add_cancel (Nat.min_le_left _ _)]
    rw [e1, e2] at h1
    exact Nat.lt_of_mul_lt_mul_right h1
  have h : Ieee.single.sub x y = some (Ieee.single.nearest true (n * 2 ^ (j - min i j) - m * 2 ^ (i - min i j)) (-149 + ((min i j : Nat) : Int))) := by
    unfold Ieee.Format.sub
    rw [hr, hq]
    have e0 : min (-149 + (i : Int)) (-149 + (j : Int)) = -149 + ((min i j : Nat) : Int) := by omega
    have e1 : (-149 + (i : Int) - (-149 + ((min i j : Nat) : Int))).toNat = i - min i j := by omega
    have e2 : (-149 + (j : Int) - (-149 + ((min i j : Nat) : Int))).toNat = j - min i j := by omega
    have e3 : Ieee.signed (!false) n (j - min i j) = -((n * 2 ^ (j - min i j) : Nat) : Int) := by
      unfold Ieee.signed; rw [if_pos (by decide), Nat.shiftLeft_eq]
    simp only [Ieee.Datum.opposite, Ieee.Datum.sum, Option.map_some, Ieee.Format.write, e0, signed_false, e1, e2, e3]
    generalize m * 2 ^ (i - min i j) = A at *
    generalize n * 2 ^ (j - min i j) = B at *
    have e4 : ((A : Int) + -(B : Int)).natAbs = B - A := by omega
    rw [e4, if_neg (by omega), decide_eq_true (show (A : Int) + -(B : Int) < 0 by omega)]
  have hd : Rnd (rv y - rv x) 1 (Ieee.single.nearest false (n * 2 ^ (j - min i j) - m * 2 ^ (i - min i j)) (-149 + ((min i j : Nat) : Int))) := by
    have e2 : rv y - rv x = (n * 2 ^ (j - min i j) - m * 2 ^ (i - min i j)) * 2 ^ (min i j) := by
      rw [← hm, ← hn, Nat.sub_mul, Nat.mul_assoc, Nat.mul_assoc, ← Nat.pow_add, ← Nat.pow_add, Nat.sub_add_cancel (Nat.min_le_left _ _), Nat.sub_add_cancel (Nat.min_le_right _ _)]
    rw [e2]
    exact nearest_rnd _ _ _ 0 (by omega)
  refine ⟨_, ?_, rnd_le hd (by decide) (by omega)⟩
  have e1 : fsub x y = (Ieee.single.sub x y).getD 0 := rfl
  rw [e1, h, nearest_true]; rfl

theorem div_under {r y : Nat} (hr : r < 2139095040) (hy0 : 0 < y) (hy : y < 2139095040) : fdiv (2147483648 + r) y = 2147483648 + fdiv r y := by
  obtain ⟨h0, hR⟩ := div_rnd (x := r) hr hy hy0
  obtain ⟨m', i', hr', hm'⟩ := read_pos (x := r) hr
  obtain ⟨n, j, hq, hn⟩ := read_pos hy
  have hn0 : n ≠ 0 := by
    intro h; rw [h, Nat.zero_mul] at hn; have := rv_pos (r := y) (by omega); omega
  have hneg := read_neg_same (x := r) hr hr'
  have h0' : Ieee.single.div r y = some (fdiv r y) := h0
  have h1 : Ieee.single.div (2147483648 + r) y = some (2147483648 + fdiv r y) := by
    unfold Ieee.Format.div at h0' ⊢
    rw [hr', hq] at h0'
    rw [hneg, hq]
    simp only [Ieee.Datum.quotient, if_neg hn0, Option.map_some, Ieee.Format.write, Option.some.injEq] at h0' ⊢
    have hs1 : (true ^^ false) = true := rfl
    have hs2 : (false ^^ false) = false := rfl
    simp only [hs1, hs2] at h0' ⊢
    rw [nearest_true, h0']
  have e1 : fdiv (2147483648 + r) y = (Ieee.single.div (2147483648 + r) y).getD 0 := rfl
  rw [e1, h1]; rfl

theorem cut_under {r : Nat} (h : r < 2139095040) : cutB (2147483648 + r) = 0 := by
  unfold cutB
  rw [if_neg]
  rw [order_num (.inr ⟨by omega, by omega⟩) (.inl (by decide))]
  intro h2
  injection h2 with h2
  have := Int.compare_eq_gt.1 h2
  have h3 := sv_neg_le r
  have e0 : sv 0 = 0 := rfl
  omega

theorem cut_word {q : Nat} (h : q < 2139095040) : cutB q = min q 1065353216 := by
  unfold cutB
  rw [order_num (.inl h) (.inl (by decide)), order_num (.inl h) (.inl (by decide)), sv_pos (x := q) (by omega), sv_pos (x := 0) (by decide), sv_pos (x := 1065353216) (by decide)]
  by_cases c0 : q = 0
  · subst c0
    rw [if_neg (by decide)]; rfl
  · have p0 : compare (rv q : Int) (rv 0 : Int) = .gt := Int.compare_eq_gt.2 (by rw [rv_zero]; have := rv_pos (r := q) (by omega); omega)
    rw [if_pos (by rw [p0])]
    by_cases c1 : 1065353216 < q
    · have p1 : compare (rv q : Int) (rv 1065353216 : Int) = .gt := Int.compare_eq_gt.2 (by have := rv_lt c1; omega)
      rw [if_pos (by rw [p1])]; omega
    · rw [if_neg]
      · omega
      · intro h2
        injection h2 with h2
        have h3 := Int.compare_eq_gt.1 h2
        have h4 := rv_le (r := q) (s := 1065353216) (by omega)
        omega

/-- More reach, no less shade: from none to the most. -/
theorem part_ends {dr gp tl : Nat} (hd : dr ≤ 1073741824 ∨ dr = 2147483648) (hg : gp ≤ 1073741824 ∨ gp = 2147483648) (t0 : 1040187392 ≤ tl) (t1 : tl ≤ 1082130432) {x : Int} (x0 : 0 < x) (x1 : x ≤ 64) {f : Nat} (f0 : 975015322 ≤ f) (f1 : f ≤ 1065353216) :
    cutB (quoA 0 dr gp tl x f) ≤ cutB (quoA 1090519040 dr gp tl x f) := by
  have hs : sineB x ≤ 1065353216 := by
    obtain ⟨n, rfl⟩ := Int.eq_ofNat_of_zero_le (by omega : 0 ≤ x)
    exact sine_high_nat n (by omega)
  have r2 := div_mono (x := sineB x) (X := 1065353216) (y := f) (Y := 975015322) (by decide) (by omega) (by decide) hs f0
  have e1 : fdiv 1065353216 975015322 = 1154480907 := by decide +kernel
  rw [e1] at r2
  have hr : ratB x f ≤ 1154480907 := r2
  unfold quoA depB
  generalize ratB x f = r at *
  have z0 : fmul 0 r = 0 := zero_fmul (by omega)
  have m := mul_mono (x := 1090519040) (X := 1090519040) (y := r) (Y := 1154480907) (by decide) (by decide) (Nat.le_refl _) hr
  have e2 : fmul 1090519040 1154480907 = 1179646731 := by decide +kernel
  rw [e2] at m
  rw [z0]
  generalize fmul 1090519040 r = P at *
  have hdd : fadd 0 dr ≤ fadd P dr ∧ fadd P dr ≤ 1179648779 := by
    rcases hd with hd | rfl
    · have a1 := add_mono (x := 0) (X := P) (y := dr) (Y := dr) (by omega) (by omega) (Nat.zero_le _) (Nat.le_refl _)
      have a2 := add_mono (x := P) (X := 1179646731) (y := dr) (Y := 1073741824) (by decide) (by decide) m hd
      have e3 : fadd 1179646731 1073741824 = 1179648779 := by decide +kernel
      rw [e3] at a2
      exact ⟨a1, a2⟩
    · rw [fadd_get (add_neg0 (x := 0) (by decide)), fadd_get (add_neg0 (x := P) (by omega))]
      omega
  obtain ⟨h1, h2⟩ := hdd
  generalize fadd 0 dr = d0 at *
  generalize fadd P dr = d4 at *
  have top : fdiv 1179648779 1040187392 < 2139095040 := by decide +kernel
  rcases hg with hg | rfl
  · by_cases hlt : d0 < gp
    · obtain ⟨s, es, hs2⟩ := sub_under hlt (by omega)
      have hdv := div_mono (x := s) (X := 1073741824) (y := tl) (Y := 1040187392) (by decide) (by omega) (by decide) (by omega) t0
      have e4 : fdiv 1073741824 1040187392 < 2139095040 := by decide +kernel
      rw [es, div_under (by omega) (by omega) (by omega), cut_under (by omega)]
      exact Nat.zero_le _
    · have s1 := sub_mono (x := d0) (X := d4) (y := gp) (Y := gp) (by omega) h1 (Nat.le_refl _) (by omega)
      have s2 : fsub d4 gp ≤ d4 := rnd_le (sub_rnd (x := d4) (y := gp) (by omega) (by omega)).2 (by decide) (by omega)
      have q1 := div_mono (x := fsub d0 gp) (X := fsub d4 gp) (y := tl) (Y := tl) (by omega) (by omega) (by omega) s1 (Nat.le_refl _)
      have q2 := div_mono (x := fsub d4 gp) (X := 1179648779) (y := tl) (Y := 1040187392) (by decide) (by omega) (by decide) (by omega) t0
      rw [cut_word (by omega), cut_word (by omega)]
      omega
  · rw [sub_neg0 (by omega), sub_neg0 (by omega)]
    have q1 := div_mono (x := d0) (X := d4) (y := tl) (Y := tl) (by omega) (by omega) (by omega) h1 (Nat.le_refl _)
    have q2 := div_mono (x := d4) (X := 1179648779) (y := tl) (Y := 1040187392) (by decide) (by omega) (by decide) h2 t0
    rw [cut_word (by omega), cut_word (by omega)]
    omega

/-- The middle of two numbers. -/
def midB (lo hi : Nat) : Nat := fdiv (fadd lo hi) 1073741824

/-- One halving. -/
def halfS (E : Nat → Bool) (s : Nat × Nat) : Nat × Nat := if E (midB s.1 s.2) then (s.1, midB s.1 s.2) else (midB s.1 s.2, s.2)

def halfN (E : Nat → Bool) : Nat → Nat × Nat → Nat × Nat
  | 0, s => s
  | n + 1, s => halfN E n (halfS E s)

theorem halfN_succ (E : Nat → Bool) : ∀ (n : Nat) (s : Nat × Nat), halfN E (n + 1) s = halfS E (halfN E n s)
  | 0, _ => rfl
  | n + 1, s => by rw [halfN, halfN_succ E n]; rfl

theorem halfN_fix {E : Nat → Bool} {s : Nat × Nat} (h : halfS E s = s) : ∀ n, halfN E n s = s
  | 0 => rfl
  | n + 1 => by rw [halfN, h]; exact halfN_fix h n

/-- When nothing lies between both, halving changes neither. -/
theorem half_stop {E : Nat → Bool} {lo hi : Nat} (hl : E lo = false) (hh : E hi = true) (h : midB lo hi = lo ∨ midB lo hi = hi) : halfS E (lo, hi) = (lo, hi) := by
  unfold halfS
  rcases h with h | h <;> simp only [h]
  · rw [if_neg (by rw [hl]; decide)]
  · rw [if_pos hh]

theorem mid_facts {lo hi : Nat} (h1 : lo ≤ 1090519040) (h2 : hi ≤ 1090519040) : floatBits .add .f32 lo hi = some (fadd lo hi) ∧ floatBits .quo .f32 (fadd lo hi) 1073741824 = some (midB lo hi) ∧ midB lo hi ≤ 1090519040 := by
  have a := add_mono (x := lo) (X := 1090519040) (y := hi) (Y := 1090519040) (by decide) (by decide) h1 h2
  have e : fadd 1090519040 1090519040 = 1098907648 := by decide +kernel
  rw [e] at a
  have d := div_mono (x := fadd lo hi) (X := 1098907648) (y := 1073741824) (Y := 1073741824) (by decide) (by decide) (by decide) a (Nat.le_refl _)
  have e2 : fdiv 1098907648 1073741824 = 1090519040 := by decide +kernel
  rw [e2] at d
  exact ⟨(add_rnd (by omega) (by omega)).1, (div_rnd (by omega) (by decide) (by decide)).1, d⟩

theorem mid_order {m x : Nat} (h1 : m ≤ 1090519040) (h2 : x ≤ 1090519040) : FloatKind.f32.format.order m x = some (compare m x) := order_pos (by omega) (by omega)

theorem halfS_hi {E : Nat → Bool} {lo hi : Nat} (h : E (midB lo hi) = true) : halfS E (lo, hi) = (lo, midB lo hi) := if_pos h

theorem halfS_lo {E : Nat → Bool} {lo hi : Nat} (h : E (midB lo hi) = false) : halfS E (lo, hi) = (midB lo hi, hi) := if_neg (by show ¬ E (midB lo hi) = true; rw [h]; decide)

/-- There is enough shade with an awning that reaches out so far. -/
def enoB (dr gp tl : Nat) (x : Int) (f le o : Nat) : Bool := ge0 (FloatKind.f32.format.order (shB o dr gp tl x f) le)

/-- How far an awning has to reach out, and the code of the answer. -/
def outB (E : Nat → Bool) : Nat := if E 1090519040 && !E 0 then (halfN E 30 (0, 1090519040)).2 else 0

def outC (E : Nat → Bool) : Int := if E 1090519040 then 0 else 6

theorem halfN_le (E : Nat → Bool) : ∀ (n : Nat) (s : Nat × Nat), s.1 ≤ 1090519040 → s.2 ≤ 1090519040 → (halfN E n s).2 ≤ 1090519040
  | 0, _, _, h2 => h2
  | n + 1, s, h1, h2 => by
    rw [halfN]
    have hm := (mid_facts h1 h2).2.2
    unfold halfS
    split
    · exact halfN_le E n _ h1 hm
    · exact halfN_le E n _ hm h2

theorem outB_le (E : Nat → Bool) : outB E ≤ 1090519040 := by
  unfold outB
  split
  · exact halfN_le E 30 _ (by decide) (Nat.le_refl _)
  · exact Nat.zero_le _

theorem ge_mono {p p' le : Nat} (h : p ≤ p') (h1 : p' ≤ 1065353216) (hl : le ≤ 1065353216 ∨ le = 2147483648) (hg : ge0 (FloatKind.f32.format.order p le) = true) : ge0 (FloatKind.f32.format.order p' le) = true := by
  have hn : isNum le := isNum_small hl (by decide)
  have hr := rv_le h
  rw [order_num (.inl (by omega)) hn, sv_pos (x := p) (by omega)] at hg
  rw [order_num (.inl (by omega)) hn, sv_pos (x := p') (by omega)]
  unfold ge0 at *
  generalize sv le = z at *
  by_cases c : z < (rv p' : Int)
  · rw [Int.compare_eq_gt.2 c]; rfl
  · have c2 : ¬ z < (rv p : Int) := by omega
    by_cases c3 : (rv p : Int) = z
    · have c4 : (rv p' : Int) = z := by omega
      rw [Int.compare_eq_eq.2 c4]; rfl
    · rw [Int.compare_eq_lt.2 (by omega)] at hg
      exact absurd hg (by decide)

/-- What is enough without any reach is enough with the most. -/
theorem eno_ends {dr gp tl : Nat} (hd : dr ≤ 1073741824 ∨ dr = 2147483648) (hg : gp ≤ 1073741824 ∨ gp = 2147483648) (t0 : 1040187392 ≤ tl) (t1 : tl ≤ 1082130432) {x : Int} {f : Nat} (hf : f = 0 ∨ (0 < x ∧ x ≤ 64 ∧ 975015322 ≤ f ∧ f ≤ 1065353216)) {le : Nat} (hl : le ≤ 1065353216 ∨ le = 2147483648) (h : enoB dr gp tl x f le 0 = true) :
    enoB dr gp tl x f le 1090519040 = true := by
  unfold enoB at *
  rcases hf with rfl | ⟨x0, x1, f0, f1⟩
  · exact h
  · have m := part_ends hd hg t0 t1 x0 x1 f0 f1
    have e1 : shB 0 dr gp tl x f = cutB (quoA 0 dr gp tl x f) := if_neg (by omega)
    have e2 : shB 1090519040 dr gp tl x f = cutB (quoA 1090519040 dr gp tl x f) := if_neg (by omega)
    rw [e1] at h
    rw [e2]
    have q := cutB_le (q := quoA 1090519040 dr gp tl x f) (quoA_lt (shade_facts (.inl (Nat.le_refl _)) hd hg t0 t1 x0 x1 f0 f1).2.2.2.2.1)
    exact ge_mono m q hl h

end Go.Proofs.YthpimcfmgefkkaaDoor
