/-
  What an awning shades, as numbers: none of their steps is without an answer, and what is shaded is a part. Nothing of the program is named.
-/
import Derived.Test.YthpimcfmgefkkaaDoorFallN
namespace Go.Proofs.YthpimcfmgefkkaaDoor
open Go

/-- How far the shade reaches, what that is of the window, and what is shaded. -/
def ratB (x : Int) (f : Nat) : Nat := fdiv (sineB x) f
def depB (o dr : Nat) (x : Int) (f : Nat) : Nat := fadd (fmul o (ratB x f)) dr
def quoA (o dr gp tl : Nat) (x : Int) (f : Nat) : Nat := fdiv (fsub (depB o dr x f) gp) tl
def cutB (q : Nat) : Nat := if FloatKind.f32.format.order q 0 = some .gt then (if FloatKind.f32.format.order q 1065353216 = some .gt then 1065353216 else q) else 0
def shB (o dr gp tl : Nat) (x : Int) (f : Nat) : Nat := if f = 0 then 0 else cutB (quoA o dr gp tl x f)
/-- The light behind an awning. -/
def behB (f p : Nat) : Nat := fsub f (fmul f p)

theorem neg0_add {x : Nat} (hx : x < 2139095040) : floatBits .add .f32 2147483648 x = some x := by
  obtain ⟨m, i, hr, hm⟩ := read_pos hx
  have hz : Ieee.single.read 2147483648 = .number true 0 (-149) := by decide +kernel
  show Ieee.single.add 2147483648 x = _
  unfold Ieee.Format.add
  rw [hr, hz]
  have e0 : min (-149) (-149 + (i : Int)) = -149 := by omega
  have e2 : (-149 + (i : Int) - (-149 : Int)).toNat = i := by omega
  have e4 : Ieee.signed true 0 (-149 - (-149 : Int)).toNat = 0 := by decide
  simp only [Ieee.Datum.sum, Option.map_some, Ieee.Format.write, e0, e2, e4, signed_false, Int.zero_add, Int.natAbs_natCast]
  have e5 : (if ((m * 2 ^ i : Nat) : Int) = 0 then (true && false) else decide (((m * 2 ^ i : Nat) : Int) < 0)) = false := by
    split
    · rfl
    · exact decide_eq_false (by omega)
  rw [e5]
  have hR := nearest_rnd (m * 2 ^ i) (-149) 0 0 (by omega)
  rw [hm] at hR ⊢
  rw [rnd_exact hR (r := x) (by omega) (by decide) rfl]

/-- A sum of two numbers that are not less than 0, or -0. -/
theorem addz {x y X Y : Nat} (hX : X < 2139095040) (hY : Y < 2139095040) (hx : x ≤ X ∨ x = 2147483648) (hy : y ≤ Y ∨ y = 2147483648) :
    floatBits .add .f32 x y = some (fadd x y) ∧ (fadd x y ≤ fadd X Y ∨ fadd x y = 2147483648) := by
  rcases hx with hx | rfl
  · rcases hy with hy | rfl
    · exact ⟨(add_rnd (by omega) (by omega)).1, .inl (add_mono hX hY hx hy)⟩
    · have h := add_neg0 (x := x) (by omega)
      rw [fadd_get h]
      refine ⟨h, .inl ?_⟩
      have m := add_mono (x := x) (X := X) (y := 0) (Y := Y) hX hY hx (Nat.zero_le _)
      have e : fadd x 0 = x := rnd_exact (add_rnd (x := x) (y := 0) (by omega) (by decide)).2 (by omega) (by decide) (by rw [rv_zero]; omega)
      omega
  · rcases hy with hy | rfl
    · have h := neg0_add (x := y) (by omega)
      rw [fadd_get h]
      refine ⟨h, .inl ?_⟩
      have m := add_mono (x := 0) (X := X) (y := y) (Y := Y) hX hY (Nat.zero_le _) hy
      have e : fadd 0 y = y := rnd_exact (add_rnd (x := 0) (y := y) (by decide) (by omega)).2 (by omega) (by decide) (by rw [rv_zero]; omega)
      omega
    · have h : floatBits .add .f32 2147483648 2147483648 = some 2147483648 := by decide +kernel
      rw [fadd_get h]
      exact ⟨h, .inr rfl⟩

theorem div_ok {x y : Nat} (hx : num32 x = true) (hy0 : 0 < y) (hy : y < 2139095040) : floatBits .quo .f32 x y = some (fdiv x y) ∧ fin32 (fdiv x y) = true := by
  obtain ⟨s, m, e, hr⟩ := num32_get hx
  obtain ⟨n, j, hq, hn⟩ := read_pos hy
  have hn0 : n ≠ 0 := by
    intro h; rw [h, Nat.zero_mul] at hn; have := rv_pos hy0; omega
  have h : ∃ d : Ieee.Datum, d.isNaN = false ∧ Ieee.single.div x y = some (Ieee.single.write d) := by
    unfold Ieee.Format.div
    rw [hr, hq]
    simp only [Ieee.Datum.quotient, if_neg hn0, Option.map_some]
    exact ⟨_, rfl, rfl⟩
  obtain ⟨d, hd, h⟩ := h
  have e1 : fdiv x y = Ieee.single.write d := by unfold fdiv; rw [h]; rfl
  rw [e1]
  exact ⟨h, write_fin _ hd⟩

theorem sine_high_nat : ∀ n : Nat, n < 65 → sineB (n : Int) ≤ 1065353216 := by decide +kernel

theorem sv_small {x B : Nat} (h : x ≤ B ∨ x = 2147483648) (hB : B < 2147483648) : (sv x).natAbs ≤ rv B := by
  rcases h with h | rfl
  · rw [sv_pos (by omega)]
    have := rv_le h
    omega
  · have : sv 2147483648 = 0 := by decide +kernel
    rw [this]; exact Nat.zero_le _
theorem isNum_small {x B : Nat} (h : x ≤ B ∨ x = 2147483648) (hB : B < 2139095040) : isNum x := by
  rcases h with h | rfl
  · exact .inl (by omega)
  · exact .inr ⟨by decide, by decide⟩

theorem shade_facts {o dr gp tl : Nat} (ho : o ≤ 1090519040 ∨ o = 2147483648) (hd : dr ≤ 1073741824 ∨ dr = 2147483648) (hg : gp ≤ 1073741824 ∨ gp = 2147483648) (t0 : 1040187392 ≤ tl) (t1 : tl ≤ 1082130432)
    {x : Int} (x0 : 0 < x) (x1 : x ≤ 64) {f : Nat} (f0 : 975015322 ≤ f) (f1 : f ≤ 1065353216) :
    floatBits .quo .f32 (sineB x) f = some (ratB x f) ∧ floatBits .mul .f32 o (ratB x f) = some (fmul o (ratB x f)) ∧ floatBits .add .f32 (fmul o (ratB x f)) dr = some (depB o dr x f) ∧
    floatBits .sub .f32 (depB o dr x f) gp = some (fsub (depB o dr x f) gp) ∧ floatBits .quo .f32 (fsub (depB o dr x f) gp) tl = some (quoA o dr gp tl x f) ∧ fin32 (quoA o dr gp tl x f) = true := by
  have hs : sineB x ≤ 1065353216 := by
    obtain ⟨n, rfl⟩ := Int.eq_ofNat_of_zero_le (by omega : 0 ≤ x)
    exact sine_high_nat n (by omega)
  have r1 := div_rnd (x := sineB x) (y := f) (by omega) (by omega) (by omega)
  have r2 := div_mono (x := sineB x) (X := 1065353216) (y := f) (Y := 975015322) (by decide) (by omega) (by decide) hs f0
  have e1 : fdiv 1065353216 975015322 = 1154480907 := by decide +kernel
  rw [e1] at r2
  have hp : floatBits .mul .f32 o (ratB x f) = some (fmul o (ratB x f)) ∧ (fmul o (ratB x f) ≤ 1179646731 ∨ fmul o (ratB x f) = 2147483648) := by
    have hr : ratB x f ≤ 1154480907 := r2
    rcases ho with ho | rfl
    · have m := mul_mono (x := o) (X := 1090519040) (y := ratB x f) (Y := 1154480907) (by decide) (by decide) ho hr
      have e2 : fmul 1090519040 1154480907 = 1179646731 := by decide +kernel
      rw [e2] at m
      exact ⟨(mul_rnd (by omega) (by omega)).1, .inl m⟩
    · have h := (mul_neg0 (x := ratB x f) (by omega)).2
      rw [fmul_get h]
      exact ⟨h, .inr rfl⟩
  have ha := addz (X := 1179646731) (Y := 1073741824) (by decide) (by decide) hp.2 hd
  have e3 : fadd 1179646731 1073741824 = 1179648779 := by decide +kernel
  rw [e3] at ha
  have hdep : depB o dr x f ≤ 1179648779 ∨ depB o dr x f = 2147483648 := ha.2
  have hg' : gp ≤ 1179648779 ∨ gp = 2147483648 := hg.imp (fun h => by omega) id
  have hsub := sub_num (x := depB o dr x f) (y := gp) (B := 1179648779) (C := 1188037387) (isNum_small hdep (by decide)) (isNum_small hg' (by decide)) (sv_small hdep (by decide)) (sv_small hg' (by decide)) (by decide +kernel) (by decide)
  have hq := div_ok (x := fsub (depB o dr x f) gp) (y := tl) (num_of_isNum hsub.2) (by omega) (by omega)
  exact ⟨r1.1, hp.1, ha.1, hsub.1, hq.1, hq.2⟩

theorem cutB_le {q : Nat} (hq : q < 4294967296) : cutB q ≤ 1065353216 := by
  unfold cutB
  by_cases h0 : FloatKind.f32.format.order q 0 = some .gt
  · rw [if_pos h0]
    by_cases h1 : FloatKind.f32.format.order q 1065353216 = some .gt
    · rw [if_pos h1]; exact Nat.le_refl _
    · rw [if_neg h1]
      rcases word_cases q hq with c | c | c | c
      · rw [order_num c (.inl (by decide))] at h0 h1
        injection h0 with h0
        have k0 := Int.compare_eq_gt.1 h0
        have k1 : ¬ (sv q > sv 1065353216) := fun h => h1 (by rw [Int.compare_eq_gt.2 h])
        have e0 : sv 0 = 0 := rfl
        rw [e0] at k0
        rw [sv_pos (x := 1065353216) (by decide)] at k1
        rcases c with c | ⟨c0, c1⟩
        · rw [sv_pos (x := q) (by omega)] at k1
          rw [← rv_le_iff]
          omega
        · obtain ⟨r, rfl⟩ : ∃ r, q = 2147483648 + r := ⟨q - 2147483648, by omega⟩
          have := sv_neg_le r
          omega
      · subst c
        exact absurd (inf_order 1065353216 (.inl (by decide))).1 h1
      · subst c
        rw [(inf_order 0 (.inl (by decide))).2] at h0
        cases h0
      · rw [nan_order c] at h0
        cases h0
  · rw [if_neg h0]; decide

theorem quoA_lt {o dr gp tl : Nat} {x : Int} {f : Nat} (h : floatBits .quo .f32 (fsub (depB o dr x f) gp) tl = some (quoA o dr gp tl x f)) : quoA o dr gp tl x f < 4294967296 := by
  have := floatBits_wf h
  simpa [Lit.wf] using this

theorem beh_facts {f p : Nat} (f1 : f ≤ 1065353216) (p1 : p ≤ 1065353216) :
    floatBits .mul .f32 f p = some (fmul f p) ∧ floatBits .sub .f32 f (fmul f p) = some (behB f p) ∧ behB f p ≤ f := by
  have m := mul_le_one (x := f) (y := p) (by omega) p1
  refine ⟨(mul_rnd (by omega) (by omega)).1, (sub_rnd (by omega) m).1, ?_⟩
  exact rnd_le (sub_rnd (x := f) (y := fmul f p) (by omega) m).2 (by decide) (by omega)

end Go.Proofs.YthpimcfmgefkkaaDoor
