/-
  CrP, FtP, FtQ, CrW, Stretched, PlaceOf, GenL, SrG, CrX, Box, CrV.
-/
import Derived.Test.YtddnfbpgldchcaaCordP
import Derived.Test.YtddnfbpgldchcaaNear
import Derived.Test.YtddnfbpgldchcaaSrF
import Derived.Test.YtddnfbpgldchcaaBok
import Derived.Test.YtddnfbpgldchcaaBlk
import Derived.Test.YtddnfbpgldchcaaStopI
import Derived.Test.YtddnfbpgldchcaaStopS
import Derived.Test.YtddnfbpgldchcaaStopN
import Derived.Test.YtddnfbpgldchcaaCordRun
import Derived.IntWalk
import Derived.Test.YtddnfbpgldchcaaAgg
import Derived.Test.YtddnfbpgldchcaaRow
import Derived.Test.YtddnfbpgldchcaaTake
import Derived.Laws.Rows
import Derived.Laws.MakeOwn
import Derived.OwnWalk
import Derived.ChangeSlices
import Derived.ChangeShapes
import Derived.ChangeSame
import Derived.WalkSpells
import Derived.Test.YtddnfbpgldchcaaLaw
import Derived.Deep.Slices
import Derived.Test.YtddnfbpgldchcaaSrA
import Derived.Test.YtddnfbpgldchcaaSameBlind

namespace Go.Proofs.Ytddnfbpgldchcaa
open Go

/-- How near the nearest is. -/
theorem rnd_high {n d w : Nat} (h : Rnd n d w) (hw : w < 2139095040) : 2 * n ≤ (2 * rv w + ulp w) * d := by
  have a : ¬ (w + 1 ≤ w) := by omega
  rw [h.2 w hw] at a
  exact Nat.le_of_not_lt (fun c => a (.inl c))

theorem rnd_low {n d w : Nat} (h : Rnd n d (w + 1)) (hw : w < 2139095040) : (2 * rv w + ulp w) * d ≤ 2 * n := by
  rcases (h.2 w hw).1 (Nat.le_refl _) with a | ⟨a, _⟩
  · exact Nat.le_of_lt a
  · exact Nat.le_of_eq a

theorem ulp_small {w : Nat} (h : 8388608 ≤ w) : ulp w * 8388608 ≤ rv w := by
  unfold ulp rv
  rw [if_neg (by omega)]
  rw [Nat.mul_comm]
  exact Nat.mul_le_mul_right _ (Nat.le_add_right _ _)

theorem ulp_le {v w : Nat} (h : v ≤ w) : ulp v ≤ ulp w := by
  unfold ulp
  exact Nat.pow_le_pow_right (by decide) (Nat.sub_le_sub_right (Nat.div_le_div_right h) 1)

/-- The nearest, as a share of what it is the nearest of. -/
theorem rnd_share {n d w : Nat} (h : Rnd n d w) (h0 : 8388608 ≤ w) (h1 : w < 2139095040) : 16777216 * n ≤ 16777217 * (rv w * d) ∧ 16777215 * (rv w * d) ≤ 16777216 * n := by
  have a1 := rnd_high h h1
  have a2 := ulp_small h0
  obtain ⟨v, rfl⟩ : ∃ v, w = v + 1 := ⟨w - 1, by omega⟩
  have a3 := rnd_low h (by omega)
  have a4 := rv_succ v
  have a5 := ulp_le (Nat.le_succ v)
  have b1 : ulp (v + 1) * d * 8388608 ≤ rv (v + 1) * d := by
    have := Nat.mul_le_mul_right d a2
    rw [Nat.mul_assoc, Nat.mul_comm 8388608 d, ← Nat.mul_assoc] at this
    exact this
  have b2 : ulp v * d ≤ ulp (v + 1) * d := Nat.mul_le_mul_right d a5
  rw [Nat.add_mul, Nat.mul_assoc] at a1 a3
  have b3 : rv (v + 1) * d = rv v * d + ulp v * d := by rw [a4, Nat.add_mul]
  generalize rv (v + 1) * d = A at *
  generalize ulp (v + 1) * d = B at *
  generalize rv v * d = C at *
  generalize ulp v * d = D at *
  omega

/-- What is clearly greater has a greater nearest. -/
theorem rnd_strict {n1 n2 d w1 w2 : Nat} (h1 : Rnd n1 d w1) (h2 : Rnd n2 d w2) (hd : 0 < d) (h0 : 8388608 ≤ w1) (hw : w2 < 2139095040) (hn : 4194304 * n1 + n1 < 4194304 * n2) : w1 < w2 := by
  have hle := rnd_mono h1 h2 hd hd (Nat.mul_le_mul_right d (by omega))
  rcases Nat.eq_or_lt_of_le hle with e | h
  · subst e
    obtain ⟨-, a1⟩ := rnd_share h1 h0 hw
    obtain ⟨a2, -⟩ := rnd_share h2 h0 hw
    omega
  · exact h

theorem count_rv : ∀ k : Nat, k < 101 → rv (floatOfInt .f32 (k : Int)) = k * 2 ^ 149 := by decide +kernel

theorem cnt_up : ∀ k : Nat, k < 100 → floatOfInt .f32 (k : Int) ≤ floatOfInt .f32 ((k + 1 : Nat) : Int) := by decide +kernel

/-- Stops lie in their order. -/
theorem mul_rise {S k : Nat} (h0 : 1031798784 ≤ S) (h1 : S ≤ 1124073472) (k0 : 1 ≤ k) (k1 : k + 1 ≤ 100) :
    let a := rv (fmul S (floatOfInt .f32 (k : Int)))
    let b := rv (fmul S (floatOfInt .f32 ((k + 1 : Nat) : Int)))
    4194304 * a + a < 4194304 * b ∧ 1031798784 ≤ fmul S (floatOfInt .f32 (k : Int)) ∧ fmul S (floatOfInt .f32 ((k + 1 : Nat) : Int)) ≤ 1179123712 := by
  have c1 := count_nat k (by omega)
  have c2 := count_nat (k + 1) (by omega)
  have v1 := count_rv k (by omega)
  have v2 := count_rv (k + 1) (by omega)
  have r1 := (mul_rnd (x := S) (y := floatOfInt .f32 (k : Int)) (by omega) (by omega)).2
  have r2 := (mul_rnd (x := S) (y := floatOfInt .f32 ((k + 1 : Nat) : Int)) (by omega) (by omega)).2
  rw [v1] at r1
  rw [v2] at r2
  have m1 := mul_mono (x := 1031798784) (X := S) (y := 1065353216) (Y := floatOfInt .f32 (k : Int)) (by omega) (by omega) h0 (c1.2.resolve_left (by omega))
  rw [one_mul (by decide)] at m1
  have m2 := mul_mono (x := S) (X := 1124073472) (y := floatOfInt .f32 ((k + 1 : Nat) : Int)) (Y := 1120403456) (by decide) (by decide) h1 c2.1
  have e1 : fmul 1124073472 1120403456 = 1179123712 := by decide +kernel
  rw [e1] at m2
  have m3 := mul_mono (x := S) (X := S) (y := floatOfInt .f32 (k : Int)) (Y := floatOfInt .f32 ((k + 1 : Nat) : Int)) (by omega) (by omega) (Nat.le_refl _) (cnt_up k (by omega))
  generalize fmul S (floatOfInt .f32 (k : Int)) = p at *
  generalize fmul S (floatOfInt .f32 ((k + 1 : Nat) : Int)) = q at *
  obtain ⟨-, a1⟩ := rnd_share r1 (by omega) (by omega)
  obtain ⟨a2, -⟩ := rnd_share r2 (by omega) (by omega)
  refine ⟨?_, m1, m2⟩
  have hu : 0 < rv S := rv_pos (by omega)
  have f1 : rv S * (k * 2 ^ 149) = rv S * k * 2 ^ 149 := (Nat.mul_assoc _ _ _).symm
  have f2 : rv S * ((k + 1) * 2 ^ 149) = (rv S * k + rv S) * 2 ^ 149 := by rw [← Nat.mul_assoc, Nat.mul_add, Nat.mul_one]
  rw [f1] at a1
  rw [f2] at a2
  have g1 : 16777215 * rv p ≤ 16777216 * (rv S * k) := by
    rw [← Nat.mul_assoc, ← Nat.mul_assoc] at a1
    exact Nat.le_of_mul_le_mul_right a1 (Nat.two_pow_pos _)
  have g2 : 16777216 * (rv S * k + rv S) ≤ 16777217 * rv q := by
    rw [← Nat.mul_assoc, ← Nat.mul_assoc] at a2
    exact Nat.le_of_mul_le_mul_right a2 (Nat.two_pow_pos _)
  have g3 : rv S * k ≤ rv S * 100 := Nat.mul_le_mul_left _ (by omega)
  generalize rv S * k = ku at *
  omega

theorem plc_zero {ln st load : Nat} {sp : Nat} (h0 : 1031798784 ≤ ln) (h1 : ln ≤ 1115684864) (hs : st ≤ 1065353216 ∨ st = 2147483648) (hl : load ≤ 1065353216 ∨ load = 2147483648) (s0 : 1 ≤ sp) (s1 : sp ≤ 100) : plcB ln st load 0 (sp : Int) = 0 := by
  obtain ⟨_, a0, a1⟩ := str_facts h0 h1 hs hl
  have c2 := count_nat sp (by omega)
  have c3 := c2.2.resolve_left (by omega)
  have c4 := c2.1
  have z : floatOfInt .f32 (0 : Int) = 0 := by decide +kernel
  have e1 : fmul (strB ln st load) 0 = 0 := rnd_exact (r := 0) (mul_rnd (x := strB ln st load) (y := 0) (by omega) (by omega)).2 (by omega) (Nat.two_pow_pos _) (by rw [rv_zero, Nat.mul_zero, Nat.zero_mul])
  unfold plcB
  rw [z, e1]
  exact rnd_exact (r := 0) (div_rnd (x := 0) (y := floatOfInt .f32 (sp : Int)) (by omega) (by omega) (by omega)).2 (by omega) (rv_pos (by omega)) (by rw [rv_zero, Nat.zero_mul, Nat.zero_mul])

theorem plc_rise {ln st load : Nat} {k sp : Nat} (h0 : 1031798784 ≤ ln) (h1 : ln ≤ 1115684864) (hs : st ≤ 1065353216 ∨ st = 2147483648) (hl : load ≤ 1065353216 ∨ load = 2147483648) (k1 : k + 1 ≤ 100) (s0 : 1 ≤ sp) (s1 : sp ≤ 100) : plcB ln st load (k : Int) (sp : Int) < plcB ln st load ((k + 1 : Nat) : Int) (sp : Int) := by
  obtain ⟨_, a0, a1⟩ := str_facts h0 h1 hs hl
  have c2 := count_nat sp (by omega)
  have c3 := c2.2.resolve_left (by omega)
  have c4 := c2.1
  have v2 := count_rv sp (by omega)
  by_cases k0 : k = 0
  · subst k0
    have e0 : plcB ln st load ((0 : Nat) : Int) (sp : Int) = 0 := plc_zero h0 h1 hs hl s0 s1
    rw [e0]
    unfold plcB
    have e2 : floatOfInt .f32 ((0 + 1 : Nat) : Int) = 1065353216 := by decide +kernel
    rw [e2]
    generalize strB ln st load = S at *
    have m1 := mul_mono (x := 1031798784) (X := S) (y := 1065353216) (Y := 1065353216) (by omega) (by omega) a0 (Nat.le_refl _)
    rw [one_mul (by decide)] at m1
    have m2 := mul_mono (x := S) (X := 1124073472) (y := 1065353216) (Y := 1065353216) (by decide) (by decide) a1 (Nat.le_refl _)
    have e1 : fmul 1124073472 1065353216 = 1124073472 := by decide +kernel
    rw [e1] at m2
    have d1 := div_mono (x := 1031798784) (X := fmul S 1065353216) (y := 1120403456) (Y := floatOfInt .f32 (sp : Int)) (by omega) (by omega) (by omega) m1 c4
    have e3 : 0 < fdiv 1031798784 1120403456 := by decide +kernel
    omega
  · obtain ⟨g, b0, b1⟩ := mul_rise a0 a1 (show 1 ≤ k by omega) k1
    have hx : rv (fmul (strB ln st load) (floatOfInt .f32 (k : Int))) < rv (fmul (strB ln st load) (floatOfInt .f32 ((k + 1 : Nat) : Int))) := by omega
    have hlt := rv_lt_iff.1 hx
    unfold plcB
    generalize fmul (strB ln st load) (floatOfInt .f32 (k : Int)) = p at *
    generalize fmul (strB ln st load) (floatOfInt .f32 ((k + 1 : Nat) : Int)) = q at *
    have r1 := (div_rnd (x := p) (y := floatOfInt .f32 (sp : Int)) (by omega) (by omega) (by omega)).2
    have r2 := (div_rnd (x := q) (y := floatOfInt .f32 (sp : Int)) (by omega) (by omega) (by omega)).2
    have d1 := div_mono (x := 1031798784) (X := p) (y := 1120403456) (Y := floatOfInt .f32 (sp : Int)) (by omega) (by omega) (by omega) b0 c4
    have e3 : 8388608 ≤ fdiv 1031798784 1120403456 := by decide +kernel
    have d2 := div_mono (x := q) (X := 1179123712) (y := floatOfInt .f32 (sp : Int)) (Y := 1065353216) (by decide) (by omega) (by decide) b1 c3
    have e4 : fdiv 1179123712 1065353216 < 2139095040 := by decide +kernel
    refine rnd_strict r1 r2 (rv_pos (by omega)) (by omega) (by omega) ?_
    have hp : 0 < 2 ^ 149 := Nat.two_pow_pos _
    have e5 : 4194304 * (rv p * 2 ^ 149) + rv p * 2 ^ 149 = (4194304 * rv p + rv p) * 2 ^ 149 := by rw [Nat.add_mul, Nat.mul_assoc]
    rw [e5, ← Nat.mul_assoc]
    exact Nat.mul_lt_mul_of_pos_right g hp

/-- With no load a cord is as long as it is told. -/
theorem str_none {ln st : Nat} (h1 : ln ≤ 1115684864) (hs : st ≤ 1065353216) : strB ln st 0 = ln := by
  have e0 : fmul 0 st = 0 := rnd_exact (r := 0) (mul_rnd (x := 0) (y := st) (by omega) (by omega)).2 (by omega) (Nat.two_pow_pos _) (by rw [rv_zero, Nat.zero_mul, Nat.zero_mul])
  have e1 : fadd 1065353216 0 = 1065353216 := by decide +kernel
  unfold strB grownB
  rw [e0, e1]
  exact one_mul (by omega)

theorem str_more {ln st l m : Nat} (h1 : ln ≤ 1115684864) (hs : st ≤ 1065353216) (hl : l ≤ m) (hm : m ≤ 1065353216) : strB ln st l ≤ strB ln st m := by
  unfold strB grownB
  have a := mul_le_one (x := m) (y := st) (by omega) hs
  have g := (grown_facts (st := st) (load := m) (.inl hs) (.inl hm)).2.2.2
  unfold grownB at g
  exact mul_mono (by omega) (by omega) (Nat.le_refl _) (add_mono (by decide) (by omega) (Nat.le_refl _) (mul_mono (by omega) (by omega) hl (Nat.le_refl _)))

end Go.Proofs.Ytddnfbpgldchcaa

namespace Go.Proofs.Ytddnfbpgldchcaa
open Go.RowKit

theorem ltF_sv {x y : Nat} (hx : isNum x) (hy : isNum y) : ltF x y = decide (sv x < sv y) := by
  unfold ltF
  rw [order_num hx hy]
  simp only [compare, compareOfLessAndEq]
  by_cases h : sv x < sv y
  · rw [if_pos h, decide_eq_true h]; rfl
  · rw [if_neg h, decide_eq_false h]
    split <;> rfl

theorem firstMin_least {d : Nat → Nat} (hd : ∀ k, isNum (d k)) : ∀ n k, k ≤ n → sv (d (firstMin d n)) ≤ sv (d k)
  | 0, k, h => by
    obtain rfl : k = 0 := by omega
    exact Int.le_refl _
  | n + 1, k, h => by
    have ih := firstMin_least hd n
    unfold firstMin
    rw [ltF_sv (hd _) (hd _)]
    by_cases c : sv (d (n + 1)) < sv (d (firstMin d n))
    · rw [if_pos (decide_eq_true c)]
      by_cases e : k = n + 1
      · rw [e]; exact Int.le_refl _
      · have := ih k (by omega); omega
    · rw [if_neg (by rw [decide_eq_false c]; decide)]
      by_cases e : k = n + 1
      · rw [e]; omega
      · exact ih k (by omega)

theorem firstMin_first {d : Nat → Nat} (hd : ∀ k, isNum (d k)) : ∀ n k, k < firstMin d n → sv (d (firstMin d n)) < sv (d k)
  | 0, k, h => absurd h (Nat.not_lt_zero k)
  | n + 1, k, h => by
    have ih := firstMin_first hd n
    have il := firstMin_least hd n
    unfold firstMin at h ⊢
    rw [ltF_sv (hd _) (hd _)] at h ⊢
    by_cases c : sv (d (n + 1)) < sv (d (firstMin d n))
    · rw [if_pos (decide_eq_true c)] at h ⊢
      have := il k (by omega)
      omega
    · rw [if_neg (by rw [decide_eq_false c]; decide)] at h ⊢
      exact ih k h

/-- How far a number is from what is wanted, against the first of the nearest. -/
theorem near_facts {d : Nat → Nat} (hd : ∀ k, isNum (d k)) {n k : Nat} (hk : k ≤ n) :
    (FloatKind.f32.format.order (d k) (d (firstMin d n)) = some .eq ∧ firstMin d n ≤ k) ∨ FloatKind.f32.format.order (d k) (d (firstMin d n)) = some .gt := by
  have h1 := firstMin_least hd n k hk
  have h2 := firstMin_first hd n k
  rw [order_num (hd _) (hd _)]
  simp only [compare, compareOfLessAndEq]
  rw [if_neg (by omega)]
  by_cases e : sv (d k) = sv (d (firstMin d n))
  · rw [if_pos e]
    left
    refine ⟨rfl, ?_⟩
    by_cases c : k < firstMin d n
    · have := h2 c; omega
    · omega
  · rw [if_neg e]
    exact .inr rfl

end Go.Proofs.Ytddnfbpgldchcaa

namespace Go.Proofs.Ytddnfbpgldchcaa
open Go.RowKit

theorem ge0_pos {x y : Nat} (hx : x < 2139095040) (hy : y < 2139095040) (h : y ≤ x) : ge0 (FloatKind.f32.format.order x y) = true := by
  rw [order_pos hx hy]
  simp only [compare, compareOfLessAndEq]
  rw [if_neg (by omega)]
  split <;> rfl

theorem le0_pos {x y : Nat} (hx : x < 2139095040) (hy : y < 2139095040) (h : x ≤ y) : le0 (FloatKind.f32.format.order x y) = true := by
  rw [order_pos hx hy]
  simp only [compare, compareOfLessAndEq]
  by_cases c : x < y
  · rw [if_pos c]; rfl
  · rw [if_neg c, if_pos (by omega)]; rfl

theorem betw_pos {x lo hi : Nat} (h0 : lo ≤ x) (h1 : x ≤ hi) (h2 : hi < 2139095040) : betw x lo hi = true := by
  unfold betw
  rw [ge0_pos (by omega) (by omega) h0, le0_pos (by omega) h2 h1]
  rfl

theorem sized_len {z : Nat} (h : Sized z) : lenB z = true := betw_pos h.1 h.2 (by decide)

theorem tone_part {z : Nat} (h : z ≤ 1065353216) : partB z = true := betw_pos (Nat.zero_le _) h (by decide)

theorem low_wf {z : Nat} (h : z < 4294967296) : (Lit.float .f32 z).wf = true := by simpa [Lit.wf] using h

theorem drawn_ok {k : Int} {wd gp : Nat} {t : Int} {sh : Nat} (h : 1 ≤ k ∧ k ≤ 60 ∧ Sized wd ∧ Sized gp ∧ -64 ≤ t ∧ t ≤ 64 ∧ sh ≤ 1065353216) : okBl k wd gp t sh = true ∧ BlWf k wd gp t sh := by
  obtain ⟨h1, h2, h3, h4, h5, h6, h7⟩ := h
  constructor
  · unfold okBl
    rw [sized_len h3, sized_len h4, tone_part h7]
    unfold inI
    simp
    omega
  · refine ⟨?_, low_wf (by have := h3.2; omega), low_wf (by have := h4.2; omega), ?_, low_wf (by omega)⟩
    · simp [Lit.wf, IntKind.min, IntKind.max, IntKind.signed, IntKind.bits]; omega
    · simp [Lit.wf, IntKind.min, IntKind.max, IntKind.signed, IntKind.bits]; omega

end Go.Proofs.Ytddnfbpgldchcaa

namespace Go.Proofs.Ytddnfbpgldchcaa
open Go.RowKit

attribute [local go_sem] run_store_float

theorem below_ofG {A B : World} {b k : Nat} (h : A.grownBy B (some b)) (hk : k ≤ b) (hA : k ≤ A.heap.size) : Below k A B := ⟨h.os, h.tape, h.output, h.size, fun g hg => h.block g (by omega) (fun e => by have := Option.some.inj e; omega)⟩

set_option maxRecDepth 100000 in
set_option maxHeartbeats 4000000 in
theorem A2Cord_any (n cap : Nat) (a : Option Addr) (V : World) (h : BytesAt V V.heap.size (.slice a n cap) n) :
    Calls Try.prog 6 #[.slice a n cap] V fun e V' => (∃ (ln st : Nat) (sp : Int), e = .returned (.agg (cordC ln st sp)) ∧ Sized ln ∧ st ≤ 1065353216 ∧ 1 ≤ sp ∧ sp ≤ 20) ∧ Below V.heap.size V V' := by
  have HFR := Lib.hid (fun V h => l00From_any n cap a V h)
  have HB0 := Lib.hid h
  clear h
  go_enter Try.func6, Try.ntmps6
  go_upto_region 1 with (fail)
  refine abs_code (fun W => W.heap[V.heap.size]? = some (.cells (cordC 0 0 0) 27 (0, 0)) ∧ Below V.heap.size V W) ⟨heap_alloc_new _ _, (Below.refl _ _).alloc (Nat.le_refl _) _⟩ ?_
  rintro W ⟨h0, hb⟩
  have H0 := Lib.hid h0
  have HBY := Lib.hid (bytes_below HB0.out hb hb.size)
  have hl0 := row_lt h0
  clear h0 HB0
  generalize hg0 : V.heap.size = g0 at *
  go_upto_region 2 with (go_at_call 22; refine (HFR.out _ HBY.out).mono ?_; rintro e W1 ⟨rfl, hs1, hb1⟩; replace H0 := Lib.hid (below_row hb1 H0.out); have HS := Lib.hid hs1; clear hs1; replace hb := hb.trans (hb1.mono (by omega)); clear hb1)
  clear HFR HBY
  have hgb : g0 < W.heap.size := hl0
  generalize hbb : W.heap.size = b at *
  have HZ1 := Lib.hid (fun V h => l02Sized_any b n 0 (.slice a n cap) (by omega) V h)
  have HT := Lib.hid (fun V h => l01Tone_any b n (0 + 6) (.slice a n cap) (by omega) V h)
  have HP := Lib.hid (fun V h => pick_any b n (0 + 6 + 6) (.slice a n cap) (by omega) 20 (by decide) (by decide) V h)
  have hne0 : g0 ≠ b := by omega
  have hg00 : W1.grownBy W1 (some b) := grown_r _ _
  have HG := Lib.hid hg00
  clear hg00
  have hbW := hb
  have hsW1 : b ≤ W1.heap.size := by obtain ⟨_, _, _, _, _, _, _, hr⟩ := HS.out; exact Nat.le_of_lt (row_lt hr)
  clear hb
  go_upto_region 3 with (first | (go_at_call 23; refine (HZ1.out _ HS.out).mono ?_; rintro e W2 ⟨⟨z, rfl, hz⟩, hs1, hg1⟩; replace HS := Lib.hid hs1; replace HG := Lib.hid (grown_t HG.out hg1); replace H0 := Lib.hid (row_grown H0.out hg1 hne0); clear hs1 hg1) | (go_at_call 24; refine (HT.out _ HS.out).mono ?_; rintro e W3 ⟨⟨z2, rfl, hz2⟩, hs1, hg1⟩; replace HS := Lib.hid hs1; replace HG := Lib.hid (grown_t HG.out hg1); replace H0 := Lib.hid (row_grown H0.out hg1 hne0); clear hs1 hg1; have HBI : Hid (Try.prog.built 27 [(0, .float .f32 z), (1, .float .f32 z2)] = some (cordC z z2 0)) := (by unfold Hid; kernel_rfl)) | (refine wpList_buildL rfl 27 _ rfl _ rfl [(0, .float .f32 z), (1, .float .f32 z2)] rfl (cordC z z2 0) HBI.out ?_) | (refine wpList_store_part rfl 27 _ _ rfl _ 0 (cordC z z2 0) rfl rfl 27 _ (heap_alloc_new _ _) info_cord (Nat.le_refl _) (by intro u hu; simp only [cordC, List.mem_toArray, List.mem_cons, List.not_mem_nil, or_false] at hu; rcases hu with rfl | rfl | rfl <;> rfl) ?_; rw [laid_all _ _ (by rfl)]))
  have hl3 : g0 < W3.heap.size := row_lt H0.out
  have hb3 : b < W3.heap.size := by obtain ⟨_, _, _, _, _, _, _, hr⟩ := HS.out; exact row_lt hr
  have hW3 : W1.heap.size ≤ W3.heap.size := HG.out.size
  refine abs_code (fun X => X.heap[g0]? = some (.cells (cordC 0 0 0) 27 (0, 0)) ∧ X.heap[W3.heap.size]? = some (.cells (cordC z z2 0) 27 (0, 0)) ∧ SrcAt X b (.slice a n cap) n (0 + 6 + 6) ∧ W1.grownBy X (some b)) ⟨((alloc_row _ _).block _ (row_lt H0.out) (by simp)).trans H0.out, setRow_heap _ _ _ _ _ _ (heap_alloc_new _ _), src_kept HS.out (alloc_row _ _) (fun g e => by cases e), grown_t HG.out (grown_wide (alloc_row _ _))⟩ ?_
  clear H0 HS HG HBI HZ1 HT
  generalize W3.heap.size = g3 at *
  rintro X ⟨h0, h3, hs, hg⟩
  have hne3 : g3 ≠ b := by omega
  have H0 := Lib.hid h0
  have H3 := Lib.hid h3
  have HS := Lib.hid hs
  have HG := Lib.hid hg
  clear h0 h3 hs hg
  go_upto_region 4 with (go_at_call 25; refine (HP.out _ HS.out).mono ?_; rintro e W4 ⟨⟨y, rfl, y0, y1⟩, hs1, hg1⟩; replace HS := Lib.hid hs1; replace HG := Lib.hid (grown_t HG.out hg1); replace H0 := Lib.hid (row_grown H0.out hg1 hne0); replace H3 := Lib.hid (row_grown H3.out hg1 hne3); have f3 := frozen_of_row _ g3 2 _ _ H3.out; obtain ⟨q0, q1, q2⟩ := cord_cells H3.out; clear hs1 hg1; have hw1 : IntKind.i64.wrap (1 + y) = 1 + y := (by rw [IntWalk.i64_in _ (by omega)]); have hw2 : IntKind.i8.wrap (1 + y) = 1 + y := (by rw [IntWalk.i8_in _ (by omega)]))
  refine abs_code (fun Y => Y.heap[g0]? = some (.cells (cordC 0 0 0) 27 (0, 0)) ∧ Y.heap[g3]? = some (.cells (cordC z z2 (1 + y)) 27 (0, 0)) ∧ W1.grownBy Y (some b)) ⟨(heap_setCell_other _ _ _ _ (by simp; omega)).trans H0.out, by rw [heap_setCell_same _ _ _ _ _ _ H3.out]; rfl, grown_new HG.out (grown_set (b := g3) (o := 2) _) (by omega)⟩ ?_
  clear H0 H3 HS HG f3 q0 q1 q2
  rintro Y5 ⟨h0, h3, hg⟩
  have H0 := Lib.hid h0
  have H3 := Lib.hid h3
  have HG := Lib.hid hg
  clear h0 h3 hg
  go_wp2_with (first | (refine wpList_load_part rfl 27 _ rfl g3 0 3 rfl 27 (cordC z z2 (1 + y)) (0, 0) _ H3.out Try.underlying27 rfl info_cord (cord_fits _ _ _) _ (cord_all _ _ _) ?_) | (refine wpList_store_part rfl 27 _ _ rfl g0 0 (cordC z z2 (1 + y)) rfl rfl 27 (cordC 0 0 0) H0.out info_cord (Nat.le_refl _) (by intro u hu; simp only [cordC, List.mem_toArray, List.mem_cons, List.not_mem_nil, or_false] at hu; rcases hu with rfl | rfl | rfl <;> rfl) ?_; rw [laid_all _ _ (by rfl)]))
  refine bodyPost_ret (v := .agg (cordC z z2 (1 + y))) (results_cell_row rfl _ _ _ _ _ _ _ rfl (setRow_heap _ _ _ _ _ _ H0.out) Try.underlying27 rfl info_cord) rfl ?_
  rw [hg0]
  exact ⟨⟨_, _, _, rfl, hz, hz2, by omega, by omega⟩, below_setRow (hbW.trans (below_ofG HG.out (by omega) (by omega))) (Nat.le_refl _) _⟩

end Go.Proofs.Ytddnfbpgldchcaa

namespace Go.Proofs.Ytddnfbpgldchcaa
open Go.ChangeShapes Go.WideShapes Go.ChangeAt Go.RowKit Go.Deep Go.Joins

set_option maxRecDepth 100000 in
set_option maxHeartbeats 1000000 in
theorem implStretchedCord_yes (ln st : Nat) (sp : Int) (cw : CoWf ln st sp) (load : Nat) (hk : okCo ln st sp = true) (hp : partB load = true) (hw : (Lit.float .f32 load).wf = true) (w : World) :
    Calls Try.prog 8 #[.agg (cordC ln st sp), .float .f32 load] w fun e w' => e = .returned (.tuple #[.float .f32 (strB ln st load), .int .i64 0]) ∧ Below w.heap.size w w' := by
  obtain ⟨S0, S1⟩ := cowf_s cw
  have OK := cook_of cw hk
  have LP := betw_zero hw (by decide) hp
  have Hc : Hid (codeD (okCo ln st sp) true = 0) := by rw [hk]; rfl
  have Hp := Lib.hid hp
  have HC := Lib.hid (fun w => stretchedBy_any ln st sp OK load LP w)
  clear OK LP hk hp hw cw
  go_enter Try.func8, Try.ntmps8
  go_wp2
  refine wp_region_held_drew (S := (fun W => W.heap[w.heap.size]? = some (.cells (cordC ln st sp) 27 (0, 0)) ∧ Below w.heap.size w W)) (by kernel_rfl) ⟨heap_alloc_new _ _, ((Below.refl _ _).alloc (Nat.le_refl _) _).drew⟩ (fun hHeld => ?_)
  refine take_op (i := 0) (d := 7) (v := .agg (cordC ln st sp)) rfl rfl (by kernel_rfl) (by kernel_rfl) (by kernel_rfl) (fun _ _ _ h => h) (yields_row (by rfl) 27 (.tmp 2) (by rfl) w.heap.size 0 3 (by rfl) 27 (cordC ln st sp) (0, 0) _ (fun _ h => h.1) Try.underlying27 rfl info_cord (cord_fits _ _ _) (cordC ln st sp) (cord_all _ _ _)) hHeld ?_
  simp only [List.setIfInBounds_toArray, List.set_cons_zero, List.set_cons_succ]
  refine take_op (i := 1) (d := 8) (v := ?_) rfl rfl (by kernel_rfl) (by kernel_rfl) (by kernel_rfl) (fun _ _ _ h => h) (Or.inl ⟨by rfl, ?hy1u35⟩) hHeld ?rest1u35
  case hy1u35 =>
    intro w' hS'
    go_simp
    try with_reducible rfl
  simp only [List.setIfInBounds_toArray, List.set_cons_zero, List.set_cons_succ]
  refine wpAnyH_ready (rs := [2]) (by kernel_rfl) (by simp) ?_
  refine AllReadyH.cons rfl (fun K hK => ?_) AllReadyH.nil
  go_simp
  refine (isPart_is load _ Hp.out _).mono ?_
  rintro e w' ⟨rfl, rfl⟩
  refine hK.out _ _ (hHeld) (fun hHeld2 => ?_)
  clear hK K
  replace hHeld := hHeld2
  clear hHeld2
  refine wpAnyH_ready (rs := [3]) (by kernel_rfl) (by simp) ?_
  refine AllReadyH.cons rfl (fun K hK => ?_) AllReadyH.nil
  go_simp
  refine (checkCord_is ln st sp true 0 Hc.out _).mono ?_
  rintro e W1 ⟨rfl, hb1⟩
  refine hK.out _ _ (⟨below_row hb1 hHeld.1, hHeld.2.trans (hb1.mono hHeld.2.size)⟩) (fun hHeld2 => ?_)
  clear hK K
  replace hHeld := hHeld2
  clear hHeld2
  refine take_op (i := 4) (d := 6) (v := ?_) rfl rfl (by kernel_rfl) (by kernel_rfl) (by kernel_rfl) (fun _ _ _ h => h) (Or.inl ⟨by rfl, ?hy4u36⟩) hHeld ?rest4u36
  case hy4u36 =>
    intro w' hS'
    go_simp
    try with_reducible rfl
  simp only [List.setIfInBounds_toArray, List.set_cons_zero, List.set_cons_succ]
  refine wpAnyH_done (by kernel_rfl) ?_ _
  obtain ⟨h0, hb⟩ := hHeld
  have H0 := Lib.hid h0
  clear h0
  go_wp2_with (first | (refine wpList_load_part rfl 27 _ rfl w.heap.size 0 3 rfl 27 (cordC ln st sp) (0, 0) _ H0.out Try.underlying27 rfl info_cord (cord_fits _ _ _) _ (cord_all _ _ _) ?_) | (go_at_call 28; refine (HC.out _).mono ?_; rintro e W1 ⟨rfl, hb1⟩; replace H0 := Lib.hid (below_row hb1 H0.out); replace hb := hb.trans (hb1.mono hb.size); clear hb1))
  go_ret2
  exact ⟨rfl, hb⟩

set_option maxRecDepth 100000 in
set_option maxHeartbeats 1000000 in
theorem implStretchedCord_no (ln st : Nat) (sp : Int) (cw : CoWf ln st sp) (load : Nat) (hk : ¬ (okCo ln st sp = true ∧ partB load = true)) (w : World) :
    Calls Try.prog 8 #[.agg (cordC ln st sp), .float .f32 load] w fun e w' => e = .returned (.tuple #[.float .f32 0, .int .i64 (codeD (okCo ln st sp) (partB load))]) ∧ Below w.heap.size w w' := by
  obtain ⟨S0, S1⟩ := cowf_s cw
  have hne := codeD_ne hk
  generalize hp : partB load = fine at *
  generalize hc : codeD (okCo ln st sp) fine = c at *
  have Hc := Lib.hid hc
  have Hp := Lib.hid hp
  have hne' : (c != 0) = true := bne_iff_ne.2 hne
  clear hk hc hp hne cw
  go_enter Try.func8, Try.ntmps8
  go_wp2
  refine wp_region_held_drew (S := (fun W => W.heap[w.heap.size]? = some (.cells (cordC ln st sp) 27 (0, 0)) ∧ Below w.heap.size w W)) (by kernel_rfl) ⟨heap_alloc_new _ _, ((Below.refl _ _).alloc (Nat.le_refl _) _).drew⟩ (fun hHeld => ?_)
  refine take_op (i := 0) (d := 7) (v := .agg (cordC ln st sp)) rfl rfl (by kernel_rfl) (by kernel_rfl) (by kernel_rfl) (fun _ _ _ h => h) (yields_row (by rfl) 27 (.tmp 2) (by rfl) w.heap.size 0 3 (by rfl) 27 (cordC ln st sp) (0, 0) _ (fun _ h => h.1) Try.underlying27 rfl info_cord (cord_fits _ _ _) (cordC ln st sp) (cord_all _ _ _)) hHeld ?_
  simp only [List.setIfInBounds_toArray, List.set_cons_zero, List.set_cons_succ]
  refine take_op (i := 1) (d := 8) (v := ?_) rfl rfl (by kernel_rfl) (by kernel_rfl) (by kernel_rfl) (fun _ _ _ h => h) (Or.inl ⟨by rfl, ?hy1u37⟩) hHeld ?rest1u37
  case hy1u37 =>
    intro w' hS'
    go_simp
    try with_reducible rfl
  simp only [List.setIfInBounds_toArray, List.set_cons_zero, List.set_cons_succ]
  refine wpAnyH_ready (rs := [2]) (by kernel_rfl) (by simp) ?_
  refine AllReadyH.cons rfl (fun K hK => ?_) AllReadyH.nil
  go_simp
  refine (isPart_is load _ Hp.out _).mono ?_
  rintro e w' ⟨rfl, rfl⟩
  refine hK.out _ _ (hHeld) (fun hHeld2 => ?_)
  clear hK K
  replace hHeld := hHeld2
  clear hHeld2
  refine wpAnyH_ready (rs := [3]) (by kernel_rfl) (by simp) ?_
  refine AllReadyH.cons rfl (fun K hK => ?_) AllReadyH.nil
  go_simp
  refine (checkCord_is ln st sp fine c Hc.out _).mono ?_
  rintro e W1 ⟨rfl, hb1⟩
  refine hK.out _ _ (⟨below_row hb1 hHeld.1, hHeld.2.trans (hb1.mono hHeld.2.size)⟩) (fun hHeld2 => ?_)
  clear hK K
  replace hHeld := hHeld2
  clear hHeld2
  refine take_op (i := 4) (d := 6) (v := ?_) rfl rfl (by kernel_rfl) (by kernel_rfl) (by kernel_rfl) (fun _ _ _ h => h) (Or.inl ⟨by rfl, ?hy4u38⟩) hHeld ?rest4u38
  case hy4u38 =>
    intro w' hS'
    go_simp
    try with_reducible rfl
  simp only [List.setIfInBounds_toArray, List.set_cons_zero, List.set_cons_succ]
  refine wpAnyH_done (by kernel_rfl) ?_ _
  obtain ⟨h0, hb⟩ := hHeld
  clear h0
  go_wp2
  go_ret2
  exact ⟨rfl, hb⟩

set_option maxRecDepth 100000 in
set_option maxHeartbeats 1000000 in
theorem specStretchedCord_yes (ln st : Nat) (sp : Int) (cw : CoWf ln st sp) (load : Nat) (hk : okCo ln st sp = true) (hp : partB load = true) (hw : (Lit.float .f32 load).wf = true) (w : World) :
    Calls Try.prog 9 #[.agg (cordC ln st sp), .float .f32 load] w fun e w' => e = .returned (.tuple #[.float .f32 (strB ln st load), .int .i64 0]) ∧ Below w.heap.size w w' := by
  obtain ⟨S0, S1⟩ := cowf_s cw
  have OK := cook_of cw hk
  have LP := betw_zero hw (by decide) hp
  have Hc : Hid (codeD (okCo ln st sp) true = 0) := by rw [hk]; rfl
  have Hp := Lib.hid hp
  have HC := Lib.hid (fun W hg => l02Stretched_any ln st sp OK load LP w.heap.size 27 (0, 0) W hg)
  clear OK LP hk hp hw cw
  go_enter Try.func9, Try.ntmps9
  go_wp2_with (first | (go_at_call 30; refine (l01Part_is load _ Hp.out _).mono ?_; rintro e w' ⟨rfl, rfl⟩) | (go_at_call 29; refine (l02Loaded_is ln st sp S0 S1 w.heap.size _ _ true 0 Hc.out _ (heap_alloc_new _ _)).mono ?_; rintro e w' ⟨rfl, rfl⟩) | (go_at_call 31; refine (HC.out _ (heap_alloc_new _ _)).mono ?_; rintro e W1 ⟨rfl, hb1⟩))
  go_ret2
  exact ⟨rfl, (((Below.refl _ _).alloc (Nat.le_refl _) _).trans (hb1.mono (by simp)))⟩

set_option maxRecDepth 100000 in
set_option maxHeartbeats 1000000 in
theorem specStretchedCord_no (ln st : Nat) (sp : Int) (cw : CoWf ln st sp) (load : Nat) (hk : ¬ (okCo ln st sp = true ∧ partB load = true)) (w : World) :
    Calls Try.prog 9 #[.agg (cordC ln st sp), .float .f32 load] w fun e w' => e = .returned (.tuple #[.float .f32 0, .int .i64 (codeD (okCo ln st sp) (partB load))]) ∧ Below w.heap.size w w' := by
  obtain ⟨S0, S1⟩ := cowf_s cw
  have hne := codeD_ne hk
  generalize hp : partB load = fine at *
  generalize hc : codeD (okCo ln st sp) fine = c at *
  have Hc := Lib.hid hc
  have Hp := Lib.hid hp
  have hne' : (c != 0) = true := bne_iff_ne.2 hne
  clear hk hc hp hne cw
  go_enter Try.func9, Try.ntmps9
  go_wp2_with (first | (go_at_call 30; refine (l01Part_is load _ Hp.out _).mono ?_; rintro e w' ⟨rfl, rfl⟩) | (go_at_call 29; refine (l02Loaded_is ln st sp S0 S1 w.heap.size _ _ fine c Hc.out _ (heap_alloc_new _ _)).mono ?_; rintro e w' ⟨rfl, rfl⟩))
  go_ret2
  exact ⟨rfl, (Below.refl _ _).alloc (Nat.le_refl _) _⟩

end Go.Proofs.Ytddnfbpgldchcaa

namespace Go.Proofs.Ytddnfbpgldchcaa
open Go.ChangeShapes Go.WideShapes Go.ChangeAt Go.RowKit Go.Deep Go.Joins

def fineP (load : Nat) (stop sp : Int) : Bool := partB load && (decide (0 ≤ stop) && decide (stop ≤ sp))

set_option maxRecDepth 100000 in
set_option maxHeartbeats 1000000 in
theorem implPlaceOf_y (ln st : Nat) (sp : Int) (cw : CoWf ln st sp) (load : Nat) (stop : Int) (hk : okCo ln st sp = true) (hp : partB load = true) (hw : (Lit.float .f32 load).wf = true) (a0 : 0 ≤ stop) (a1 : stop ≤ sp) (w : World) :
    Calls Try.prog 15 #[.agg (cordC ln st sp), .float .f32 load, .int .i64 stop] w fun e w' => e = .returned (.tuple #[.float .f32 (plcB ln st load stop sp), .int .i64 0]) ∧ Below w.heap.size w w' := by
  obtain ⟨S0, S1⟩ := cowf_s cw
  have OK := cook_of cw hk
  have LP := betw_zero hw (by decide) hp
  have Hc : Hid (codeD (okCo ln st sp) true = 0) := by rw [hk]; rfl
  have Hp := Lib.hid hp
  have Hs : stop ≤ 100 := Int.le_trans a1 OK.2.2.2.2
  have HC := Lib.hid (fun w => placeAt_any ln st sp OK load LP stop a0 Hs w)
  clear OK LP hk hp hw cw
  have hwr : IntKind.i64.wrap sp = sp := IntWalk.i64_in _ (by omega)
  have hd : decide (stop ≤ sp) = true := decide_eq_true a1
  go_enter Try.func15, Try.ntmps15
  go_wp2
  refine wp_region_held_drew (S := (fun W => W.heap[w.heap.size]? = some (.cells (cordC ln st sp) 27 (0, 0)) ∧ Below w.heap.size w W)) (by kernel_rfl) ⟨heap_alloc_new _ _, ((Below.refl _ _).alloc (Nat.le_refl _) _).drew⟩ (fun hHeld => ?_)
  refine take_op (i := 0) (d := 9) (v := .agg (cordC ln st sp)) rfl rfl (by kernel_rfl) (by kernel_rfl) (by kernel_rfl) (fun _ _ _ h => h) (yields_row (by rfl) 27 (.tmp 3) (by rfl) w.heap.size 0 3 (by rfl) 27 (cordC ln st sp) (0, 0) _ (fun _ h => h.1) Try.underlying27 rfl info_cord (cord_fits _ _ _) (cordC ln st sp) (cord_all _ _ _)) hHeld ?_
  simp only [List.setIfInBounds_toArray, List.set_cons_zero, List.set_cons_succ]
  refine take_op (i := 1) (d := 10) (v := ?_) rfl rfl (by kernel_rfl) (by kernel_rfl) (by kernel_rfl) (fun _ _ _ h => h) (Or.inl ⟨by rfl, ?hy1u39⟩) hHeld ?rest1u39
  case hy1u39 =>
    intro w' hS'
    go_simp
    try with_reducible rfl
  simp only [List.setIfInBounds_toArray, List.set_cons_zero, List.set_cons_succ]
  refine wpAnyH_ready (rs := [2]) (by kernel_rfl) (by simp) ?_
  refine AllReadyH.cons rfl (fun K hK => ?_) AllReadyH.nil
  go_simp
  refine (isPart_is load _ Hp.out _).mono ?_
  rintro e w' ⟨rfl, rfl⟩
  refine hK.out _ _ (hHeld) (fun hHeld2 => ?_)
  clear hK K
  replace hHeld := hHeld2
  clear hHeld2
  refine take_op (i := 3) (d := 12) (v := ?_) rfl rfl (by kernel_rfl) (by kernel_rfl) (by kernel_rfl) (fun _ _ _ h => h) (Or.inl ⟨by rfl, ?hy3u40⟩) hHeld ?rest3u40
  case hy3u40 =>
    intro w' hS'
    go_simp
    try with_reducible rfl
  simp only [List.setIfInBounds_toArray, List.set_cons_zero, List.set_cons_succ]
  refine take_op (i := 4) (d := 13) (v := ?_) rfl rfl (by kernel_rfl) (by kernel_rfl) (by kernel_rfl) (fun _ _ _ h => h) (Or.inl ⟨by rfl, ?hy4u41⟩) hHeld ?rest4u41
  case hy4u41 =>
    intro w' hS'
    go_simp
    try with_reducible rfl
  simp only [List.setIfInBounds_toArray, List.set_cons_zero, List.set_cons_succ]
  refine take_op (i := 5) (d := 14) (v := ?_) rfl rfl (by kernel_rfl) (by kernel_rfl) (by kernel_rfl) (fun _ _ _ h => h) (Or.inl ⟨by rfl, ?hy5u42⟩) hHeld ?rest5u42
  case hy5u42 =>
    intro w' hS'
    go_simp
    try with_reducible rfl
  simp only [List.setIfInBounds_toArray, List.set_cons_zero, List.set_cons_succ]
  refine take_op (i := 6) (d := 15) (v := ?_) rfl rfl (by kernel_rfl) (by kernel_rfl) (by kernel_rfl) (fun _ _ _ h => h) (Or.inl ⟨by rfl, ?hy6u43⟩) hHeld ?rest6u43
  case hy6u43 =>
    intro w' hS'
    go_simp
    try with_reducible rfl
  simp only [List.setIfInBounds_toArray, List.set_cons_zero, List.set_cons_succ]
  refine take_op (i := 7) (d := 16) (v := ?_) rfl rfl (by kernel_rfl) (by kernel_rfl) (by kernel_rfl) (fun _ _ _ h => h) (Or.inl ⟨by rfl, ?hy7u44⟩) hHeld ?rest7u44
  case hy7u44 =>
    intro w' hS'
    go_simp
    try with_reducible rfl
  simp only [List.setIfInBounds_toArray, List.set_cons_zero, List.set_cons_succ]
  refine take_op (i := 8) (d := 17) (v := ?_) rfl rfl (by kernel_rfl) (by kernel_rfl) (by kernel_rfl) (fun _ _ _ h => h) (Or.inl ⟨by rfl, ?hy8u45⟩) hHeld ?rest8u45
  case hy8u45 =>
    intro w' hS'
    obtain ⟨s1, _⟩ := hS'
    obtain ⟨k0, k1, k2⟩ := cord_cells s1
    clear s1
    go_simp
    try with_reducible rfl
  simp only [List.setIfInBounds_toArray, List.set_cons_zero, List.set_cons_succ]
  refine take_op (i := 9) (d := 18) (v := ?_) rfl rfl (by kernel_rfl) (by kernel_rfl) (by kernel_rfl) (fun _ _ _ h => h) (Or.inl ⟨by rfl, ?hy9u46⟩) hHeld ?rest9u46
  case hy9u46 =>
    intro w' hS'
    obtain ⟨s1, _⟩ := hS'
    obtain ⟨k0, k1, k2⟩ := cord_cells s1
    clear s1
    go_simp
    try with_reducible rfl
  simp only [List.setIfInBounds_toArray, List.set_cons_zero, List.set_cons_succ]
  refine take_op (i := 10) (d := 19) (v := ?_) rfl rfl (by kernel_rfl) (by kernel_rfl) (by kernel_rfl) (fun _ _ _ h => h) (Or.inl ⟨by rfl, ?hy10u47⟩) hHeld ?rest10u47
  case hy10u47 =>
    intro w' hS'
    obtain ⟨s1, _⟩ := hS'
    obtain ⟨k0, k1, k2⟩ := cord_cells s1
    clear s1
    go_simp
    try with_reducible rfl
  simp only [List.setIfInBounds_toArray, List.set_cons_zero, List.set_cons_succ]
  refine take_op (i := 11) (d := 20) (v := ?_) rfl rfl (by kernel_rfl) (by kernel_rfl) (by kernel_rfl) (fun _ _ _ h => h) (Or.inl ⟨by rfl, ?hy11u48⟩) hHeld ?rest11u48
  case hy11u48 =>
    intro w' hS'
    obtain ⟨s1, _⟩ := hS'
    obtain ⟨k0, k1, k2⟩ := cord_cells s1
    clear s1
    go_simp
    try with_reducible rfl
  simp only [List.setIfInBounds_toArray, List.set_cons_zero, List.set_cons_succ]
  refine take_op (i := 12) (d := 21) (v := ?_) rfl rfl (by kernel_rfl) (by kernel_rfl) (by kernel_rfl) (fun _ _ _ h => h) (Or.inl ⟨by rfl, ?hy12u49⟩) hHeld ?rest12u49
  case hy12u49 =>
    intro w' hS'
    obtain ⟨s1, _⟩ := hS'
    obtain ⟨k0, k1, k2⟩ := cord_cells s1
    clear s1
    go_simp
    try with_reducible rfl
  simp only [List.setIfInBounds_toArray, List.set_cons_zero, List.set_cons_succ]
  refine take_op (i := 13) (d := 22) (v := ?_) rfl rfl (by kernel_rfl) (by kernel_rfl) (by kernel_rfl) (fun _ _ _ h => h) (Or.inl ⟨by rfl, ?hy13u50⟩) hHeld ?rest13u50
  case hy13u50 =>
    intro w' hS'
    go_simp
    try with_reducible rfl
  simp only [List.setIfInBounds_toArray, List.set_cons_zero, List.set_cons_succ]
  refine wpAnyH_ready (rs := [14]) (by kernel_rfl) (by simp) ?_
  refine AllReadyH.cons rfl (fun K hK => ?_) AllReadyH.nil
  go_simp
  refine (checkCord_is ln st sp true 0 Hc.out _).mono ?_
  rintro e W1 ⟨rfl, hb1⟩
  refine hK.out _ _ (⟨below_row hb1 hHeld.1, hHeld.2.trans (hb1.mono hHeld.2.size)⟩) (fun hHeld2 => ?_)
  clear hK K
  replace hHeld := hHeld2
  clear hHeld2
  refine take_op (i := 15) (d := 8) (v := ?_) rfl rfl (by kernel_rfl) (by kernel_rfl) (by kernel_rfl) (fun _ _ _ h => h) (Or.inl ⟨by rfl, ?hy15u51⟩) hHeld ?rest15u51
  case hy15u51 =>
    intro w' hS'
    go_simp
    try with_reducible rfl
  simp only [List.setIfInBounds_toArray, List.set_cons_zero, List.set_cons_succ]
  refine wpAnyH_done (by kernel_rfl) ?_ _
  obtain ⟨h0, hb⟩ := hHeld
  have H0 := Lib.hid h0
  clear h0
  go_wp2_with (first | (refine wpList_load_part rfl 27 _ rfl w.heap.size 0 3 rfl 27 (cordC ln st sp) (0, 0) _ H0.out Try.underlying27 rfl info_cord (cord_fits _ _ _) _ (cord_all _ _ _) ?_) | (go_at_call 36; refine (HC.out _).mono ?_; rintro e W1 ⟨rfl, hb1⟩; replace H0 := Lib.hid (below_row hb1 H0.out); replace hb := hb.trans (hb1.mono hb.size); clear hb1))
  go_ret2
  exact ⟨rfl, hb⟩

set_option maxRecDepth 100000 in
set_option maxHeartbeats 1000000 in
theorem specPlaceOf_y (ln st : Nat) (sp : Int) (cw : CoWf ln st sp) (load : Nat) (stop : Int) (hk : okCo ln st sp = true) (hp : partB load = true) (hw : (Lit.float .f32 load).wf = true) (a0 : 0 ≤ stop) (a1 : stop ≤ sp) (w : World) :
    Calls Try.prog 16 #[.agg (cordC ln st sp), .float .f32 load, .int .i64 stop] w fun e w' => e = .returned (.tuple #[.float .f32 (plcB ln st load stop sp), .int .i64 0]) ∧ Below w.heap.size w w' := by
  obtain ⟨S0, S1⟩ := cowf_s cw
  have OK := cook_of cw hk
  have LP := betw_zero hw (by decide) hp
  have Hc : Hid (codeD (okCo ln st sp) true = 0) := by rw [hk]; rfl
  have Hp := Lib.hid hp
  have Hs : stop ≤ 100 := Int.le_trans a1 OK.2.2.2.2
  have HC := Lib.hid (fun W hg => l02Place_any ln st sp OK load LP stop a0 Hs w.heap.size 27 (0, 0) W hg)
  clear OK LP hk hp hw cw
  have Hin : Hid (inI 0 sp stop = true) := by unfold Hid inI; simp; omega
  go_enter Try.func16, Try.ntmps16
  go_upto_region 1 with (fail)
  refine abs_world (fun W => Below w.heap.size w W ∧ W.heap[w.heap.size]? = some (.cells (cordC ln st sp) 27 (0, 0))) ⟨(Below.refl _ _).alloc (Nat.le_refl _) _, heap_alloc_new _ _⟩ ?_
  rintro W ⟨hb, h0⟩
  have H0 := Lib.hid h0
  obtain ⟨k0, k1, k2⟩ := cord_cells h0
  clear h0
  go_wp2_with (first | (go_at_call 30; refine (l01Part_is load true Hp.out _).mono ?_; rintro e w' ⟨rfl, rfl⟩) | (go_at_call 29; refine (l02Loaded_is ln st sp S0 S1 w.heap.size _ _ true 0 Hc.out _ H0.out).mono ?_; rintro e w' ⟨rfl, rfl⟩) | (go_at_call 41; refine (l00In_ban stop 0 sp _).mono ?_; rw [Hin.out]; rintro e w' ⟨rfl, rfl⟩) | (go_at_call 39; refine (HC.out _ H0.out).mono ?_; rintro e W1 ⟨rfl, hb1⟩))
  go_ret2
  exact ⟨rfl, hb.trans (hb1.mono hb.size)⟩

set_option maxRecDepth 100000 in
set_option maxHeartbeats 1000000 in
theorem implPlaceOf_p (ln st : Nat) (sp : Int) (cw : CoWf ln st sp) (load : Nat) (stop : Int) (hp : partB load = false) (w : World) :
    Calls Try.prog 15 #[.agg (cordC ln st sp), .float .f32 load, .int .i64 stop] w fun e w' => e = .returned (.tuple #[.float .f32 0, .int .i64 (codeD (okCo ln st sp) false)]) ∧ Below w.heap.size w w' := by
  obtain ⟨S0, S1⟩ := cowf_s cw
  have hne : codeD (okCo ln st sp) false ≠ 0 := codeD_ne (by simp)
  generalize hc : codeD (okCo ln st sp) false = c at *
  have Hc := Lib.hid hc
  have Hp := Lib.hid hp
  have hne' : (c != 0) = true := bne_iff_ne.2 hne
  clear hc hp hne cw
  have hwr : IntKind.i64.wrap sp = sp := IntWalk.i64_in _ (by omega)
  go_enter Try.func15, Try.ntmps15
  go_wp2
  refine wp_region_held_drew (S := (fun W => W.heap[w.heap.size]? = some (.cells (cordC ln st sp) 27 (0, 0)) ∧ Below w.heap.size w W)) (by kernel_rfl) ⟨heap_alloc_new _ _, ((Below.refl _ _).alloc (Nat.le_refl _) _).drew⟩ (fun hHeld => ?_)
  refine take_op (i := 0) (d := 9) (v := .agg (cordC ln st sp)) rfl rfl (by kernel_rfl) (by kernel_rfl) (by kernel_rfl) (fun _ _ _ h => h) (yields_row (by rfl) 27 (.tmp 3) (by rfl) w.heap.size 0 3 (by rfl) 27 (cordC ln st sp) (0, 0) _ (fun _ h => h.1) Try.underlying27 rfl info_cord (cord_fits _ _ _) (cordC ln st sp) (cord_all _ _ _)) hHeld ?_
  simp only [List.setIfInBounds_toArray, List.set_cons_zero, List.set_cons_succ]
  refine take_op (i := 1) (d := 10) (v := ?_) rfl rfl (by kernel_rfl) (by kernel_rfl) (by kernel_rfl) (fun _ _ _ h => h) (Or.inl ⟨by rfl, ?hy1u52⟩) hHeld ?rest1u52
  case hy1u52 =>
    intro w' hS'
    go_simp
    try with_reducible rfl
  simp only [List.setIfInBounds_toArray, List.set_cons_zero, List.set_cons_succ]
  refine wpAnyH_ready (rs := [2]) (by kernel_rfl) (by simp) ?_
  refine AllReadyH.cons rfl (fun K hK => ?_) AllReadyH.nil
  go_simp
  refine (isPart_is load _ Hp.out _).mono ?_
  rintro e w' ⟨rfl, rfl⟩
  refine hK.out _ _ (hHeld) (fun hHeld2 => ?_)
  clear hK K
  replace hHeld := hHeld2
  clear hHeld2
  refine take_op (i := 3) (d := 12) (v := ?_) rfl rfl (by kernel_rfl) (by kernel_rfl) (by kernel_rfl) (fun _ _ _ h => h) (Or.inl ⟨by rfl, ?hy3u53⟩) hHeld ?rest3u53
  case hy3u53 =>
    intro w' hS'
    go_simp
    try with_reducible rfl
  simp only [List.setIfInBounds_toArray, List.set_cons_zero, List.set_cons_succ]
  refine take_op (i := 4) (d := 13) rfl rfl (by kernel_rfl) (by kernel_rfl) (by kernel_rfl) (fun _ _ _ h => h) (Or.inr ⟨by rfl, rfl⟩) hHeld ?_
  simp only [List.setIfInBounds_toArray, List.set_cons_zero, List.set_cons_succ]
  refine take_op (i := 5) (d := 14) rfl rfl (by kernel_rfl) (by kernel_rfl) (by kernel_rfl) (fun _ _ _ h => h) (Or.inr ⟨by rfl, rfl⟩) hHeld ?_
  simp only [List.setIfInBounds_toArray, List.set_cons_zero, List.set_cons_succ]
  refine take_op (i := 6) (d := 15) (v := ?_) rfl rfl (by kernel_rfl) (by kernel_rfl) (by kernel_rfl) (fun _ _ _ h => h) (Or.inl ⟨by rfl, ?hy6u54⟩) hHeld ?rest6u54
  case hy6u54 =>
    intro w' hS'
    go_simp
    try with_reducible rfl
  simp only [List.setIfInBounds_toArray, List.set_cons_zero, List.set_cons_succ]
  refine take_op (i := 7) (d := 16) (v := ?_) rfl rfl (by kernel_rfl) (by kernel_rfl) (by kernel_rfl) (fun _ _ _ h => h) (Or.inl ⟨by rfl, ?hy7u55⟩) hHeld ?rest7u55
  case hy7u55 =>
    intro w' hS'
    go_simp
    try with_reducible rfl
  simp only [List.setIfInBounds_toArray, List.set_cons_zero, List.set_cons_succ]
  refine take_op (i := 8) (d := 17) rfl rfl (by kernel_rfl) (by kernel_rfl) (by kernel_rfl) (fun _ _ _ h => h) (Or.inr ⟨by rfl, rfl⟩) hHeld ?_
  simp only [List.setIfInBounds_toArray, List.set_cons_zero, List.set_cons_succ]
  refine take_op (i := 9) (d := 18) rfl rfl (by kernel_rfl) (by kernel_rfl) (by kernel_rfl) (fun _ _ _ h => h) (Or.inr ⟨by rfl, rfl⟩) hHeld ?_
  simp only [List.setIfInBounds_toArray, List.set_cons_zero, List.set_cons_succ]
  refine take_op (i := 10) (d := 19) rfl rfl (by kernel_rfl) (by kernel_rfl) (by kernel_rfl) (fun _ _ _ h => h) (Or.inr ⟨by rfl, rfl⟩) hHeld ?_
  simp only [List.setIfInBounds_toArray, List.set_cons_zero, List.set_cons_succ]
  refine take_op (i := 11) (d := 20) rfl rfl (by kernel_rfl) (by kernel_rfl) (by kernel_rfl) (fun _ _ _ h => h) (Or.inr ⟨by rfl, rfl⟩) hHeld ?_
  simp only [List.setIfInBounds_toArray, List.set_cons_zero, List.set_cons_succ]
  refine take_op (i := 12) (d := 21) rfl rfl (by kernel_rfl) (by kernel_rfl) (by kernel_rfl) (fun _ _ _ h => h) (Or.inr ⟨by rfl, rfl⟩) hHeld ?_
  simp only [List.setIfInBounds_toArray, List.set_cons_zero, List.set_cons_succ]
  refine take_op (i := 13) (d := 22) (v := ?_) rfl rfl (by kernel_rfl) (by kernel_rfl) (by kernel_rfl) (fun _ _ _ h => h) (Or.inl ⟨by rfl, ?hy13u56⟩) hHeld ?rest13u56
  case hy13u56 =>
    intro w' hS'
    go_simp
    try with_reducible rfl
  simp only [List.setIfInBounds_toArray, List.set_cons_zero, List.set_cons_succ]
  refine wpAnyH_ready (rs := [14]) (by kernel_rfl) (by simp) ?_
  refine AllReadyH.cons rfl (fun K hK => ?_) AllReadyH.nil
  go_simp
  refine (checkCord_is ln st sp false c Hc.out _).mono ?_
  rintro e W1 ⟨rfl, hb1⟩
  refine hK.out _ _ (⟨below_row hb1 hHeld.1, hHeld.2.trans (hb1.mono hHeld.2.size)⟩) (fun hHeld2 => ?_)
  clear hK K
  replace hHeld := hHeld2
  clear hHeld2
  refine take_op (i := 15) (d := 8) (v := ?_) rfl rfl (by kernel_rfl) (by kernel_rfl) (by kernel_rfl) (fun _ _ _ h => h) (Or.inl ⟨by rfl, ?hy15u57⟩) hHeld ?rest15u57
  case hy15u57 =>
    intro w' hS'
    go_simp
    try with_reducible rfl
  simp only [List.setIfInBounds_toArray, List.set_cons_zero, List.set_cons_succ]
  refine wpAnyH_done (by kernel_rfl) ?_ _
  obtain ⟨h0, hb⟩ := hHeld
  clear h0
  go_wp2
  go_ret2
  exact ⟨rfl, hb⟩

set_option maxRecDepth 100000 in
set_option maxHeartbeats 1000000 in
theorem specPlaceOf_p (ln st : Nat) (sp : Int) (cw : CoWf ln st sp) (load : Nat) (stop : Int) (hp : partB load = false) (w : World) :
    Calls Try.prog 16 #[.agg (cordC ln st sp), .float .f32 load, .int .i64 stop] w fun e w' => e = .returned (.tuple #[.float .f32 0, .int .i64 (codeD (okCo ln st sp) false)]) ∧ Below w.heap.size w w' := by
  obtain ⟨S0, S1⟩ := cowf_s cw
  have hne : codeD (okCo ln st sp) false ≠ 0 := codeD_ne (by simp)
  generalize hc : codeD (okCo ln st sp) false = c at *
  have Hc := Lib.hid hc
  have Hp := Lib.hid hp
  have hne' : (c != 0) = true := bne_iff_ne.2 hne
  clear hc hp hne cw
  go_enter Try.func16, Try.ntmps16
  go_upto_region 1 with (fail)
  refine abs_world (fun W => Below w.heap.size w W ∧ W.heap[w.heap.size]? = some (.cells (cordC ln st sp) 27 (0, 0))) ⟨(Below.refl _ _).alloc (Nat.le_refl _) _, heap_alloc_new _ _⟩ ?_
  rintro W ⟨hb, h0⟩
  have H0 := Lib.hid h0
  obtain ⟨k0, k1, k2⟩ := cord_cells h0
  clear h0
  go_wp2_with (first | (go_at_call 30; refine (l01Part_is load false Hp.out _).mono ?_; rintro e w' ⟨rfl, rfl⟩) | (go_at_call 29; refine (l02Loaded_is ln st sp S0 S1 w.heap.size _ _ false c Hc.out _ H0.out).mono ?_; rintro e w' ⟨rfl, rfl⟩))
  go_ret2
  exact ⟨rfl, hb⟩

set_option maxRecDepth 100000 in
set_option maxHeartbeats 1000000 in
theorem implPlaceOf_a (ln st : Nat) (sp : Int) (cw : CoWf ln st sp) (load : Nat) (stop : Int) (hp : partB load = true) (a0 : stop < 0) (w : World) :
    Calls Try.prog 15 #[.agg (cordC ln st sp), .float .f32 load, .int .i64 stop] w fun e w' => e = .returned (.tuple #[.float .f32 0, .int .i64 (codeD (okCo ln st sp) false)]) ∧ Below w.heap.size w w' := by
  obtain ⟨S0, S1⟩ := cowf_s cw
  have hne : codeD (okCo ln st sp) false ≠ 0 := codeD_ne (by simp)
  generalize hc : codeD (okCo ln st sp) false = c at *
  have Hc := Lib.hid hc
  have Hp := Lib.hid hp
  have hne' : (c != 0) = true := bne_iff_ne.2 hne
  clear hc hp hne cw
  have hwr : IntKind.i64.wrap sp = sp := IntWalk.i64_in _ (by omega)
  have hd : decide (0 ≤ stop) = false := decide_eq_false (by omega)
  go_enter Try.func15, Try.ntmps15
  go_wp2
  refine wp_region_held_drew (S := (fun W => W.heap[w.heap.size]? = some (.cells (cordC ln st sp) 27 (0, 0)) ∧ Below w.heap.size w W)) (by kernel_rfl) ⟨heap_alloc_new _ _, ((Below.refl _ _).alloc (Nat.le_refl _) _).drew⟩ (fun hHeld => ?_)
  refine take_op (i := 0) (d := 9) (v := .agg (cordC ln st sp)) rfl rfl (by kernel_rfl) (by kernel_rfl) (by kernel_rfl) (fun _ _ _ h => h) (yields_row (by rfl) 27 (.tmp 3) (by rfl) w.heap.size 0 3 (by rfl) 27 (cordC ln st sp) (0, 0) _ (fun _ h => h.1) Try.underlying27 rfl info_cord (cord_fits _ _ _) (cordC ln st sp) (cord_all _ _ _)) hHeld ?_
  simp only [List.setIfInBounds_toArray, List.set_cons_zero, List.set_cons_succ]
  refine take_op (i := 1) (d := 10) (v := ?_) rfl rfl (by kernel_rfl) (by kernel_rfl) (by kernel_rfl) (fun _ _ _ h => h) (Or.inl ⟨by rfl, ?hy1u58⟩) hHeld ?rest1u58
  case hy1u58 =>
    intro w' hS'
    go_simp
    try with_reducible rfl
  simp only [List.setIfInBounds_toArray, List.set_cons_zero, List.set_cons_succ]
  refine wpAnyH_ready (rs := [2]) (by kernel_rfl) (by simp) ?_
  refine AllReadyH.cons rfl (fun K hK => ?_) AllReadyH.nil
  go_simp
  refine (isPart_is load _ Hp.out _).mono ?_
  rintro e w' ⟨rfl, rfl⟩
  refine hK.out _ _ (hHeld) (fun hHeld2 => ?_)
  clear hK K
  replace hHeld := hHeld2
  clear hHeld2
  refine take_op (i := 3) (d := 12) (v := ?_) rfl rfl (by kernel_rfl) (by kernel_rfl) (by kernel_rfl) (fun _ _ _ h => h) (Or.inl ⟨by rfl, ?hy3u59⟩) hHeld ?rest3u59
  case hy3u59 =>
    intro w' hS'
    go_simp
    try with_reducible rfl
  simp only [List.setIfInBounds_toArray, List.set_cons_zero, List.set_cons_succ]
  refine take_op (i := 4) (d := 13) (v := ?_) rfl rfl (by kernel_rfl) (by kernel_rfl) (by kernel_rfl) (fun _ _ _ h => h) (Or.inl ⟨by rfl, ?hy4u60⟩) hHeld ?rest4u60
  case hy4u60 =>
    intro w' hS'
    go_simp
    try with_reducible rfl
  simp only [List.setIfInBounds_toArray, List.set_cons_zero, List.set_cons_succ]
  refine take_op (i := 5) (d := 14) (v := ?_) rfl rfl (by kernel_rfl) (by kernel_rfl) (by kernel_rfl) (fun _ _ _ h => h) (Or.inl ⟨by rfl, ?hy5u61⟩) hHeld ?rest5u61
  case hy5u61 =>
    intro w' hS'
    go_simp
    try with_reducible rfl
  simp only [List.setIfInBounds_toArray, List.set_cons_zero, List.set_cons_succ]
  refine take_op (i := 6) (d := 15) (v := ?_) rfl rfl (by kernel_rfl) (by kernel_rfl) (by kernel_rfl) (fun _ _ _ h => h) (Or.inl ⟨by rfl, ?hy6u62⟩) hHeld ?rest6u62
  case hy6u62 =>
    intro w' hS'
    go_simp
    try with_reducible rfl
  simp only [List.setIfInBounds_toArray, List.set_cons_zero, List.set_cons_succ]
  refine take_op (i := 7) (d := 16) (v := ?_) rfl rfl (by kernel_rfl) (by kernel_rfl) (by kernel_rfl) (fun _ _ _ h => h) (Or.inl ⟨by rfl, ?hy7u63⟩) hHeld ?rest7u63
  case hy7u63 =>
    intro w' hS'
    go_simp
    try with_reducible rfl
  simp only [List.setIfInBounds_toArray, List.set_cons_zero, List.set_cons_succ]
  refine take_op (i := 8) (d := 17) rfl rfl (by kernel_rfl) (by kernel_rfl) (by kernel_rfl) (fun _ _ _ h => h) (Or.inr ⟨by rfl, rfl⟩) hHeld ?_
  simp only [List.setIfInBounds_toArray, List.set_cons_zero, List.set_cons_succ]
  refine take_op (i := 9) (d := 18) rfl rfl (by kernel_rfl) (by kernel_rfl) (by kernel_rfl) (fun _ _ _ h => h) (Or.inr ⟨by rfl, rfl⟩) hHeld ?_
  simp only [List.setIfInBounds_toArray, List.set_cons_zero, List.set_cons_succ]
  refine take_op (i := 10) (d := 19) rfl rfl (by kernel_rfl) (by kernel_rfl) (by kernel_rfl) (fun _ _ _ h => h) (Or.inr ⟨by rfl, rfl⟩) hHeld ?_
  simp only [List.setIfInBounds_toArray, List.set_cons_zero, List.set_cons_succ]
  refine take_op (i := 11) (d := 20) rfl rfl (by kernel_rfl) (by kernel_rfl) (by kernel_rfl) (fun _ _ _ h => h) (Or.inr ⟨by rfl, rfl⟩) hHeld ?_
  simp only [List.setIfInBounds_toArray, List.set_cons_zero, List.set_cons_succ]
  refine take_op (i := 12) (d := 21) rfl rfl (by kernel_rfl) (by kernel_rfl) (by kernel_rfl) (fun _ _ _ h => h) (Or.inr ⟨by rfl, rfl⟩) hHeld ?_
  simp only [List.setIfInBounds_toArray, List.set_cons_zero, List.set_cons_succ]
  refine take_op (i := 13) (d := 22) (v := ?_) rfl rfl (by kernel_rfl) (by kernel_rfl) (by kernel_rfl) (fun _ _ _ h => h) (Or.inl ⟨by rfl, ?hy13u64⟩) hHeld ?rest13u64
  case hy13u64 =>
    intro w' hS'
    go_simp
    try with_reducible rfl
  simp only [List.setIfInBounds_toArray, List.set_cons_zero, List.set_cons_succ]
  refine wpAnyH_ready (rs := [14]) (by kernel_rfl) (by simp) ?_
  refine AllReadyH.cons rfl (fun K hK => ?_) AllReadyH.nil
  go_simp
  refine (checkCord_is ln st sp false c Hc.out _).mono ?_
  rintro e W1 ⟨rfl, hb1⟩
  refine hK.out _ _ (⟨below_row hb1 hHeld.1, hHeld.2.trans (hb1.mono hHeld.2.size)⟩) (fun hHeld2 => ?_)
  clear hK K
  replace hHeld := hHeld2
  clear hHeld2
  refine take_op (i := 15) (d := 8) (v := ?_) rfl rfl (by kernel_rfl) (by kernel_rfl) (by kernel_rfl) (fun _ _ _ h => h) (Or.inl ⟨by rfl, ?hy15u65⟩) hHeld ?rest15u65
  case hy15u65 =>
    intro w' hS'
    go_simp
    try with_reducible rfl
  simp only [List.setIfInBounds_toArray, List.set_cons_zero, List.set_cons_succ]
  refine wpAnyH_done (by kernel_rfl) ?_ _
  obtain ⟨h0, hb⟩ := hHeld
  clear h0
  go_wp2
  go_ret2
  exact ⟨rfl, hb⟩

set_option maxRecDepth 100000 in
set_option maxHeartbeats 1000000 in
theorem specPlaceOf_a (ln st : Nat) (sp : Int) (cw : CoWf ln st sp) (load : Nat) (stop : Int) (hp : partB load = true) (a0 : stop < 0) (w : World) :
    Calls Try.prog 16 #[.agg (cordC ln st sp), .float .f32 load, .int .i64 stop] w fun e w' => e = .returned (.tuple #[.float .f32 0, .int .i64 (codeD (okCo ln st sp) false)]) ∧ Below w.heap.size w w' := by
  obtain ⟨S0, S1⟩ := cowf_s cw
  have hne : codeD (okCo ln st sp) false ≠ 0 := codeD_ne (by simp)
  generalize hc : codeD (okCo ln st sp) false = c at *
  have Hc := Lib.hid hc
  have Hp := Lib.hid hp
  have hne' : (c != 0) = true := bne_iff_ne.2 hne
  clear hc hp hne cw
  have hd : decide (0 ≤ stop) = false := decide_eq_false (by omega)
  have Hin : Hid (inI 0 sp stop = false) := by unfold Hid inI; simp; omega
  go_enter Try.func16, Try.ntmps16
  go_upto_region 1 with (fail)
  refine abs_world (fun W => Below w.heap.size w W ∧ W.heap[w.heap.size]? = some (.cells (cordC ln st sp) 27 (0, 0))) ⟨(Below.refl _ _).alloc (Nat.le_refl _) _, heap_alloc_new _ _⟩ ?_
  rintro W ⟨hb, h0⟩
  have H0 := Lib.hid h0
  obtain ⟨k0, k1, k2⟩ := cord_cells h0
  clear h0
  go_wp2_with (first | (go_at_call 30; refine (l01Part_is load true Hp.out _).mono ?_; rintro e w' ⟨rfl, rfl⟩) | (go_at_call 29; refine (l02Loaded_is ln st sp S0 S1 w.heap.size _ _ false c Hc.out _ H0.out).mono ?_; rintro e w' ⟨rfl, rfl⟩) | (go_at_call 41; refine (l00In_ban stop 0 sp _).mono ?_; rw [Hin.out]; rintro e w' ⟨rfl, rfl⟩))
  go_ret2
  exact ⟨rfl, hb⟩

set_option maxRecDepth 100000 in
set_option maxHeartbeats 1000000 in
theorem implPlaceOf_b (ln st : Nat) (sp : Int) (cw : CoWf ln st sp) (load : Nat) (stop : Int) (hp : partB load = true) (a0 : 0 ≤ stop) (a1 : sp < stop) (w : World) :
    Calls Try.prog 15 #[.agg (cordC ln st sp), .float .f32 load, .int .i64 stop] w fun e w' => e = .returned (.tuple #[.float .f32 0, .int .i64 (codeD (okCo ln st sp) false)]) ∧ Below w.heap.size w w' := by
  obtain ⟨S0, S1⟩ := cowf_s cw
  have hne : codeD (okCo ln st sp) false ≠ 0 := codeD_ne (by simp)
  generalize hc : codeD (okCo ln st sp) false = c at *
  have Hc := Lib.hid hc
  have Hp := Lib.hid hp
  have hne' : (c != 0) = true := bne_iff_ne.2 hne
  clear hc hp hne cw
  have hwr : IntKind.i64.wrap sp = sp := IntWalk.i64_in _ (by omega)
  have hd : decide (stop ≤ sp) = false := decide_eq_false (by omega)
  go_enter Try.func15, Try.ntmps15
  go_wp2
  refine wp_region_held_drew (S := (fun W => W.heap[w.heap.size]? = some (.cells (cordC ln st sp) 27 (0, 0)) ∧ Below w.heap.size w W)) (by kernel_rfl) ⟨heap_alloc_new _ _, ((Below.refl _ _).alloc (Nat.le_refl _) _).drew⟩ (fun hHeld => ?_)
  refine take_op (i := 0) (d := 9) (v := .agg (cordC ln st sp)) rfl rfl (by kernel_rfl) (by kernel_rfl) (by kernel_rfl) (fun _ _ _ h => h) (yields_row (by rfl) 27 (.tmp 3) (by rfl) w.heap.size 0 3 (by rfl) 27 (cordC ln st sp) (0, 0) _ (fun _ h => h.1) Try.underlying27 rfl info_cord (cord_fits _ _ _) (cordC ln st sp) (cord_all _ _ _)) hHeld ?_
  simp only [List.setIfInBounds_toArray, List.set_cons_zero, List.set_cons_succ]
  refine take_op (i := 1) (d := 10) (v := ?_) rfl rfl (by kernel_rfl) (by kernel_rfl) (by kernel_rfl) (fun _ _ _ h => h) (Or.inl ⟨by rfl, ?hy1u66⟩) hHeld ?rest1u66
  case hy1u66 =>
    intro w' hS'
    go_simp
    try with_reducible rfl
  simp only [List.setIfInBounds_toArray, List.set_cons_zero, List.set_cons_succ]
  refine wpAnyH_ready (rs := [2]) (by kernel_rfl) (by simp) ?_
  refine AllReadyH.cons rfl (fun K hK => ?_) AllReadyH.nil
  go_simp
  refine (isPart_is load _ Hp.out _).mono ?_
  rintro e w' ⟨rfl, rfl⟩
  refine hK.out _ _ (hHeld) (fun hHeld2 => ?_)
  clear hK K
  replace hHeld := hHeld2
  clear hHeld2
  refine take_op (i := 3) (d := 12) (v := ?_) rfl rfl (by kernel_rfl) (by kernel_rfl) (by kernel_rfl) (fun _ _ _ h => h) (Or.inl ⟨by rfl, ?hy3u67⟩) hHeld ?rest3u67
  case hy3u67 =>
    intro w' hS'
    go_simp
    try with_reducible rfl
  simp only [List.setIfInBounds_toArray, List.set_cons_zero, List.set_cons_succ]
  refine take_op (i := 4) (d := 13) (v := ?_) rfl rfl (by kernel_rfl) (by kernel_rfl) (by kernel_rfl) (fun _ _ _ h => h) (Or.inl ⟨by rfl, ?hy4u68⟩) hHeld ?rest4u68
  case hy4u68 =>
    intro w' hS'
    go_simp
    try with_reducible rfl
  simp only [List.setIfInBounds_toArray, List.set_cons_zero, List.set_cons_succ]
  refine take_op (i := 5) (d := 14) (v := ?_) rfl rfl (by kernel_rfl) (by kernel_rfl) (by kernel_rfl) (fun _ _ _ h => h) (Or.inl ⟨by rfl, ?hy5u69⟩) hHeld ?rest5u69
  case hy5u69 =>
    intro w' hS'
    go_simp
    try with_reducible rfl
  simp only [List.setIfInBounds_toArray, List.set_cons_zero, List.set_cons_succ]
  refine take_op (i := 6) (d := 15) (v := ?_) rfl rfl (by kernel_rfl) (by kernel_rfl) (by kernel_rfl) (fun _ _ _ h => h) (Or.inl ⟨by rfl, ?hy6u70⟩) hHeld ?rest6u70
  case hy6u70 =>
    intro w' hS'
    go_simp
    try with_reducible rfl
  simp only [List.setIfInBounds_toArray, List.set_cons_zero, List.set_cons_succ]
  refine take_op (i := 7) (d := 16) (v := ?_) rfl rfl (by kernel_rfl) (by kernel_rfl) (by kernel_rfl) (fun _ _ _ h => h) (Or.inl ⟨by rfl, ?hy7u71⟩) hHeld ?rest7u71
  case hy7u71 =>
    intro w' hS'
    go_simp
    try with_reducible rfl
  simp only [List.setIfInBounds_toArray, List.set_cons_zero, List.set_cons_succ]
  refine take_op (i := 8) (d := 17) (v := ?_) rfl rfl (by kernel_rfl) (by kernel_rfl) (by kernel_rfl) (fun _ _ _ h => h) (Or.inl ⟨by rfl, ?hy8u72⟩) hHeld ?rest8u72
  case hy8u72 =>
    intro w' hS'
    obtain ⟨s1, _⟩ := hS'
    obtain ⟨k0, k1, k2⟩ := cord_cells s1
    clear s1
    go_simp
    try with_reducible rfl
  simp only [List.setIfInBounds_toArray, List.set_cons_zero, List.set_cons_succ]
  refine take_op (i := 9) (d := 18) (v := ?_) rfl rfl (by kernel_rfl) (by kernel_rfl) (by kernel_rfl) (fun _ _ _ h => h) (Or.inl ⟨by rfl, ?hy9u73⟩) hHeld ?rest9u73
  case hy9u73 =>
    intro w' hS'
    obtain ⟨s1, _⟩ := hS'
    obtain ⟨k0, k1, k2⟩ := cord_cells s1
    clear s1
    go_simp
    try with_reducible rfl
  simp only [List.setIfInBounds_toArray, List.set_cons_zero, List.set_cons_succ]
  refine take_op (i := 10) (d := 19) (v := ?_) rfl rfl (by kernel_rfl) (by kernel_rfl) (by kernel_rfl) (fun _ _ _ h => h) (Or.inl ⟨by rfl, ?hy10u74⟩) hHeld ?rest10u74
  case hy10u74 =>
    intro w' hS'
    obtain ⟨s1, _⟩ := hS'
    obtain ⟨k0, k1, k2⟩ := cord_cells s1
    clear s1
    go_simp
    try with_reducible rfl
  simp only [List.setIfInBounds_toArray, List.set_cons_zero, List.set_cons_succ]
  refine take_op (i := 11) (d := 20) (v := ?_) rfl rfl (by kernel_rfl) (by kernel_rfl) (by kernel_rfl) (fun _ _ _ h => h) (Or.inl ⟨by rfl, ?hy11u75⟩) hHeld ?rest11u75
  case hy11u75 =>
    intro w' hS'
    obtain ⟨s1, _⟩ := hS'
    obtain ⟨k0, k1, k2⟩ := cord_cells s1
    clear s1
    go_simp
    try with_reducible rfl
  simp only [List.setIfInBounds_toArray, List.set_cons_zero, List.set_cons_succ]
  refine take_op (i := 12) (d := 21) (v := ?_) rfl rfl (by kernel_rfl) (by kernel_rfl) (by kernel_rfl) (fun _ _ _ h => h) (Or.inl ⟨by rfl, ?hy12u76⟩) hHeld ?rest12u76
  case hy12u76 =>
    intro w' hS'
    obtain ⟨s1, _⟩ := hS'
    obtain ⟨k0, k1, k2⟩ := cord_cells s1
    clear s1
    go_simp
    try with_reducible rfl
  simp only [List.setIfInBounds_toArray, List.set_cons_zero, List.set_cons_succ]
  refine take_op (i := 13) (d := 22) (v := ?_) rfl rfl (by kernel_rfl) (by kernel_rfl) (by kernel_rfl) (fun _ _ _ h => h) (Or.inl ⟨by rfl, ?hy13u77⟩) hHeld ?rest13u77
  case hy13u77 =>
    intro w' hS'
    go_simp
    try with_reducible rfl
  simp only [List.setIfInBounds_toArray, List.set_cons_zero, List.set_cons_succ]
  refine wpAnyH_ready (rs := [14]) (by kernel_rfl) (by simp) ?_
  refine AllReadyH.cons rfl (fun K hK => ?_) AllReadyH.nil
  go_simp
  refine (checkCord_is ln st sp false c Hc.out _).mono ?_
  rintro e W1 ⟨rfl, hb1⟩
  refine hK.out _ _ (⟨below_row hb1 hHeld.1, hHeld.2.trans (hb1.mono hHeld.2.size)⟩) (fun hHeld2 => ?_)
  clear hK K
  replace hHeld := hHeld2
  clear hHeld2
  refine take_op (i := 15) (d := 8) (v := ?_) rfl rfl (by kernel_rfl) (by kernel_rfl) (by kernel_rfl) (fun _ _ _ h => h) (Or.inl ⟨by rfl, ?hy15u78⟩) hHeld ?rest15u78
  case hy15u78 =>
    intro w' hS'
    go_simp
    try with_reducible rfl
  simp only [List.setIfInBounds_toArray, List.set_cons_zero, List.set_cons_succ]
  refine wpAnyH_done (by kernel_rfl) ?_ _
  obtain ⟨h0, hb⟩ := hHeld
  clear h0
  go_wp2
  go_ret2
  exact ⟨rfl, hb⟩

set_option maxRecDepth 100000 in
set_option maxHeartbeats 1000000 in
theorem specPlaceOf_b (ln st : Nat) (sp : Int) (cw : CoWf ln st sp) (load : Nat) (stop : Int) (hp : partB load = true) (_ : 0 ≤ stop) (a1 : sp < stop) (w : World) :
    Calls Try.prog 16 #[.agg (cordC ln st sp), .float .f32 load, .int .i64 stop] w fun e w' => e = .returned (.tuple #[.float .f32 0, .int .i64 (codeD (okCo ln st sp) false)]) ∧ Below w.heap.size w w' := by
  obtain ⟨S0, S1⟩ := cowf_s cw
  have hne : codeD (okCo ln st sp) false ≠ 0 := codeD_ne (by simp)
  generalize hc : codeD (okCo ln st sp) false = c at *
  have Hc := Lib.hid hc
  have Hp := Lib.hid hp
  have hne' : (c != 0) = true := bne_iff_ne.2 hne
  clear hc hp hne cw
  have hd : decide (stop ≤ sp) = false := decide_eq_false (by omega)
  have Hin : Hid (inI 0 sp stop = false) := by unfold Hid inI; simp; omega
  go_enter Try.func16, Try.ntmps16
  go_upto_region 1 with (fail)
  refine abs_world (fun W => Below w.heap.size w W ∧ W.heap[w.heap.size]? = some (.cells (cordC ln st sp) 27 (0, 0))) ⟨(Below.refl _ _).alloc (Nat.le_refl _) _, heap_alloc_new _ _⟩ ?_
  rintro W ⟨hb, h0⟩
  have H0 := Lib.hid h0
  obtain ⟨k0, k1, k2⟩ := cord_cells h0
  clear h0
  go_wp2_with (first | (go_at_call 30; refine (l01Part_is load true Hp.out _).mono ?_; rintro e w' ⟨rfl, rfl⟩) | (go_at_call 29; refine (l02Loaded_is ln st sp S0 S1 w.heap.size _ _ false c Hc.out _ H0.out).mono ?_; rintro e w' ⟨rfl, rfl⟩) | (go_at_call 41; refine (l00In_ban stop 0 sp _).mono ?_; rw [Hin.out]; rintro e w' ⟨rfl, rfl⟩))
  go_ret2
  exact ⟨rfl, hb⟩

set_option maxRecDepth 100000 in
set_option maxHeartbeats 1000000 in
theorem implPlaceOf_k (ln st : Nat) (sp : Int) (cw : CoWf ln st sp) (load : Nat) (stop : Int) (hk : okCo ln st sp = false) (hp : partB load = true) (a0 : 0 ≤ stop) (a1 : stop ≤ sp) (w : World) :
    Calls Try.prog 15 #[.agg (cordC ln st sp), .float .f32 load, .int .i64 stop] w fun e w' => e = .returned (.tuple #[.float .f32 0, .int .i64 (codeD (okCo ln st sp) true)]) ∧ Below w.heap.size w w' := by
  obtain ⟨S0, S1⟩ := cowf_s cw
  have hne : codeD (okCo ln st sp) true ≠ 0 := codeD_ne (by rw [hk]; simp)
  generalize hc : codeD (okCo ln st sp) true = c at *
  have Hc := Lib.hid hc
  have Hp := Lib.hid hp
  have hne' : (c != 0) = true := bne_iff_ne.2 hne
  clear hk hc hp hne cw
  have hwr : IntKind.i64.wrap sp = sp := IntWalk.i64_in _ (by omega)
  have hd : decide (stop ≤ sp) = true := decide_eq_true a1
  go_enter Try.func15, Try.ntmps15
  go_wp2
  refine wp_region_held_drew (S := (fun W => W.heap[w.heap.size]? = some (.cells (cordC ln st sp) 27 (0, 0)) ∧ Below w.heap.size w W)) (by kernel_rfl) ⟨heap_alloc_new _ _, ((Below.refl _ _).alloc (Nat.le_refl _) _).drew⟩ (fun hHeld => ?_)
  refine take_op (i := 0) (d := 9) (v := .agg (cordC ln st sp)) rfl rfl (by kernel_rfl) (by kernel_rfl) (by kernel_rfl) (fun _ _ _ h => h) (yields_row (by rfl) 27 (.tmp 3) (by rfl) w.heap.size 0 3 (by rfl) 27 (cordC ln st sp) (0, 0) _ (fun _ h => h.1) Try.underlying27 rfl info_cord (cord_fits _ _ _) (cordC ln st sp) (cord_all _ _ _)) hHeld ?_
  simp only [List.setIfInBounds_toArray, List.set_cons_zero, List.set_cons_succ]
  refine take_op (i := 1) (d := 10) (v := ?_) rfl rfl (by kernel_rfl) (by kernel_rfl) (by kernel_rfl) (fun _ _ _ h => h) (Or.inl ⟨by rfl, ?hy1u79⟩) hHeld ?rest1u79
  case hy1u79 =>
    intro w' hS'
    go_simp
    try with_reducible rfl
  simp only [List.setIfInBounds_toArray, List.set_cons_zero, List.set_cons_succ]
  refine wpAnyH_ready (rs := [2]) (by kernel_rfl) (by simp) ?_
  refine AllReadyH.cons rfl (fun K hK => ?_) AllReadyH.nil
  go_simp
  refine (isPart_is load _ Hp.out _).mono ?_
  rintro e w' ⟨rfl, rfl⟩
  refine hK.out _ _ (hHeld) (fun hHeld2 => ?_)
  clear hK K
  replace hHeld := hHeld2
  clear hHeld2
  refine take_op (i := 3) (d := 12) (v := ?_) rfl rfl (by kernel_rfl) (by kernel_rfl) (by kernel_rfl) (fun _ _ _ h => h) (Or.inl ⟨by rfl, ?hy3u80⟩) hHeld ?rest3u80
  case hy3u80 =>
    intro w' hS'
    go_simp
    try with_reducible rfl
  simp only [List.setIfInBounds_toArray, List.set_cons_zero, List.set_cons_succ]
  refine take_op (i := 4) (d := 13) (v := ?_) rfl rfl (by kernel_rfl) (by kernel_rfl) (by kernel_rfl) (fun _ _ _ h => h) (Or.inl ⟨by rfl, ?hy4u81⟩) hHeld ?rest4u81
  case hy4u81 =>
    intro w' hS'
    go_simp
    try with_reducible rfl
  simp only [List.setIfInBounds_toArray, List.set_cons_zero, List.set_cons_succ]
  refine take_op (i := 5) (d := 14) (v := ?_) rfl rfl (by kernel_rfl) (by kernel_rfl) (by kernel_rfl) (fun _ _ _ h => h) (Or.inl ⟨by rfl, ?hy5u82⟩) hHeld ?rest5u82
  case hy5u82 =>
    intro w' hS'
    go_simp
    try with_reducible rfl
  simp only [List.setIfInBounds_toArray, List.set_cons_zero, List.set_cons_succ]
  refine take_op (i := 6) (d := 15) (v := ?_) rfl rfl (by kernel_rfl) (by kernel_rfl) (by kernel_rfl) (fun _ _ _ h => h) (Or.inl ⟨by rfl, ?hy6u83⟩) hHeld ?rest6u83
  case hy6u83 =>
    intro w' hS'
    go_simp
    try with_reducible rfl
  simp only [List.setIfInBounds_toArray, List.set_cons_zero, List.set_cons_succ]
  refine take_op (i := 7) (d := 16) (v := ?_) rfl rfl (by kernel_rfl) (by kernel_rfl) (by kernel_rfl) (fun _ _ _ h => h) (Or.inl ⟨by rfl, ?hy7u84⟩) hHeld ?rest7u84
  case hy7u84 =>
    intro w' hS'
    go_simp
    try with_reducible rfl
  simp only [List.setIfInBounds_toArray, List.set_cons_zero, List.set_cons_succ]
  refine take_op (i := 8) (d := 17) (v := ?_) rfl rfl (by kernel_rfl) (by kernel_rfl) (by kernel_rfl) (fun _ _ _ h => h) (Or.inl ⟨by rfl, ?hy8u85⟩) hHeld ?rest8u85
  case hy8u85 =>
    intro w' hS'
    obtain ⟨s1, _⟩ := hS'
    obtain ⟨k0, k1, k2⟩ := cord_cells s1
    clear s1
    go_simp
    try with_reducible rfl
  simp only [List.setIfInBounds_toArray, List.set_cons_zero, List.set_cons_succ]
  refine take_op (i := 9) (d := 18) (v := ?_) rfl rfl (by kernel_rfl) (by kernel_rfl) (by kernel_rfl) (fun _ _ _ h => h) (Or.inl ⟨by rfl, ?hy9u86⟩) hHeld ?rest9u86
  case hy9u86 =>
    intro w' hS'
    obtain ⟨s1, _⟩ := hS'
    obtain ⟨k0, k1, k2⟩ := cord_cells s1
    clear s1
    go_simp
    try with_reducible rfl
  simp only [List.setIfInBounds_toArray, List.set_cons_zero, List.set_cons_succ]
  refine take_op (i := 10) (d := 19) (v := ?_) rfl rfl (by kernel_rfl) (by kernel_rfl) (by kernel_rfl) (fun _ _ _ h => h) (Or.inl ⟨by rfl, ?hy10u87⟩) hHeld ?rest10u87
  case hy10u87 =>
    intro w' hS'
    obtain ⟨s1, _⟩ := hS'
    obtain ⟨k0, k1, k2⟩ := cord_cells s1
    clear s1
    go_simp
    try with_reducible rfl
  simp only [List.setIfInBounds_toArray, List.set_cons_zero, List.set_cons_succ]
  refine take_op (i := 11) (d := 20) (v := ?_) rfl rfl (by kernel_rfl) (by kernel_rfl) (by kernel_rfl) (fun _ _ _ h => h) (Or.inl ⟨by rfl, ?hy11u88⟩) hHeld ?rest11u88
  case hy11u88 =>
    intro w' hS'
    obtain ⟨s1, _⟩ := hS'
    obtain ⟨k0, k1, k2⟩ := cord_cells s1
    clear s1
    go_simp
    try with_reducible rfl
  simp only [List.setIfInBounds_toArray, List.set_cons_zero, List.set_cons_succ]
  refine take_op (i := 12) (d := 21) (v := ?_) rfl rfl (by kernel_rfl) (by kernel_rfl) (by kernel_rfl) (fun _ _ _ h => h) (Or.inl ⟨by rfl, ?hy12u89⟩) hHeld ?rest12u89
  case hy12u89 =>
    intro w' hS'
    obtain ⟨s1, _⟩ := hS'
    obtain ⟨k0, k1, k2⟩ := cord_cells s1
    clear s1
    go_simp
    try with_reducible rfl
  simp only [List.setIfInBounds_toArray, List.set_cons_zero, List.set_cons_succ]
  refine take_op (i := 13) (d := 22) (v := ?_) rfl rfl (by kernel_rfl) (by kernel_rfl) (by kernel_rfl) (fun _ _ _ h => h) (Or.inl ⟨by rfl, ?hy13u90⟩) hHeld ?rest13u90
  case hy13u90 =>
    intro w' hS'
    go_simp
    try with_reducible rfl
  simp only [List.setIfInBounds_toArray, List.set_cons_zero, List.set_cons_succ]
  refine wpAnyH_ready (rs := [14]) (by kernel_rfl) (by simp) ?_
  refine AllReadyH.cons rfl (fun K hK => ?_) AllReadyH.nil
  go_simp
  refine (checkCord_is ln st sp true c Hc.out _).mono ?_
  rintro e W1 ⟨rfl, hb1⟩
  refine hK.out _ _ (⟨below_row hb1 hHeld.1, hHeld.2.trans (hb1.mono hHeld.2.size)⟩) (fun hHeld2 => ?_)
  clear hK K
  replace hHeld := hHeld2
  clear hHeld2
  refine take_op (i := 15) (d := 8) (v := ?_) rfl rfl (by kernel_rfl) (by kernel_rfl) (by kernel_rfl) (fun _ _ _ h => h) (Or.inl ⟨by rfl, ?hy15u91⟩) hHeld ?rest15u91
  case hy15u91 =>
    intro w' hS'
    go_simp
    try with_reducible rfl
  simp only [List.setIfInBounds_toArray, List.set_cons_zero, List.set_cons_succ]
  refine wpAnyH_done (by kernel_rfl) ?_ _
  obtain ⟨h0, hb⟩ := hHeld
  clear h0
  go_wp2
  go_ret2
  exact ⟨rfl, hb⟩

set_option maxRecDepth 100000 in
set_option maxHeartbeats 1000000 in
theorem specPlaceOf_k (ln st : Nat) (sp : Int) (cw : CoWf ln st sp) (load : Nat) (stop : Int) (hk : okCo ln st sp = false) (hp : partB load = true) (a0 : 0 ≤ stop) (a1 : stop ≤ sp) (w : World) :
    Calls Try.prog 16 #[.agg (cordC ln st sp), .float .f32 load, .int .i64 stop] w fun e w' => e = .returned (.tuple #[.float .f32 0, .int .i64 (codeD (okCo ln st sp) true)]) ∧ Below w.heap.size w w' := by
  obtain ⟨S0, S1⟩ := cowf_s cw
  have hne : codeD (okCo ln st sp) true ≠ 0 := codeD_ne (by rw [hk]; simp)
  generalize hc : codeD (okCo ln st sp) true = c at *
  have Hc := Lib.hid hc
  have Hp := Lib.hid hp
  have hne' : (c != 0) = true := bne_iff_ne.2 hne
  clear hk hc hp hne cw
  have Hin : Hid (inI 0 sp stop = true) := by unfold Hid inI; simp; omega
  go_enter Try.func16, Try.ntmps16
  go_upto_region 1 with (fail)
  refine abs_world (fun W => Below w.heap.size w W ∧ W.heap[w.heap.size]? = some (.cells (cordC ln st sp) 27 (0, 0))) ⟨(Below.refl _ _).alloc (Nat.le_refl _) _, heap_alloc_new _ _⟩ ?_
  rintro W ⟨hb, h0⟩
  have H0 := Lib.hid h0
  obtain ⟨k0, k1, k2⟩ := cord_cells h0
  clear h0
  go_wp2_with (first | (go_at_call 30; refine (l01Part_is load true Hp.out _).mono ?_; rintro e w' ⟨rfl, rfl⟩) | (go_at_call 29; refine (l02Loaded_is ln st sp S0 S1 w.heap.size _ _ true c Hc.out _ H0.out).mono ?_; rintro e w' ⟨rfl, rfl⟩) | (go_at_call 41; refine (l00In_ban stop 0 sp _).mono ?_; rw [Hin.out]; rintro e w' ⟨rfl, rfl⟩))
  go_ret2
  exact ⟨rfl, hb⟩

end Go.Proofs.Ytddnfbpgldchcaa

namespace Go.Proofs.Ytddnfbpgldchcaa
open Go.ChangeShapes Go.WideShapes Go.ChangeAt Go.RowKit Go.Deep Go.Joins

theorem cell_below {W W' : World} (hb : Below W.heap.size W W') {a : Addr} {v : Value} (h : W.cell? a = some v) : W'.cell? a = some v :=
  (hb.cell (World.block_lt_of_cell? W a h)).trans h
theorem list_of {α : Type} {Pr : Nat → α → Prop} : ∀ n, (∀ i, i < n → ∃ x, Pr i x) → ∃ l : List α, l.length = n ∧ ∀ i x, l[i]? = some x → Pr i x
  | 0, _ => ⟨[], rfl, fun i x h => by simp at h⟩
  | n + 1, h => by
    obtain ⟨l, hl, hp⟩ := list_of n (fun i hi => h i (by omega))
    obtain ⟨x, hx⟩ := h n (by omega)
    refine ⟨l ++ [x], by simp [hl], fun i y hy => ?_⟩
    by_cases c : i < l.length
    · rw [List.getElem?_append_left c] at hy
      exact hp i y hy
    · rw [List.getElem?_append_right (by omega)] at hy
      have hi := (List.getElem?_eq_some_iff.1 hy).1
      simp only [List.length_cons, List.length_nil] at hi
      have e0 : i - l.length = 0 := by omega
      rw [e0] at hy
      simp only [List.getElem?_cons_zero, Option.some.injEq] at hy
      subst hy
      have e1 : i = n := by omega
      subst e1
      exact hx
section
variable {P : Program}
theorem run_loadVar_cells (w : World) (g off n : Nat) (ty : TypeId) (d : TypeDesc) (hu : P.underlying ty = some d) (hd : (match d with | .struct _ | .array _ _ => true | _ => false) = true) (hi : (P.info? ty).map (·.size) = some n)
    (vs : Array Value) (hn : vs.size = n) (hc : ∀ j v, vs[j]? = some v → w.cell? ⟨g, off + j, none⟩ = some v) : (loadVar ty ⟨g, off, none⟩).run P w = .ok (.agg vs) w := by
  have hl : (loadCells ⟨g, off, none⟩ n).run P w = .ok vs w := by
    have h := run_loadCells_list (P := P) w ⟨g, off, none⟩ vs.toList (fun j v hv => by
      rw [addr_add]
      exact hc j v (by simpa using hv))
    rw [Array.length_toList, hn, Array.toArray_toList] at h
    exact h
  cases hq : P.info? ty with
  | none => simp [hq] at hi
  | some i =>
    have hs : i.size = n := by simpa [hq] using hi
    have hagg : (isAgg ty).run P w = .ok true w := by
      unfold isAgg
      rw [Sem.run_bind, run_underlying hu w]
      cases d <;> simp_all
    simp [loadVar, Sem.run_bind, hagg, sizeOf, typeInfo, hq, hs, hl]

theorem wpList_load_cells {ops : Array Oper} {rest : List Oper} {o : Oper} {a : Act} {w : World} {Q : Exit → Act → World → Prop} (hgd : o.guard = none) (ty : TypeId) (x : Operand) (ho : o.op = .load ty x)
    (g off n : Nat) (hx : a.eval x = .pointer (some ⟨g, off, none⟩)) (d : TypeDesc) (hu : P.underlying ty = some d) (hd : (match d with | .struct _ | .array _ _ => true | _ => false) = true) (hi : (P.info? ty).map (·.size) = some n)
    (vs : Array Value) (hn : vs.size = n) (hc : ∀ j v, vs[j]? = some v → w.cell? ⟨g, off + j, none⟩ = some v) (h : wpList P ops Q rest (a.put o.dst (.agg vs)) w) : wpList P ops Q (o :: rest) a w := by
  refine wpList_plain hgd fun K hK => ?_
  unfold Oper.wp execOp
  simp only [ho, hx, Instr.loadAt, Instr.sureAddr, Sem.run_bind, Sem.run_pure, Result.andThen_ok, run_loadVar_cells w g off n ty d hu hd hi vs hn hc]
  exact hK _ _ h
end
theorem laid_here (cs vs : Array Value) (off : Nat) (h : off + vs.size ≤ cs.size) : (laid cs vs off).extract off (off + vs.size) = vs := by
  apply Array.ext'
  rw [Array.toList_extract, List.extract_eq_take_drop, Nat.add_sub_cancel_left]
  unfold laid
  have hl : (cs.toList.take off).length = off := by simp; omega
  rw [List.append_assoc, List.drop_append_of_le_length (by omega), List.drop_of_length_le (by omega), List.nil_append, List.take_append_of_le_length (by simp), List.take_of_length_le (by simp)]
theorem laid_there (cs vs : Array Value) (off j n : Nat) (h : off + vs.size ≤ cs.size) (hj : j + n ≤ off) : (laid cs vs off).extract j (j + n) = cs.extract j (j + n) := by
  apply Array.ext'
  rw [Array.toList_extract, Array.toList_extract, List.extract_eq_take_drop, List.extract_eq_take_drop, Nat.add_sub_cancel_left]
  unfold laid
  have hl : (cs.toList.take off).length = off := by simp; omega
  rw [List.append_assoc, List.drop_append_of_le_length (by omega), List.take_append_of_le_length (by simp; omega), List.drop_take, List.take_take, Nat.min_eq_left (by omega)]
def leftI (n left : Int) : Int := if left - n < 0 then -1 else left - n
theorem three_at (w : World) (a b c : Obj) : (((w.alloc a).alloc b).alloc c).heap[w.heap.size]? = some a ∧ (((w.alloc a).alloc b).alloc c).heap[w.heap.size + 1]? = some b ∧ (((w.alloc a).alloc b).alloc c).heap[w.heap.size + 1 + 1]? = some c ∧ Below w.heap.size w (((w.alloc a).alloc b).alloc c) := by
  have key : ∀ (w : World) (o : Obj) (i : Nat), (w.alloc o).heap[i]? = if i = w.heap.size then some o else w.heap[i]? := fun w o i => by
    show (w.heap.push o)[i]? = _
    exact Array.getElem?_push
  refine ⟨?_, ?_, ?_, (((Below.refl _ _).alloc (Nat.le_refl _) _).alloc (by simp) _).alloc (by simp; omega) _⟩
  all_goals simp only [key, World.size_alloc]
  · rw [if_neg (by omega), if_neg (by omega), if_true]
  · rw [if_neg (by omega), if_true]
  · rw [if_true]
theorem two_at (w : World) (a b : Obj) : ((w.alloc a).alloc b).heap[w.heap.size]? = some a ∧ ((w.alloc a).alloc b).heap[w.heap.size + 1]? = some b ∧ Below w.heap.size w ((w.alloc a).alloc b) :=
  ⟨by rw [Below.heap_alloc _ _ _ (by simp)]; exact heap_alloc_new _ _, by have h := heap_alloc_new (w.alloc a) b; simpa using h, ((Below.refl _ _).alloc (Nat.le_refl _) _).alloc (by simp) _⟩
theorem yields_cells {P : Program} {ops : Array Oper} {S : World → Prop} {o : Oper} {a : Act} (hw : Region.wanted o (yielded ops a.tmps) = true) (ty : TypeId) (x : Operand) (ho : o.op = .load ty x)
    (g off n : Nat) (hx : a.eval x = .pointer (some ⟨g, off, none⟩)) (d : TypeDesc) (hu : P.underlying ty = some d) (hd : (match d with | .struct _ | .array _ _ => true | _ => false) = true) (hi : (P.info? ty).map (·.size) = some n)
    (vs : Array Value) (hn : vs.size = n) (hc : ∀ w, S w → ∀ j v, vs[j]? = some v → w.cell? ⟨g, off + j, none⟩ = some v) : YieldsIf P ops S o (.agg vs) a :=
  .inl ⟨hw, fun w hw' => by
    unfold execOp
    simp only [ho, hx, Instr.loadAt, Instr.sureAddr, Sem.run_bind, Sem.run_pure, Result.andThen_ok, run_loadVar_cells w g off n ty d hu hd hi vs hn (hc w hw')]⟩

end Go.Proofs.Ytddnfbpgldchcaa

namespace Go.Proofs.Ytddnfbpgldchcaa
open Go.ChangeShapes Go.WideShapes Go.ChangeAt Go.RowKit

set_option maxRecDepth 100000 in
theorem open_byteS {H : Type} {enc : TypeId × Value → H} {W : World} {b0 base : Nat} {spare : Nat → Bool} {held : Bool} {r : Reach} {v : Value} {d : DataW H} {p : List MemPlace}
    (hv : Value.okWide Try.prog W r b0 22 v) (h : DataW.Trod enc Try.prog W base spare held 22 v d p) : ∃ a n cap, v = .slice a n cap ∧ BytesAt W W.heap.size (.slice a n cap) n := by
  obtain ⟨a0, len0, cap0, rfl⟩ := okWide_slice Try.underlying22 hv
  obtain ⟨fuel, hf⟩ := h
  rcases open_ints Try.underlying22 Try.underlying5 (by kernel_rfl) hf with ⟨hcs, _⟩ | ⟨a, len, cap, zs, hcs, _, hl, hm, hz, _, hcell, hwz⟩
  · simp [Value.cells] at hcs
    obtain ⟨rfl, rfl, rfl⟩ := hcs
    exact ⟨none, 0, 0, rfl, none, 0, rfl, Nat.le_refl _, by unfold maxLen; omega, fun i hi => absurd hi (Nat.not_lt_zero i)⟩
  · simp [Value.cells] at hcs
    obtain ⟨rfl, rfl, rfl⟩ := hcs
    have hlz : len0 ≤ zs.length := by rw [hz]; split <;> omega
    refine ⟨some a, len0, cap0, rfl, some a, cap0, rfl, by omega, hm, fun i hi => ?_⟩
    have hc := hcell i (by omega)
    have hsp : a.spot = none := by
      have := World.cell?_spot (hcell 0 (by omega))
      simpa [Addr.add] using this
    obtain ⟨g, o, spot⟩ := a
    obtain rfl : spot = none := hsp
    rw [addr_add] at hc
    have hw : (Lit.int .u8 (zs.getD i 0)).wf = true := by
      have e : zs.getD i 0 = zs[i]'(by omega) := by simp [List.getD, List.getElem?_eq_getElem (show i < zs.length by omega)]
      rw [e]
      exact hwz _ (List.getElem_mem _)
    generalize zs.getD i 0 = q at hw hc
    have hb : 0 ≤ q ∧ q ≤ 255 := by
      simp [Lit.wf, IntKind.min, IntKind.max, IntKind.signed, IntKind.bits] at hw
      omega
    have hlt := World.block_lt_of_cell? _ _ hc
    exact ⟨g, o, q, rfl, hlt, hb.1, hb.2, hc⟩

end Go.Proofs.Ytddnfbpgldchcaa

namespace Go.Proofs.Ytddnfbpgldchcaa
open Go.RowKit

attribute [local go_sem] run_store_f

theorem ge_is {x y : Nat} (hx : x < 2139095040) (hy : y < 2139095040) (h : y ≤ x) : (FloatKind.f32.format.order x y == some Ordering.gt || FloatKind.f32.format.order x y == some Ordering.eq) = true := by
  rw [order_pos hx hy]
  simp only [compare, compareOfLessAndEq]
  rw [if_neg (by omega)]
  split <;> rfl

theorem le_is {x y : Nat} (hx : x < 2139095040) (hy : y < 2139095040) (h : x ≤ y) : (FloatKind.f32.format.order x y == some Ordering.lt || FloatKind.f32.format.order x y == some Ordering.eq) = true := by
  rw [order_pos hx hy]
  simp only [compare, compareOfLessAndEq]
  by_cases c : x < y
  · rw [if_pos c]; rfl
  · rw [if_neg c, if_pos (by omega)]; rfl

theorem gt_is {x y : Nat} (hx : x < 2139095040) (hy : y < 2139095040) (h : y < x) : FloatKind.f32.format.order x y = some Ordering.gt := by
  rw [order_pos hx hy]
  simp only [compare, compareOfLessAndEq]
  rw [if_neg (by omega), if_neg (by omega)]

theorem firstMin_congr {d e : Nat → Nat} : ∀ n, (∀ k, k ≤ n → d k = e k) → firstMin d n = firstMin e n
  | 0, _ => rfl
  | n + 1, h => by
    have ih := firstMin_congr n (fun k hk => h k (by omega))
    have hl := firstMin_le e n
    unfold firstMin
    rw [ih, h (n + 1) (Nat.le_refl _), h (firstMin e n) (by omega)]

/-- How far a stop is from what is wanted, against the first of the nearest. -/
theorem near_stops {d : Nat → Nat} {n k : Nat} (hd : ∀ j, j ≤ n → isNum (d j)) (hk : k ≤ n) :
    (FloatKind.f32.format.order (d k) (d (firstMin d n)) = some .eq ∧ firstMin d n ≤ k) ∨ FloatKind.f32.format.order (d k) (d (firstMin d n)) = some .gt := by
  obtain ⟨e, he⟩ : ∃ e : Nat → Nat, e = fun j => if j ≤ n then d j else 0 := ⟨_, rfl⟩
  have hde : ∀ j, j ≤ n → d j = e j := fun j hj => by rw [he]; exact (if_pos hj).symm
  have hen : ∀ j, isNum (e j) := fun j => by
    rw [he]
    by_cases c : j ≤ n
    · show isNum (if j ≤ n then d j else 0)
      rw [if_pos c]; exact hd j c
    · show isNum (if j ≤ n then d j else 0)
      rw [if_neg c]; exact .inl (by decide)
  have h := near_facts hen hk
  rw [← firstMin_congr n hde, ← hde k hk, ← hde (firstMin d n) (firstMin_le d n)] at h
  exact h

/-- The place before a stop, or -1. -/
def befS (ln st load s : Nat) : Nat → Nat
  | 0 => 3212836864
  | k + 1 => plc ln st load s k

/-- All that the law asks of stops. -/
structure StF (ln st load s wanted m : Nat) : Prop where
  ge : (FloatKind.f32.format.order (strB ln st load) ln == some Ordering.gt || FloatKind.f32.format.order (strB ln st load) ln == some Ordering.eq) = true
  le : (FloatKind.f32.format.order (strB ln st load) (strB ln st 1065353216) == some Ordering.lt || FloatKind.f32.format.order (strB ln st load) (strB ln st 1065353216) == some Ordering.eq) = true
  self : FloatKind.f32.format.order ln ln = some .eq
  up : ∀ k, k ≤ s → FloatKind.f32.format.order (plc ln st load s k) (befS ln st load s k) = some .gt
  zero : plc ln st load s 0 = 0
  sub : ∀ k, k ≤ s → floatBits .sub .f32 (plc ln st load s k) wanted = some (fsub (plc ln st load s k) wanted) ∧ isNum (fsub (plc ln st load s k) wanted)
  eqs : ∀ k, k ≤ s → FloatKind.f32.format.order (plc ln st load s k) (plc ln st load s k) = some .eq
  near : ∀ k, k ≤ s → (FloatKind.f32.format.order (offC ln st load s wanted k) (offC ln st load s wanted m) = some .eq ∧ m ≤ k) ∨ FloatKind.f32.format.order (offC ln st load s wanted k) (offC ln st load s wanted m) = some .gt
  slf : FloatKind.f32.format.order (offC ln st load s wanted m) (offC ln st load s wanted m) = some .eq
  best : m ≤ s

theorem stF_of {ln st load s wanted : Nat} (hl : Sized ln) (hs : st ≤ 1065353216) (hd : load ≤ 1065353216) (s0 : 1 ≤ s) (s1 : s ≤ 20) (hw : (Lit.float .f32 wanted).wf = true) (hp : plainB wanted = true) : StF ln st load s wanted (bestS ln st load s wanted) := by
  obtain ⟨l0, l1⟩ := hl
  obtain ⟨-, a0, a1⟩ := str_facts (ln := ln) (st := st) (load := load) l0 l1 (.inl hs) (.inl hd)
  obtain ⟨-, b0, b1⟩ := str_facts (ln := ln) (st := st) (load := 1065353216) l0 l1 (.inl hs) (.inl (by decide))
  have hn := str_none (ln := ln) (st := st) l1 hs
  have hm0 := str_more (ln := ln) (st := st) (l := 0) (m := load) l1 hs (Nat.zero_le _) hd
  have hm1 := str_more (ln := ln) (st := st) (l := load) (m := 1065353216) l1 hs hd (Nat.le_refl _)
  rw [hn] at hm0
  have hpl : ∀ k, k ≤ s → plc ln st load s k ≤ 1179123712 := fun k hk => plc_le l0 l1 (.inl hs) (.inl hd) (by omega) (by omega) (by omega) (by omega)
  have hz : plc ln st load s 0 = 0 := plc_zero (sp := s) l0 l1 (.inl hs) (.inl hd) s0 (by omega)
  have hsub : ∀ k, k ≤ s → floatBits .sub .f32 (plc ln st load s k) wanted = some (fsub (plc ln st load s k) wanted) ∧ isNum (fsub (plc ln st load s k) wanted) := fun k hk => off_plain (hpl k hk) hw hp
  have hdn : ∀ k, k ≤ s → isNum (offC ln st load s wanted k) := fun k hk => size_isNum (hsub k hk).2
  have hmb := firstMin_le (offC ln st load s wanted) s
  refine ⟨ge_is (by omega) (by omega) hm0, le_is (by omega) (by omega) hm1, order_self (.inl (by omega)), fun k hk => ?_, hz, hsub, fun k hk => order_self (.inl (by have := hpl k hk; omega)), fun k hk => near_stops hdn hk, order_self (hdn _ hmb), hmb⟩
  cases k with
  | zero => rw [hz]; show FloatKind.f32.format.order 0 3212836864 = some .gt; decide +kernel
  | succ k =>
    have h1 := hpl (k + 1) hk
    have h2 := plc_rise (ln := ln) (st := st) (load := load) (k := k) (sp := s) l0 l1 (.inl hs) (.inl hd) (by omega) s0 (by omega)
    exact gt_is (by omega) (by show plc ln st load s k < _; have := hpl k (by omega); omega) h2

set_option maxRecDepth 100000 in
set_option maxHeartbeats 4000000 in
theorem A2Size_c (x : Nat) (h : isNum x) (w : World) : Calls Try.prog 14 #[.float .f32 x] w fun e w' => e = .returned (.float .f32 (sizeB x)) ∧ w = w' := by
  have HZ := Lib.hid (fun w => l01Size_any x h w)
  clear h
  go_enter Try.func14, Try.ntmps14
  go_wp2_with (go_at_call 40; refine (HZ.out _).mono ?_; rintro e w' ⟨rfl, rfl⟩)
  go_ret
  exact ⟨rfl, rfl⟩

set_option maxRecDepth 100000 in
set_option maxHeartbeats 4000000 in
theorem spSame_c (x : Nat) (w : World) : Calls Try.prog 10 #[.float .f32 x, .float .f32 x] w fun e w' => e = .returned (.bool true) ∧ w = w' := by
  have HZ : Hid (∀ w, Calls Try.prog 32 #[.float .f32 x, .float .f32 x] w fun e w' => e = .returned (.bool true) ∧ w = w') := Lib.hid (fun w => by
    have h1 := l01Same_any x x w
    have h2 : sameB x x = true := by unfold sameB; exact beq_self_eq_true _
    rw [h2] at h1
    exact h1)
  go_enter Try.func10, Try.ntmps10
  go_wp2_with (go_at_call 32; refine (HZ.out _).mono ?_; rintro e w' ⟨rfl, rfl⟩)
  go_ret
  exact ⟨rfl, rfl⟩

theorem want_facts {z : Nat} (h : z ≤ 1065353216) : floatBits .mul .f32 1115684864 z = some (fmul 1115684864 z) ∧ fmul 1115684864 z ≤ 1115684864 := by
  have m := mul_mono (x := 1115684864) (X := 1115684864) (y := z) (Y := 1065353216) (by decide) (by decide) (Nat.le_refl _) h
  have e : fmul 1115684864 1065353216 = 1115684864 := by decide +kernel
  rw [e] at m
  exact ⟨(mul_rnd (by decide) (by omega)).1, m⟩

theorem plain_of {z : Nat} (h : z ≤ 1115684864) : plainB z = true ∧ (Lit.float .f32 z).wf = true := by
  refine ⟨?_, low_wf (by omega)⟩
  unfold plainB betw
  have h1 : ge0 (FloatKind.f32.format.order z 3380609024) = true := by
    rw [order_num (.inl (by omega)) (by unfold isNum; omega)]
    simp only [compare, compareOfLessAndEq]
    have hv : sv 3380609024 = -(rv 1233125376 : Int) := sv_neg 1233125376
    have hz : sv z = (rv z : Int) := sv_pos (by omega)
    have hp := rv_pos (r := 1233125376) (by decide)
    rw [if_neg (by omega)]
    split <;> rfl
  rw [h1, le0_pos (by omega) (by decide) (by omega)]
  rfl

theorem cord_ok {ln st : Nat} {sp : Int} (hl : Sized ln) (hs : st ≤ 1065353216) (s0 : 1 ≤ sp) (s1 : sp ≤ 20) : okCo ln st sp = true ∧ CoWf ln st sp := by
  constructor
  · unfold okCo
    rw [sized_len hl, tone_part hs]
    unfold inI
    rw [decide_eq_true s0, decide_eq_true (show sp ≤ 100 by omega)]
    rfl
  · refine ⟨low_wf (by have := hl.2; omega), low_wf (by omega), ?_⟩
    simp [Lit.wf, IntKind.min, IntKind.max, IntKind.signed, IntKind.bits]; omega

end Go.Proofs.Ytddnfbpgldchcaa

namespace Go.Proofs.Ytddnfbpgldchcaa
open Go Go.RowKit

theorem alloc_at (w : World) (o : Obj) (i : Nat) : (w.alloc o).heap[i]? = if i = w.heap.size then some o else w.heap[i]? := by
  show (w.heap.push o)[i]? = _
  exact Array.getElem?_push
theorem box2 (w : World) (a b : Obj) : ((w.alloc a).alloc b).heap[w.heap.size]? = some a ∧ ((w.alloc a).alloc b).heap[w.heap.size + 1]? = some b ∧ Below w.heap.size w ((w.alloc a).alloc b) := by
  refine ⟨?_, ?_, ((Below.refl _ _).alloc (Nat.le_refl _) _).alloc (by simp) _⟩
  all_goals simp only [alloc_at, World.size_alloc]
  · rw [if_neg (by omega), if_true]
  · rw [if_true]
theorem box3 (w : World) (a b c : Obj) : (((w.alloc a).alloc b).alloc c).heap[w.heap.size]? = some a ∧ (((w.alloc a).alloc b).alloc c).heap[w.heap.size + 1]? = some b ∧ (((w.alloc a).alloc b).alloc c).heap[w.heap.size + 1 + 1]? = some c ∧ Below w.heap.size w (((w.alloc a).alloc b).alloc c) := by
  refine ⟨?_, ?_, ?_, (((Below.refl _ _).alloc (Nat.le_refl _) _).alloc (by simp) _).alloc (by simp; omega) _⟩
  all_goals simp only [alloc_at, World.size_alloc]
  · rw [if_neg (by omega), if_neg (by omega), if_true]
  · rw [if_neg (by omega), if_true]
  · rw [if_true]
theorem box4 (w : World) (a b c d : Obj) : ((((w.alloc a).alloc b).alloc c).alloc d).heap[w.heap.size]? = some a ∧ ((((w.alloc a).alloc b).alloc c).alloc d).heap[w.heap.size + 1]? = some b ∧ ((((w.alloc a).alloc b).alloc c).alloc d).heap[w.heap.size + 1 + 1]? = some c ∧ ((((w.alloc a).alloc b).alloc c).alloc d).heap[w.heap.size + 1 + 1 + 1]? = some d ∧ Below w.heap.size w ((((w.alloc a).alloc b).alloc c).alloc d) := by
  refine ⟨?_, ?_, ?_, ?_, ((((Below.refl _ _).alloc (Nat.le_refl _) _).alloc (by simp) _).alloc (by simp; omega) _).alloc (by simp; omega) _⟩
  all_goals simp only [alloc_at, World.size_alloc]
  · rw [if_neg (by omega), if_neg (by omega), if_neg (by omega), if_true]
  · rw [if_neg (by omega), if_neg (by omega), if_true]
  · rw [if_neg (by omega), if_true]
  · rw [if_true]
theorem cell_belowB {W W' : World} (hb : Below W.heap.size W W') {a : Addr} {v : Value} (h : W.cell? a = some v) : W'.cell? a = some v :=
  (hb.cell (World.block_lt_of_cell? W a h)).trans h

theorem wpList_load_partG {P : Program} {ops : Array Oper} {rest : List Oper} {o : Oper} {a : Act} {w : World} {Q : Exit → Act → World → Prop} (ty : TypeId) (x : Operand) (ho : o.op = .load ty x)
    (g off n : Nat) (hx : a.eval x = .pointer (some ⟨g, off, none⟩)) (hw : Region.wanted o (yielded ops a.tmps) = true) (t : TypeId) (cs : Array Value) (fr : Nat × Nat) (d : TypeDesc) (hg : w.heap[g]? = some (.cells cs t fr))
    (hu : P.underlying ty = some d) (hd : (match d with | .struct _ | .array _ _ => true | _ => false) = true) (hi : (P.info? ty).map (·.size) = some n) (hn : off + n ≤ cs.size)
    (vs : Array Value) (hvs : cs.extract off (off + n) = vs) (h : wpList P ops Q rest (a.put o.dst (.agg vs)) w) : wpList P ops Q (o :: rest) a w := by
  subst hvs
  refine wpList_step fun K hK => ?_
  simp only [hw, if_true]
  unfold Oper.wp execOp
  simp only [ho, hx, Instr.loadAt, Instr.sureAddr, Sem.run_bind, Sem.run_pure, Result.andThen_ok, run_loadVar_part w g off n t ty cs fr d hg hu hd hi hn]
  exact hK _ _ h

end Go.Proofs.Ytddnfbpgldchcaa

namespace Go.Proofs.Ytddnfbpgldchcaa
open Go.RowKit

attribute [local go_sem] run_store_f

set_option maxRecDepth 100000 in
set_option maxHeartbeats 16000000 in
theorem FnCords_walk (a : Option Addr) (n0 cap : Nat) (a' : Option Addr) (n1 cap' : Nat) (w : World) (hc0 : BytesAt w w.heap.size (.slice a n0 cap) n0) (hc1 : BytesAt w w.heap.size (.slice a' n1 cap') n1) :
    Calls Try.prog 3 #[.slice a n0 cap, .slice a' n1 cap'] w fun e w' => e = .returned (.bool true) ∧ Below w.heap.size w w' := by
  have HLG := Lib.hid (fun w => a2Long_any n0 cap n1 cap' a a' w)
  have HC0 := Lib.hid hc0
  have HC1 := Lib.hid hc1
  clear hc0 hc1
  generalize (decide (3000 < n0) || decide (3000 < n1)) = lg at *
  cases lg with
  | true =>
    go_enter Try.func3, Try.ntmps3
    go_wp2_with (go_at_call 5; refine (HLG.out _).mono ?_; rintro e w' ⟨rfl, rfl⟩)
    go_ret
    exact ⟨rfl, Below.refl _ _⟩
  | false =>
    have HAB := Lib.hid (A2Cord_any n0 cap a w HC0.out)
    go_enter Try.func3, Try.ntmps3
    go_upto_region 4 with (first | (go_at_call 5; refine (HLG.out _).mono ?_; rintro e w' ⟨rfl, rfl⟩) | (go_at_call 6; refine HAB.out.mono ?_; rintro e W1 ⟨⟨ln, st, sp, rfl, hln, hst, hs0, hs1⟩, hb1⟩; obtain ⟨s, rfl⟩ := Int.eq_ofNat_of_zero_le (show 0 ≤ sp by omega)) | (refine wpList_store_part rfl 27 _ _ rfl _ 0 (cordC ln st (s : Int)) rfl rfl 27 _ (heap_alloc_new _ _) info_cord (Nat.le_refl _) (cord_one _ _ _) ?_; rw [laid_all _ _ (by rfl)]))
    refine abs_code (fun V => V.heap[W1.heap.size]? = some (.cells (cordC ln st (s : Int)) 27 (0, 0)) ∧ Below w.heap.size w V) ⟨setRow_heap _ _ _ _ _ _ (heap_alloc_new _ _), below_setRow (hb1.alloc hb1.size _) hb1.size _⟩ ?_
    have hle : w.heap.size ≤ W1.heap.size := hb1.size
    clear hb1 HAB HLG
    generalize W1.heap.size = b0 at *
    rintro V ⟨h0, hb⟩
    have H0 := Lib.hid h0
    clear h0
    go_upto_region 5 with (go_at_call 7; refine (A2Part_any n1 cap' a' _ (bytes_below HC1.out hb hb.size)).mono ?_; rintro e W1 ⟨⟨ld, rfl, hld⟩, hb1⟩; replace H0 := Lib.hid (below_row hb1 H0.out); replace hb := hb.trans (hb1.mono hb.size); clear hb1)
    obtain ⟨hok, cw⟩ := cord_ok hln hst hs0 hs1
    have hpl : partB ld = true := tone_part hld
    have wld : (Lit.float .f32 ld).wf = true := low_wf (by omega)
    have hz1 : strB ln st 0 = ln := str_none (by have := hln.2; omega) hst
    have F0 := stF_of (s := s) (wanted := 0) hln hst hld (by omega) (by omega) (plain_of (by decide)).2 (plain_of (by decide)).1
    have hge := F0.ge
    have hle2 := F0.le
    have hslf := F0.self
    have HiS := Lib.hid (fun W => implStretchedCord_yes ln st (s : Int) cw ld hok hpl wld W)
    have HsS := Lib.hid (fun W => specStretchedCord_yes ln st (s : Int) cw ld hok hpl wld W)
    have HiZ := Lib.hid (fun W => implStretchedCord_yes ln st (s : Int) cw 0 hok (tone_part (by decide)) (low_wf (by decide)) W)
    rw [hz1] at HiZ
    have HiM := Lib.hid (fun W => implStretchedCord_yes ln st (s : Int) cw 1065353216 hok (tone_part (by decide)) (low_wf (by decide)) W)
    have HVC : Hid (∀ W, Calls Try.prog 11 #[.agg (cordC ln st (s : Int))] W fun e w' => e = .returned (.bool true) ∧ Below W.heap.size W w') := Lib.hid (fun W => by have := ValidCord_any ln st (s : Int) W; rw [hok] at this; exact this)
    have HFN := Lib.hid (fun wanted (hp : plainB wanted = true) (hw : (Lit.float .f32 wanted).wf = true) => stF_of (s := s) (wanted := wanted) hln hst hld (by omega) (by omega) hw hp)
    have HiF := Lib.hid (fun wanted (hp : plainB wanted = true) (hw : (Lit.float .f32 wanted).wf = true) W => implStopFor_y ln st s cw ld wanted hok hpl wld hp hw W)
    have HsF := Lib.hid (fun wanted (hp : plainB wanted = true) (hw : (Lit.float .f32 wanted).wf = true) W => specStopFor_y ln st s cw ld wanted hok hpl wld hp hw W)
    have HiP : Hid (∀ (k : Nat), k ≤ s → ∀ W, Calls Try.prog 15 #[.agg (cordC ln st (s : Int)), .float .f32 ld, .int .i64 (k : Int)] W fun e w' => e = .returned (.tuple #[.float .f32 (plc ln st ld s k), .int .i64 0]) ∧ Below W.heap.size W w') := Lib.hid (fun k hk W => implPlaceOf_y ln st (s : Int) cw ld (k : Int) hok hpl wld (by omega) (by omega) W)
    have HsP : Hid (∀ (k : Nat), k ≤ s → ∀ W, Calls Try.prog 16 #[.agg (cordC ln st (s : Int)), .float .f32 ld, .int .i64 (k : Int)] W fun e w' => e = .returned (.tuple #[.float .f32 (plc ln st ld s k), .int .i64 0]) ∧ Below W.heap.size W w') := Lib.hid (fun k hk W => specPlaceOf_y ln st (s : Int) cw ld (k : Int) hok hpl wld (by omega) (by omega) W)
    have HiB : Hid (∀ W, Calls Try.prog 15 #[.agg (cordC ln st (s : Int)), .float .f32 ld, .int .i64 ((s : Int) + 1)] W fun e w' => e = .returned (.tuple #[.float .f32 0, .int .i64 2]) ∧ Below W.heap.size W w') := Lib.hid (fun W => by have := implPlaceOf_b ln st (s : Int) cw ld ((s : Int) + 1) hpl (by omega) (by omega) W; rw [hok] at this; exact this)
    clear F0 hz1 hok cw hpl wld hln hst hld HC1
    generalize strB ln st ld = due at *
    generalize strB ln st 1065353216 = mst at *
    go_upto_region 6 with (first | (refine wpList_load_part rfl 27 _ rfl b0 0 3 rfl 27 (cordC ln st (s : Int)) (0, 0) _ H0.out Try.underlying27 rfl info_cord (cord_fits _ _ _) _ (cord_all _ _ _) ?_) | (go_at_call 8; refine (HiS.out _).mono ?_; rintro e W1 ⟨rfl, hb1⟩; replace H0 := Lib.hid (below_row hb1 H0.out); replace hb := hb.trans (hb1.mono hb.size); clear hb1))
    clear HiS
    go_upto_region 7 with (first | (refine wpList_load_part rfl 27 _ rfl b0 0 3 rfl 27 (cordC ln st (s : Int)) (0, 0) _ H0.out Try.underlying27 rfl info_cord (cord_fits _ _ _) _ (cord_all _ _ _) ?_) | (go_at_call 9; refine (HsS.out _).mono ?_; rintro e W1 ⟨rfl, hb1⟩; replace H0 := Lib.hid (below_row hb1 H0.out); replace hb := hb.trans (hb1.mono hb.size); clear hb1))
    clear HsS
    go_upto_region 8 with (first | (refine wpList_load_part rfl 27 _ rfl b0 0 3 rfl 27 (cordC ln st (s : Int)) (0, 0) _ H0.out Try.underlying27 rfl info_cord (cord_fits _ _ _) _ (cord_all _ _ _) ?_) | (go_at_call 8; refine (HiZ.out _).mono ?_; rintro e W1 ⟨rfl, hb1⟩; replace H0 := Lib.hid (below_row hb1 H0.out); replace hb := hb.trans (hb1.mono hb.size); clear hb1))
    clear HiZ
    go_upto_region 9 with (first | (refine wpList_load_part rfl 27 _ rfl b0 0 3 rfl 27 (cordC ln st (s : Int)) (0, 0) _ H0.out Try.underlying27 rfl info_cord (cord_fits _ _ _) _ (cord_all _ _ _) ?_) | (go_at_call 8; refine (HiM.out _).mono ?_; rintro e W1 ⟨rfl, hb1⟩; replace H0 := Lib.hid (below_row hb1 H0.out); replace hb := hb.trans (hb1.mono hb.size); clear hb1))
    clear HiM
    obtain ⟨q0, -, -⟩ := cord_cells H0.out
    go_upto_region 11 with (first | (go_at_call 10; refine (spSame_c _ _).mono ?_; rintro e w' ⟨rfl, rfl⟩) | (refine wpList_load_partG 27 _ rfl b0 0 3 rfl rfl 27 (cordC ln st (s : Int)) (0, 0) _ H0.out Try.underlying27 rfl info_cord (cord_fits _ _ _) _ (cord_all _ _ _) ?_) | (go_at_call 11; refine (HVC.out _).mono ?_; rintro e W1 ⟨rfl, hb1⟩; replace H0 := Lib.hid (below_row hb1 H0.out); replace hb := hb.trans (hb1.mono hb.size); clear hb1))
    clear HVC q0 hge hle2 hslf
    go_upto_region 12 with (go_at_call 7; refine (A2Part_any n0 cap a _ (bytes_below HC0.out hb hb.size)).mono ?_; rintro e W1 ⟨⟨zq, rfl, hzq⟩, hb1⟩; replace H0 := Lib.hid (below_row hb1 H0.out); replace hb := hb.trans (hb1.mono hb.size); clear hb1; have hwf := want_facts hzq; have rm : ∀ T w, (binOp .mul T (.float .f32 1115684864) (.float .f32 zq)).run Try.prog w = .ok (.float .f32 (fmul 1115684864 zq)) w := fun T w => run_float_arith w .mul T .f32 _ _ _ hwf.1)
    have hwp := plain_of hwf.2
    clear rm hwf hzq HC0
    generalize fmul 1115684864 zq = wt at *
    have hF := HFN.out wt hwp.1 hwp.2
    have HiF2 := Lib.hid (fun W => HiF.out wt hwp.1 hwp.2 W)
    have HsF2 := Lib.hid (fun W => HsF.out wt hwp.1 hwp.2 W)
    clear HFN HiF HsF hwp
    generalize bestS ln st ld s wt = m at *
    go_upto_region 13 with (first | (refine wpList_load_part rfl 27 _ rfl b0 0 3 rfl 27 (cordC ln st (s : Int)) (0, 0) _ H0.out Try.underlying27 rfl info_cord (cord_fits _ _ _) _ (cord_all _ _ _) ?_) | (go_at_call 12; refine (HiF2.out _).mono ?_; rintro e W1 ⟨rfl, hb1⟩; replace H0 := Lib.hid (below_row hb1 H0.out); replace hb := hb.trans (hb1.mono hb.size); clear hb1))
    clear HiF2
    go_upto_region 14 with (first | (refine wpList_load_part rfl 27 _ rfl b0 0 3 rfl 27 (cordC ln st (s : Int)) (0, 0) _ H0.out Try.underlying27 rfl info_cord (cord_fits _ _ _) _ (cord_all _ _ _) ?_) | (go_at_call 13; refine (HsF2.out _).mono ?_; rintro e W1 ⟨rfl, hb1⟩; replace H0 := Lib.hid (below_row hb1 H0.out); replace hb := hb.trans (hb1.mono hb.size); clear hb1))
    clear HsF2
    go_upto_region 16 with (go_at_call 10; refine (spSame_c _ _).mono ?_; rintro e w' ⟨rfl, rfl⟩)
    have rs : ∀ T w, (binOp .sub T (.float .f32 (plc ln st ld s m)) (.float .f32 wt)).run Try.prog w = .ok (.float .f32 (fsub (plc ln st ld s m) wt)) w := fun T w => run_float_arith w .sub T .f32 _ _ _ (hF.sub m hF.best).1
    have HZM : Hid (∀ w, Calls Try.prog 14 #[.float .f32 (fsub (plc ln st ld s m) wt)] w fun e w' => e = .returned (.float .f32 (offC ln st ld s wt m)) ∧ w = w') := Lib.hid (fun w => A2Size_c _ (hF.sub m hF.best).2 w)
    go_upto_region 19 with (go_at_call 14; refine (HZM.out _).mono ?_; rintro e w' ⟨rfl, rfl⟩)
    clear rs HZM
    have HF := Lib.hid hF
    clear hF
    go_loopw [22, 24] (fun bf i wr => ∃ k : Nat, k ≤ s + 1 ∧ bf = .float .f32 (befS ln st ld s k) ∧ i = .int .i64 (k : Int) ∧ wr.heap[b0]? = some (.cells (cordC ln st (s : Int)) 27 (0, 0)) ∧ Below w.heap.size w wr) (fun _ i _ => s + 1 - (intOf i).toNat)
    case atStart => exact ⟨0, Nat.zero_le _, rfl, rfl, H0.out, hb⟩
    case round =>
      clear H0 hb
      obtain ⟨k, hk, rfl, rfl, h0, hb⟩ := hrel
      have H0 := Lib.hid h0
      obtain ⟨-, -, q2⟩ := cord_cells h0
      clear h0
      have hws : IntKind.i64.wrap (s : Int) = (s : Int) := by rw [IntWalk.i64_in _ (by omega)]
      by_cases hlt : k ≤ s
      · have z1 : (k : Int) ≤ (s : Int) := by omega
        have hw2 : IntKind.i64.wrap ((k : Int) + 1) = (k : Int) + 1 := by rw [IntWalk.i64_in _ (by omega)]
        have HIk := Lib.hid (HiP.out k hlt)
        have HSk := Lib.hid (HsP.out k hlt)
        have hbn : befS ln st ld s (k + 1) = plc ln st ld s k := rfl
        have rs : ∀ T w, (binOp .sub T (.float .f32 (plc ln st ld s k)) (.float .f32 wt)).run Try.prog w = .ok (.float .f32 (fsub (plc ln st ld s k) wt)) w := fun T w => run_float_arith w .sub T .f32 _ _ _ (HF.out.sub k hlt).1
        have HZk : Hid (∀ w, Calls Try.prog 14 #[.float .f32 (fsub (plc ln st ld s k) wt)] w fun e w' => e = .returned (.float .f32 (offC ln st ld s wt k)) ∧ w = w') := Lib.hid (fun w => A2Size_c _ (HF.out.sub k hlt).2 w)
        have hup := HF.out.up k hlt
        have hes := HF.out.eqs k hlt
        have hzz : k = 0 → FloatKind.f32.format.order (plc ln st ld s k) 0 = some .eq := fun e => by
          have h1 := hes
          rw [e, HF.out.zero] at h1
          rw [e, HF.out.zero]
          exact h1
        have hkm : k = m → FloatKind.f32.format.order (plc ln st ld s k) (plc ln st ld s m) = some .eq := fun e => by rw [← e]; exact hes
        have HN := Lib.hid (HF.out.near k hlt)
        have hsl := HF.out.slf
        have hknm : FloatKind.f32.format.order (offC ln st ld s wt k) (offC ln st ld s wt m) = some .gt → k ≠ m := fun h e => by
          rw [e, hsl] at h
          cases h
        clear hsl hes
        generalize plc ln st ld s k = pk at *
        generalize plc ln st ld s m = pm at *
        generalize offC ln st ld s wt k = dk at *
        generalize offC ln st ld s wt m = dm at *
        generalize befS ln st ld s k = bk at *
        go_upto_region 24 with (first | (refine wpList_load_part rfl 27 _ rfl b0 0 3 rfl 27 (cordC ln st (s : Int)) (0, 0) _ H0.out Try.underlying27 rfl info_cord (cord_fits _ _ _) _ (cord_all _ _ _) ?_) | (go_at_call 15; refine (HIk.out _).mono ?_; rintro e W1 ⟨rfl, hb1⟩; replace H0 := Lib.hid (below_row hb1 H0.out); replace hb := hb.trans (hb1.mono hb.size); clear hb1) | (go_at_call 16; refine (HSk.out _).mono ?_; rintro e W1 ⟨rfl, hb1⟩; replace H0 := Lib.hid (below_row hb1 H0.out); replace hb := hb.trans (hb1.mono hb.size); clear hb1) | (go_at_call 14; refine (HZk.out _).mono ?_; rintro e w' ⟨rfl, rfl⟩))
        clear HIk HSk rs HZk q2 hws
        go_cut [223] (fun c wx => c = .bool false ∧ wx.heap[b0]? = some (.cells (cordC ln st (s : Int)) 27 (0, 0)) ∧ Below w.heap.size w wx)
        case first =>
          rcases HN.out with ⟨ho, hm⟩ | ho
          · have z2 : ¬ ((k : Int) < (m : Int)) := by omega
            by_cases hkq : k = m
            · have hpm := hkm hkq
              have e1 : ((k : Int) == (m : Int)) = true := beq_iff_eq.2 (by omega)
              by_cases hk0 : k = 0
              · have e0 : ((k : Int) == 0) = true := beq_iff_eq.2 (by omega)
                have hz0 := hzz hk0
                clear hk0 hkq
                as_aux_lemma =>
                  go_wp2_with (go_at_call 10; refine (spSame_c _ _).mono ?_; rintro e w' ⟨rfl, rfl⟩)
                  go_meet
                  case rel => exact ⟨by first | (simp; done) | (simp; omega), H0.out, hb⟩
              · have e0 : ((k : Int) == 0) = false := beq_eq_false_iff_ne.2 (by omega)
                clear hk0 hkq
                as_aux_lemma =>
                  go_wp2_with (go_at_call 10; refine (spSame_c _ _).mono ?_; rintro e w' ⟨rfl, rfl⟩)
                  go_meet
                  case rel => exact ⟨by first | (simp; done) | (simp; omega), H0.out, hb⟩
            · have e1 : ((k : Int) == (m : Int)) = false := beq_eq_false_iff_ne.2 (by omega)
              by_cases hk0 : k = 0
              · have e0 : ((k : Int) == 0) = true := beq_iff_eq.2 (by omega)
                have hz0 := hzz hk0
                clear hk0 hkq
                as_aux_lemma =>
                  go_wp2_with (go_at_call 10; refine (spSame_c _ _).mono ?_; rintro e w' ⟨rfl, rfl⟩)
                  go_meet
                  case rel => exact ⟨by first | (simp; done) | (simp; omega), H0.out, hb⟩
              · have e0 : ((k : Int) == 0) = false := beq_eq_false_iff_ne.2 (by omega)
                clear hk0 hkq
                as_aux_lemma =>
                  go_wp2_with (go_at_call 10; refine (spSame_c _ _).mono ?_; rintro e w' ⟨rfl, rfl⟩)
                  go_meet
                  case rel => exact ⟨by first | (simp; done) | (simp; omega), H0.out, hb⟩
          · have hkq := hknm ho
            have e1 : ((k : Int) == (m : Int)) = false := beq_eq_false_iff_ne.2 (by omega)
            by_cases hk0 : k = 0
            · have e0 : ((k : Int) == 0) = true := beq_iff_eq.2 (by omega)
              have hz0 := hzz hk0
              clear hk0 hkq
              as_aux_lemma =>
                go_wp2_with (go_at_call 10; refine (spSame_c _ _).mono ?_; rintro e w' ⟨rfl, rfl⟩)
                go_meet
                case rel => exact ⟨by first | (simp; done) | (simp; omega), H0.out, hb⟩
            · have e0 : ((k : Int) == 0) = false := beq_eq_false_iff_ne.2 (by omega)
              clear hk0 hkq
              as_aux_lemma =>
                go_wp2_with (go_at_call 10; refine (spSame_c _ _).mono ?_; rintro e w' ⟨rfl, rfl⟩)
                go_meet
                case rel => exact ⟨by first | (simp; done) | (simp; omega), H0.out, hb⟩
        case rest =>
          clear H0 hb HN hup hzz hkm hknm
          obtain ⟨rfl, h0, hb⟩ := hcut
          have H0 := Lib.hid h0
          clear h0
          go_wp2
          go_roundw
          case rel => exact ⟨k + 1, by omega, by rw [hbn], by first | rfl | go_num, H0.out, hb⟩
          case measure => simp [intOf]; omega
      · obtain rfl : k = s + 1 := by omega
        have z1 : decide (((s + 1 : Nat) : Int) ≤ (s : Int)) = false := decide_eq_false (by omega)
        have hw2 : IntKind.i64.wrap ((s : Int) + 1) = (s : Int) + 1 := by rw [IntWalk.i64_in _ (by omega)]
        go_wp2_with (first | (refine wpList_load_part rfl 27 _ rfl b0 0 3 rfl 27 (cordC ln st (s : Int)) (0, 0) _ H0.out Try.underlying27 rfl info_cord (cord_fits _ _ _) _ (cord_all _ _ _) ?_) | (go_at_call 15; refine (HiB.out _).mono ?_; rintro e W1 ⟨rfl, hb1⟩; replace H0 := Lib.hid (below_row hb1 H0.out); replace hb := hb.trans (hb1.mono hb.size); clear hb1))
        go_ret
        exact ⟨rfl, hb⟩

end Go.Proofs.Ytddnfbpgldchcaa
