/-
  FallN, WinN, Win, WithBS, WindowI, PassWindow, AwA, ShA, ShadeN, AwOk, ShF, DyA, DyL, PnA, PnV, DyO, CdD, ValidPlan, CkP, DyM, DyP, Tilts, List, RoundL.
-/
import Derived.Test.YtddnfbpgldchcaaGreatDoorMt1
import Derived.Test.YtddnfbpgldchcaaGreatDoorPasser
import Derived.Test.YtddnfbpgldchcaaGreatDoorLaw
import Derived.Test.YtddnfbpgldchcaaGreatDoorAgg
import Derived.Test.YtddnfbpgldchcaaGreatDoorRow
import Derived.Deep.Cut
import Derived.Deep.DeepCutAuto
import Derived.Test.YtddnfbpgldchcaaGreatDoorRows
import Derived.WalkSpells
import Derived.WalkLawsBesides
import Derived.Lib.Hide
import Derived.Laws.Tables
import Derived.Test.YtddnfbpgldchcaaGreatDoorBox
import Derived.Test.YtddnfbpgldchcaaGreatDoorTake
import Derived.Great.BuildSlice
import Derived.Test.YtddnfbpgldchcaaGreatDoorSgn
import Derived.Test.YtddnfbpgldchcaaGreatDoorBlind
import Derived.Test.YtddnfbpgldchcaaGreatDoorBfn
import Derived.Test.YtddnfbpgldchcaaGreatDoorTilted
import Derived.Test.YtddnfbpgldchcaaGreatDoorBok
import Derived.Test.YtddnfbpgldchcaaGreatDoorBlk
import Derived.RangeFuncFrom
import Derived.RangeFuncWrites
import Derived.Test.YtddnfbpgldchcaaGreatDoorAsE
import Derived.Tactics2
import Derived.Defers
import Derived.Recover
import Derived.Laws.Pointers
import Derived.Stop.Asserts
import Derived.RangeFuncNested
import Derived.RangeFuncBound
import Derived.RangeFuncCalls
import Derived.RangeFuncLeaves
import Derived.Shelf.Abstract
import Derived.Shelf.RegionOpen
import Derived.OwnWalkIn
import Derived.TacticsInMore
import Derived.LoopNIn
import Derived.LoopIn
import Derived.Sort.AtCallIn

namespace Go.Proofs.YtddnfbpgldchcaaGreatDoor

open Go

theorem word_true (k : Nat) : Ieee.single.word true k = 2147483648 + Ieee.single.word false k := by
  unfold Ieee.Format.word
  have hw : Ieee.single.signWeight = 2147483648 := by decide
  simp [hw]

theorem nearest_true (m : Nat) (e : Int) : Ieee.single.nearest true m e = 2147483648 + Ieee.single.nearest false m e := by
  unfold Ieee.Format.nearest
  split
  · exact word_true _
  · exact word_true _

theorem cosB_pos_nat : ∀ n : Nat, n < 65 → cosB (n : Int) ≤ 1065353216 := by decide +kernel

theorem sineB_sgn_nat : ∀ n : Nat, n < 256 → sineB (n : Int) ≤ 1065353216 ∨ (2147483648 ≤ sineB (n : Int) ∧ sineB (n : Int) ≤ 2147483648 + 1065353216) := by decide +kernel

theorem cosB_sgn (a : Int) : cosB a ≤ 1065353216 ∨ (2147483648 ≤ cosB a ∧ cosB a ≤ 2147483648 + 1065353216) := by
  unfold cosB
  have h0 := angB_lo (a + 64)
  have h1 := angB_hi (a + 64)
  generalize angB (a + 64) = n at *
  obtain ⟨m, rfl⟩ := Int.eq_ofNat_of_zero_le h0
  exact sineB_sgn_nat m (by omega)

theorem read_neg_same {x : Nat} (hx : x < 2139095040) {m : Nat} {e : Int} (h : Ieee.single.read x = .number false m e) : Ieee.single.read (2147483648 + x) = .number true m e := by
  unfold Ieee.Format.read at h ⊢
  have hw : Ieee.single.signWeight = 2147483648 := by decide
  have hbi : Ieee.single.binade = 8388608 := by decide
  have hir : Ieee.single.infRung = 2139095040 := by decide
  simp only [hw, hbi, hir] at h ⊢
  have e1 : x % 2147483648 = x := Nat.mod_eq_of_lt (by omega)
  have e2 : (2147483648 + x) % 2147483648 = x := by omega
  rw [e1] at h
  rw [e2]
  have e3 : ¬ (2147483648 ≤ x) := by omega
  have e4 : 2147483648 ≤ 2147483648 + x := by omega
  by_cases h1 : x < 8388608
  · simp_all
    omega
  · have h2 : x < 2139095040 := hx
    simp_all
    rw [if_neg (by omega)]
    have h5 : (x / 2147483648 + 1) % 2 = 1 := by omega
    rw [h5]
    rfl

theorem fall_num (x d : Int) (h0 : 0 < x) (h1 : x ≤ 64) : num32 (fallB x d) = true := by
  unfold fallB
  rw [if_pos h0]
  have hl : num32 (fmul (cosB x) (cosB d)) = true := by
    obtain ⟨n, rfl⟩ := Int.eq_ofNat_of_zero_le (by omega : 0 ≤ x)
    have ha := cosB_pos_nat n (by omega)
    generalize cosB (n : Int) = a at *
    rcases cosB_sgn d with hb | ⟨hb0, hb1⟩
    · exact num_of_isNum (.inl (Nat.lt_of_le_of_lt (mul_le_one (x := a) (y := cosB d) (by omega) hb) (by omega)))
    · obtain ⟨b, hb⟩ : ∃ b, cosB d = 2147483648 + b := ⟨cosB d - 2147483648, by omega⟩
      rw [hb]
      have hbl : b ≤ 1065353216 := by omega
      obtain ⟨m, i, hm, _⟩ := read_pos (x := a) (by omega)
      obtain ⟨k, j, hk, _⟩ := read_pos (x := b) (by omega)
      have hk' := read_neg_same (x := b) (by omega) hk
      have e1 : fmul a b = Ieee.single.write (.number (false ^^ false) (m * k) (-149 + (i : Int) + (-149 + (j : Int)))) := by
        have h : Ieee.single.mul a b = some (Ieee.single.write (.number (false ^^ false) (m * k) (-149 + (i : Int) + (-149 + (j : Int))))) := by
          unfold Ieee.Format.mul
          rw [hm, hk]; rfl
        unfold fmul; rw [h]; rfl
      have e2 : fmul a (2147483648 + b) = Ieee.single.write (.number (false ^^ true) (m * k) (-149 + (i : Int) + (-149 + (j : Int)))) := by
        have h : Ieee.single.mul a (2147483648 + b) = some (Ieee.single.write (.number (false ^^ true) (m * k) (-149 + (i : Int) + (-149 + (j : Int))))) := by
          unfold Ieee.Format.mul
          rw [hm, hk']; rfl
        unfold fmul; rw [h]; rfl
      have e3 : fmul a (2147483648 + b) = 2147483648 + fmul a b := by
        rw [e1, e2]
        exact nearest_true _ _
      have h2 := mul_le_one (x := a) (y := b) (by omega) hbl
      rw [e3]
      exact num_of_isNum (.inr ⟨by omega, by omega⟩)
  unfold litB
  split
  · exact hl
  · decide

theorem fmul_zero {a : Nat} (ha : a < 2139095040) : fmul a 0 = 0 := rnd_exact (mul_rnd ha (y := 0) (by decide)).2 (by decide) (Nat.two_pow_pos _) (by rw [rv_zero]; simp)

theorem zero_fmul {a : Nat} (ha : a < 2139095040) : fmul 0 a = 0 := rnd_exact (mul_rnd (x := 0) (by decide) ha).2 (by decide) (Nat.two_pow_pos _) (by rw [rv_zero]; simp)

theorem mul_negR {a b : Nat} (ha : a < 2139095040) (hb : b < 2139095040) : fmul a (2147483648 + b) = 2147483648 + fmul a b := by
  obtain ⟨m, i, hm, _⟩ := read_pos (x := a) ha
  obtain ⟨k, j, hk, _⟩ := read_pos (x := b) hb
  have hk' := read_neg_same (x := b) hb hk
  have e1 : fmul a b = Ieee.single.write (.number (false ^^ false) (m * k) (-149 + (i : Int) + (-149 + (j : Int)))) := by
    have h : Ieee.single.mul a b = some (Ieee.single.write (.number (false ^^ false) (m * k) (-149 + (i : Int) + (-149 + (j : Int))))) := by
      unfold Ieee.Format.mul
      rw [hm, hk]; rfl
    unfold fmul; rw [h]; rfl
  have e2 : fmul a (2147483648 + b) = Ieee.single.write (.number (false ^^ true) (m * k) (-149 + (i : Int) + (-149 + (j : Int)))) := by
    have h : Ieee.single.mul a (2147483648 + b) = some (Ieee.single.write (.number (false ^^ true) (m * k) (-149 + (i : Int) + (-149 + (j : Int))))) := by
      unfold Ieee.Format.mul
      rw [hm, hk']; rfl
    unfold fmul; rw [h]; rfl
  rw [e1, e2]
  exact nearest_true _ _

theorem litB_word {p : Nat} (h0 : 0 < p) (h1 : p < 2139095040) : litB p = p := by
  unfold litB
  rw [order_pos h1 (by decide), if_pos]
  rw [Nat.compare_eq_gt.2 h0]

theorem litB_zero : litB 0 = 0 := by decide +kernel

theorem litB_under {r : Nat} (h : r < 2139095040) : litB (2147483648 + r) = 0 := by
  unfold litB
  rw [order_num (.inr ⟨by omega, by omega⟩) (.inl (by decide)), if_neg]
  intro h1
  injection h1 with h1
  have h2 := Int.compare_eq_gt.1 h1
  have h3 := sv_neg_le r
  have h4 : sv 0 = 0 := rfl
  omega

theorem sine_step_nat : ∀ n : Nat, n < 256 → sineB (n : Int) = 0 ∨ (1019794704 ≤ sineB (n : Int) ∧ sineB (n : Int) ≤ 1065353216) ∨ (2147483648 ≤ sineB (n : Int) ∧ sineB (n : Int) ≤ 2147483648 + 1065353216) := by decide +kernel

theorem cos_step (a : Int) : cosB a = 0 ∨ (1019794704 ≤ cosB a ∧ cosB a ≤ 1065353216) ∨ (2147483648 ≤ cosB a ∧ cosB a ≤ 2147483648 + 1065353216) := by
  unfold cosB
  have h0 := angB_lo (a + 64)
  have h1 := angB_hi (a + 64)
  generalize angB (a + 64) = n at *
  obtain ⟨m, rfl⟩ := Int.eq_ofNat_of_zero_le h0
  exact sine_step_nat m (by omega)

theorem least_light : fmul 1019794704 1019794704 = 975015322 := by decide +kernel

/-- Light on a window is 0, or not next to it, and at most 1. -/
theorem fall_rng (x d : Int) (h0 : 0 < x) (h1 : x ≤ 64) : fallB x d = 0 ∨ (975015322 ≤ fallB x d ∧ fallB x d ≤ 1065353216) := by
  unfold fallB
  rw [if_pos h0]
  have ha := cos_step x
  have hc : cosB x ≤ 1065353216 := by
    obtain ⟨n, rfl⟩ := Int.eq_ofNat_of_zero_le (by omega : 0 ≤ x)
    exact cosB_pos_nat n (by omega)
  have hb := cos_step d
  generalize cosB x = a at *
  generalize cosB d = b at *
  rcases hb with rfl | ⟨b0, b1⟩ | ⟨b0, b1⟩
  · rw [fmul_zero (by omega), litB_zero]; exact .inl rfl
  · rcases ha with rfl | ⟨a0, a1⟩ | ⟨a0, a1⟩
    · rw [zero_fmul (by omega), litB_zero]; exact .inl rfl
    · have m1 := mul_mono (x := 1019794704) (X := a) (y := 1019794704) (Y := b) (by omega) (by omega) a0 b0
      have m2 := mul_le_one (x := a) (y := b) (by omega) b1
      rw [least_light] at m1
      rw [litB_word (by omega) (by omega)]
      exact .inr ⟨m1, by omega⟩
    · omega
  · obtain ⟨c, rfl⟩ : ∃ c, b = 2147483648 + c := ⟨b - 2147483648, by omega⟩
    have m2 := mul_le_one (x := a) (y := c) (by omega) (by omega)
    rw [mul_negR (by omega) (by omega), litB_under (by omega)]
    exact .inl rfl

end Go.Proofs.YtddnfbpgldchcaaGreatDoor

namespace Go.Proofs.YtddnfbpgldchcaaGreatDoor

open Go.RowKit

/-- The light into a window. -/
def winB (wd gp : Nat) (t : Int) (sh : Nat) (hs ts : List Int) (hour facing : Int) : Nat := if 0 < atH hs hour then fmul (fallOf hs ts hour facing) (pasB wd gp t sh (atH hs hour)) else 0

theorem win_ok (wd gp : Nat) (t : Int) {sh : Nat} (hs : sh ≤ 1065353216 ∨ sh = 2147483648) (x d : Int) (h0 : 0 < x) (h1 : x ≤ 64) :
    floatBits .mul .f32 (fallB x d) (pasB wd gp t sh x) = some (fmul (fallB x d) (pasB wd gp t sh x)) ∧ pos32 (fmul (fallB x d) (pasB wd gp t sh x)) = true := by
  have hn := fall_num x d h0 h1
  have hp := fallB_pos x d
  have hq := (pas_facts wd gp t hs x).2.2.2.2
  generalize fallB x d = F at *
  generalize pasB wd gp t sh x = P at *
  obtain ⟨k, j, hk, _⟩ := read_pos (x := P) hq
  obtain ⟨s, m, e, hr⟩ := num32_get hn
  have hs : s = false := by
    unfold pos32 at hp
    rw [hr] at hp
    simpa using hp
  subst hs
  have h : Ieee.single.mul F P = some (Ieee.single.write (.number (false ^^ false) (m * k) (e + (-149 + (j : Int))))) := by
    unfold Ieee.Format.mul
    rw [hr, hk]; rfl
  have e1 : fmul F P = Ieee.single.write (.number (false ^^ false) (m * k) (e + (-149 + (j : Int)))) := by unfold fmul; rw [h]; rfl
  rw [e1]
  exact ⟨h, pos_nearest _ _⟩

theorem winB_pos (wd gp : Nat) (t : Int) {sh : Nat} (hsh : sh ≤ 1065353216 ∨ sh = 2147483648) (hs ts : List Int) (hour facing : Int) (h1 : atH hs hour ≤ 64) : pos32 (winB wd gp t sh hs ts hour facing) = true := by
  unfold winB
  split
  · rename_i h0
    exact (win_ok wd gp t hsh _ _ h0 h1).2
  · decide

end Go.Proofs.YtddnfbpgldchcaaGreatDoor

namespace Go.Proofs.YtddnfbpgldchcaaGreatDoor

open Go.RowKit

attribute [local go_sem] run_store_f

set_option maxRecDepth 100000 in
set_option maxHeartbeats 1000000 in
theorem windowAt_up (n : Int) (wd gp : Nat) (t : Int) (sh : Nat) (hs ts : List Int) (hh : hs.length = 24) (ht : ts.length = 24) (ok : BlOk n wd gp t sh) (hour facing : Int) (hr0 : 0 ≤ hour) (hr1 : hour < 24) (hf0 : 0 ≤ facing) (hf1 : facing ≤ 255) (hx1 : atH hs hour ≤ 64) (hy0 : 0 ≤ atH ts hour) (hy1 : atH ts hour ≤ 255) (hpos : 0 < atH hs hour) (p1 p2 : Nat) (w : World) (c1 : w.heap[p1]? = some (.cells (blindC n wd gp t sh) 32 (0, 0))) (c2 : w.heap[p2]? = some (.cells #[.float .f32 (opnB wd gp t 1)] 30 (0, 0))) :
    Calls Tryz.prog 51 #[.func (.func 112) #[] #[.pointer (some ⟨p1, 0, none⟩), .pointer (some ⟨p2, 0, none⟩)], .agg (sunC hs ts), .int .i64 hour, .int .i64 facing] w fun e w' => e = .returned (.float .f32 (fmul (fallOf hs ts hour facing) (pasB wd gp t sh (atH hs hour)))) ∧ Below w.heap.size w w' := by
  have Hh := Lib.hid hh
  have Ht := Lib.hid ht
  have Hup := Lib.hid (upAt_any hs ts hh hour hr0 hr1)
  have HF := Lib.hid (fallAt_any hs ts hh ht hour facing hr0 hr1 hf0 hf1 hx1 hy0 hy1)
  have HP := Lib.hid (fun w c1 c2 => passes_call n wd gp t sh ok p1 p2 (atH hs hour) (by omega) hx1 w c1 c2)
  have hm : floatBits .mul .f32 (fallOf hs ts hour facing) (pasB wd gp t sh (atH hs hour)) = some (fmul (fallOf hs ts hour facing) (pasB wd gp t sh (atH hs hour))) := (win_ok wd gp t ok.2.2.2.2.2.2.2.2 _ _ hpos hx1).1
  have r : ∀ T w, (binOp .mul T (.float .f32 (fallOf hs ts hour facing)) (.float .f32 (pasB wd gp t sh (atH hs hour)))).run Tryz.prog w = .ok (.float .f32 (fmul (fallOf hs ts hour facing) (pasB wd gp t sh (atH hs hour)))) w := fun T w => run_float_arith w .mul T .f32 _ _ _ hm
  have C1 := Lib.hid c1
  have C2 := Lib.hid c2
  have hw64 : IntKind.i64.wrap (atH hs hour) = atH hs hour := i64_small _ (by omega) (by omega)
  have hd : decide (0 < atH hs hour) = true := decide_eq_true hpos
  rw [hd] at Hup
  clear ok hh ht hm hd c1 c2
  generalize fallOf hs ts hour facing = F at *
  obtain ⟨k, rfl⟩ := Int.eq_ofNat_of_zero_le hr0
  have hk : k < 24 := by omega
  have ea : hs[k]?.getD 0 = atH hs (k : Int) := by unfold atH; rw [Int.toNat_natCast]
  generalize pasB wd gp t sh (atH hs (k : Int)) = P at *
  generalize atH hs (k : Int) = x at *
  have Hx := Lib.hid ea
  clear ea
  go_enter Tryz.func51, Tryz.ntmps51
  go_upto_region 1 with (fail)
  refine abs_world (fun W => W.heap[w.heap.size]? = some (.cells (sunC hs ts) 27 (0, 0)) ∧ W.heap[p1]? = some (.cells (blindC n wd gp t sh) 32 (0, 0)) ∧ W.heap[p2]? = some (.cells #[.float .f32 (opnB wd gp t 1)] 30 (0, 0)) ∧ Below w.heap.size w W) ⟨heap_alloc_new _ _, below_row ((Below.refl _ _).alloc (Nat.le_refl _) _) C1.out, below_row ((Below.refl _ _).alloc (Nat.le_refl _) _) C2.out, (Below.refl _ _).alloc (Nat.le_refl _) _⟩ ?_
  clear C1 C2
  rintro W ⟨h0, h1, h2, hb⟩
  have H0 := Lib.hid h0
  have C1 := Lib.hid h1
  have C2 := Lib.hid h2
  clear h0 h1 h2
  go_upto_region 3 with (first | (refine wpList_load_part rfl 27 _ rfl w.heap.size 0 48 rfl 27 (sunC hs ts) (0, 0) _ H0.out Tryz.underlying27 rfl info_sun (sun_fits _ _ Hh.out Ht.out) (sunC hs ts) (sun_all _ _ Hh.out Ht.out) ?_) | (go_at_call 105; refine (Hup.out _).mono ?_; rintro e W1 ⟨rfl, hb1⟩; replace H0 := Lib.hid (below_row hb1 H0.out); replace C1 := Lib.hid (below_row hb1 C1.out); replace C2 := Lib.hid (below_row hb1 C2.out); replace hb := hb.trans (hb1.mono hb.size); clear hb1))
  have d0 := H0.out
  have d1 := C1.out
  have d2 := C2.out
  clear H0 C1 C2
  refine wp_region_held_drew (S := (fun W => W.heap[w.heap.size]? = some (.cells (sunC hs ts) 27 (0, 0)) ∧ W.heap[p1]? = some (.cells (blindC n wd gp t sh) 32 (0, 0)) ∧ W.heap[p2]? = some (.cells #[.float .f32 (opnB wd gp t 1)] 30 (0, 0)) ∧ Below w.heap.size w W)) (by kernel_rfl) ⟨d0, d1, d2, hb.drew⟩ (fun hHeld => ?_)
  refine take_op (i := 0) (d := 13) (v := .agg (sunC hs ts)) rfl rfl (by kernel_rfl) (by kernel_rfl) (by kernel_rfl) (fun _ _ _ h => h) (yields_row (by rfl) 27 (.tmp 5) (by rfl) w.heap.size 0 48 (by rfl) 27 (sunC hs ts) (0, 0) _ (fun _ h => h.1) Tryz.underlying27 rfl info_sun (sun_fits _ _ Hh.out Ht.out) (sunC hs ts) (sun_all _ _ Hh.out Ht.out)) hHeld ?_
  simp only [List.setIfInBounds_toArray, List.set_cons_zero, List.set_cons_succ]
  refine take_op (i := 1) (d := 14) (v := ?_) rfl rfl (by kernel_rfl) (by kernel_rfl) (by kernel_rfl) (fun _ _ _ h => h) (Or.inl ⟨by rfl, ?hy1u1⟩) hHeld ?rest1u1
  case hy1u1 =>
    intro w' hS'
    go_simp
    try with_reducible rfl
  simp only [List.setIfInBounds_toArray, List.set_cons_zero, List.set_cons_succ]
  refine take_op (i := 2) (d := 15) (v := ?_) rfl rfl (by kernel_rfl) (by kernel_rfl) (by kernel_rfl) (fun _ _ _ h => h) (Or.inl ⟨by rfl, ?hy2u2⟩) hHeld ?rest2u2
  case hy2u2 =>
    intro w' hS'
    go_simp
    try with_reducible rfl
  simp only [List.setIfInBounds_toArray, List.set_cons_zero, List.set_cons_succ]
  refine take_op (i := 4) (d := 17) (v := ?_) rfl rfl (by kernel_rfl) (by kernel_rfl) (by kernel_rfl) (fun _ _ _ h => h) (Or.inl ⟨by rfl, ?hy4u3⟩) hHeld ?rest4u3
  case hy4u3 =>
    intro w' hS'
    go_simp
    try with_reducible rfl
  simp only [List.setIfInBounds_toArray, List.set_cons_zero, List.set_cons_succ]
  refine take_op (i := 5) (d := 18) (v := ?_) rfl rfl (by kernel_rfl) (by kernel_rfl) (by kernel_rfl) (fun _ _ _ h => h) (Or.inl ⟨by rfl, ?hy5u4⟩) hHeld ?rest5u4
  case hy5u4 =>
    intro w' hS'
    go_simp
    try with_reducible rfl
  simp only [List.setIfInBounds_toArray, List.set_cons_zero, List.set_cons_succ]
  refine take_op (i := 6) (d := 19) (v := ?_) rfl rfl (by kernel_rfl) (by kernel_rfl) (by kernel_rfl) (fun _ _ _ h => h) (Or.inl ⟨by rfl, ?hy6u5⟩) hHeld ?rest6u5
  case hy6u5 =>
    intro w' hS'
    go_simp
    try with_reducible rfl
  simp only [List.setIfInBounds_toArray, List.set_cons_zero, List.set_cons_succ]
  refine take_op (i := 7) (d := 20) (v := ?_) rfl rfl (by kernel_rfl) (by kernel_rfl) (by kernel_rfl) (fun _ _ _ h => h) (Or.inl ⟨by rfl, ?hy7u6⟩) hHeld ?rest7u6
  case hy7u6 =>
    intro w' hS'
    go_simp
    try with_reducible rfl
  simp only [List.setIfInBounds_toArray, List.set_cons_zero, List.set_cons_succ]
  refine take_op (i := 8) (d := 21) (v := ?_) rfl rfl (by kernel_rfl) (by kernel_rfl) (by kernel_rfl) (fun _ _ _ h => h) (Or.inl ⟨by rfl, ?hy8u7⟩) hHeld ?rest8u7
  case hy8u7 =>
    intro w' hS'
    obtain ⟨s1, _⟩ := hS'
    have qk := cell_sun_h s1 Hh.out k hk
    rw [Hx.out] at qk
    clear s1
    go_simp
    try with_reducible rfl
  simp only [List.setIfInBounds_toArray, List.set_cons_zero, List.set_cons_succ]
  refine take_op (i := 9) (d := 22) (v := ?_) rfl rfl (by kernel_rfl) (by kernel_rfl) (by kernel_rfl) (fun _ _ _ h => h) (Or.inl ⟨by rfl, ?hy9u8⟩) hHeld ?rest9u8
  case hy9u8 =>
    intro w' hS'
    go_simp
    try with_reducible rfl
  simp only [List.setIfInBounds_toArray, List.set_cons_zero, List.set_cons_succ]
  refine wpAnyH_ready (rs := [3]) (by kernel_rfl) (by simp) ?_
  refine AllReadyH.cons rfl (fun K hK => ?_) AllReadyH.nil
  go_simp
  refine (HF.out _).mono ?_
  rintro e W1 ⟨rfl, hb1⟩
  refine hK.out _ _ (⟨below_row hb1 hHeld.1, below_row hb1 hHeld.2.1, below_row hb1 hHeld.2.2.1, hHeld.2.2.2.trans (hb1.mono hHeld.2.2.2.size)⟩) (fun hHeld2 => ?_)
  clear hK K
  replace hHeld := hHeld2
  clear hHeld2
  refine wpAnyH_ready (rs := [10]) (by kernel_rfl) (by simp) ?_
  refine AllReadyH.cons rfl (fun K hK => ?_) AllReadyH.nil
  go_simp
  refine (HP.out _ hHeld.2.1 hHeld.2.2.1).mono ?_
  rintro e W3 ⟨rfl, hb3⟩
  refine hK.out _ _ (⟨below_row hb3 hHeld.1, below_row hb3 hHeld.2.1, below_row hb3 hHeld.2.2.1, hHeld.2.2.2.trans (hb3.mono hHeld.2.2.2.size)⟩) (fun hHeld2 => ?_)
  clear hK K
  replace hHeld := hHeld2
  clear hHeld2
  refine take_op (i := 11) (d := 24) (v := ?_) rfl rfl (by kernel_rfl) (by kernel_rfl) (by kernel_rfl) (fun _ _ _ h => h) (Or.inl ⟨by rfl, ?hy11u9⟩) hHeld ?rest11u9
  case hy11u9 =>
    intro w' hS'
    go_simp
    try with_reducible rfl
  simp only [List.setIfInBounds_toArray, List.set_cons_zero, List.set_cons_succ]
  refine take_op (i := 12) (d := 8) (v := ?_) rfl rfl (by kernel_rfl) (by kernel_rfl) (by kernel_rfl) (fun _ _ _ h => h) (Or.inl ⟨by rfl, ?hy12u10⟩) hHeld ?rest12u10
  case hy12u10 =>
    intro w' hS'
    go_simp
    try with_reducible rfl
  simp only [List.setIfInBounds_toArray, List.set_cons_zero, List.set_cons_succ]
  refine wpAnyH_done (by kernel_rfl) ?_ _
  have hbx := hHeld.2.2.2
  clear hHeld d0 d1 d2 hb
  go_wp2
  go_ret
  exact ⟨rfl, hbx⟩

set_option maxRecDepth 100000 in
set_option maxHeartbeats 1000000 in
theorem windowAt_no (n : Int) (wd gp : Nat) (t : Int) (sh : Nat) (hs ts : List Int) (hh : hs.length = 24) (ht : ts.length = 24) (hour facing : Int) (hr0 : 0 ≤ hour) (hr1 : hour < 24) (hpos : ¬ 0 < atH hs hour) (p1 p2 : Nat) (w : World) (c1 : w.heap[p1]? = some (.cells (blindC n wd gp t sh) 32 (0, 0))) (c2 : w.heap[p2]? = some (.cells #[.float .f32 (opnB wd gp t 1)] 30 (0, 0))) :
    Calls Tryz.prog 51 #[.func (.func 112) #[] #[.pointer (some ⟨p1, 0, none⟩), .pointer (some ⟨p2, 0, none⟩)], .agg (sunC hs ts), .int .i64 hour, .int .i64 facing] w fun e w' => e = .returned (.float .f32 0) ∧ Below w.heap.size w w' := by
  have Hh := Lib.hid hh
  have Ht := Lib.hid ht
  have Hup := Lib.hid (upAt_any hs ts hh hour hr0 hr1)
  have C1 := Lib.hid c1
  have C2 := Lib.hid c2
  have hd : decide (0 < atH hs hour) = false := decide_eq_false hpos
  rw [hd] at Hup
  clear hh ht hd c1 c2
  go_enter Tryz.func51, Tryz.ntmps51
  go_upto_region 1 with (fail)
  refine abs_world (fun W => W.heap[w.heap.size]? = some (.cells (sunC hs ts) 27 (0, 0)) ∧ W.heap[p1]? = some (.cells (blindC n wd gp t sh) 32 (0, 0)) ∧ W.heap[p2]? = some (.cells #[.float .f32 (opnB wd gp t 1)] 30 (0, 0)) ∧ Below w.heap.size w W) ⟨heap_alloc_new _ _, below_row ((Below.refl _ _).alloc (Nat.le_refl _) _) C1.out, below_row ((Below.refl _ _).alloc (Nat.le_refl _) _) C2.out, (Below.refl _ _).alloc (Nat.le_refl _) _⟩ ?_
  clear C1 C2
  rintro W ⟨h0, h1, h2, hb⟩
  have H0 := Lib.hid h0
  have C1 := Lib.hid h1
  have C2 := Lib.hid h2
  clear h0 h1 h2
  go_wp2_with (first | (refine wpList_load_part rfl 27 _ rfl w.heap.size 0 48 rfl 27 (sunC hs ts) (0, 0) _ H0.out Tryz.underlying27 rfl info_sun (sun_fits _ _ Hh.out Ht.out) (sunC hs ts) (sun_all _ _ Hh.out Ht.out) ?_) | (go_at_call 105; refine (Hup.out _).mono ?_; rintro e W1 ⟨rfl, hb1⟩; replace H0 := Lib.hid (below_row hb1 H0.out); replace C1 := Lib.hid (below_row hb1 C1.out); replace C2 := Lib.hid (below_row hb1 C2.out); replace hb := hb.trans (hb1.mono hb.size); clear hb1))
  go_ret
  exact ⟨rfl, hb⟩

theorem windowAt_any (n : Int) (wd gp : Nat) (t : Int) (sh : Nat) (hs ts : List Int) (hh : hs.length = 24) (ht : ts.length = 24) (ok : BlOk n wd gp t sh) (hour facing : Int) (hr0 : 0 ≤ hour) (hr1 : hour < 24) (hf0 : 0 ≤ facing) (hf1 : facing ≤ 255) (hx1 : atH hs hour ≤ 64) (hy0 : 0 ≤ atH ts hour) (hy1 : atH ts hour ≤ 255) (p1 p2 : Nat) (w : World) (c1 : w.heap[p1]? = some (.cells (blindC n wd gp t sh) 32 (0, 0))) (c2 : w.heap[p2]? = some (.cells #[.float .f32 (opnB wd gp t 1)] 30 (0, 0))) :
    Calls Tryz.prog 51 #[.func (.func 112) #[] #[.pointer (some ⟨p1, 0, none⟩), .pointer (some ⟨p2, 0, none⟩)], .agg (sunC hs ts), .int .i64 hour, .int .i64 facing] w fun e w' => e = .returned (.float .f32 (winB wd gp t sh hs ts hour facing)) ∧ Below w.heap.size w w' := by
  unfold winB
  by_cases hpos : 0 < atH hs hour
  · rw [if_pos hpos]; exact windowAt_up n wd gp t sh hs ts hh ht ok hour facing hr0 hr1 hf0 hf1 hx1 hy0 hy1 hpos p1 p2 w c1 c2
  · rw [if_neg hpos]; exact windowAt_no n wd gp t sh hs ts hh ht hour facing hr0 hr1 hpos p1 p2 w c1 c2

set_option maxRecDepth 100000 in
set_option maxHeartbeats 1000000 in
theorem l02Window_up (n : Int) (wd gp : Nat) (t : Int) (sh : Nat) (hs ts : List Int) (hh : hs.length = 24) (ht : ts.length = 24) (ok : BlOk n wd gp t sh) (hour facing : Int) (hr0 : 0 ≤ hour) (hr1 : hour < 24) (hf0 : 0 ≤ facing) (hf1 : facing ≤ 255) (hx1 : atH hs hour ≤ 64) (hy0 : 0 ≤ atH ts hour) (hy1 : atH ts hour ≤ 255) (hpos : 0 < atH hs hour) (g1 g2 : Nat) (w : World) (c1 : w.heap[g1]? = some (.cells (blindC n wd gp t sh) 32 (0, 0))) (c2 : w.heap[g2]? = some (.cells (sunC hs ts) 27 (0, 0))) :
    Calls Tryz.prog 54 #[.pointer (some ⟨g1, 0, none⟩), .pointer (some ⟨g2, 0, none⟩), .int .i64 hour, .int .i64 facing] w fun e w' => e = .returned (.float .f32 (fmul (fallOf hs ts hour facing) (pasB wd gp t sh (atH hs hour)))) ∧ Below w.heap.size w w' := by
  have Hh := Lib.hid hh
  have Ht := Lib.hid ht
  have HF := Lib.hid (fun w hg => l01Fall_any g2 hs ts hh ht hour facing hr0 hr1 hf0 hf1 hx1 hy0 hy1 27 (0, 0) w hg)
  have HP := Lib.hid (fun w hg => l02Pass_any n wd gp t sh ok (atH hs hour) (by omega) hx1 g1 32 (0, 0) w hg)
  have hm : floatBits .mul .f32 (fallOf hs ts hour facing) (pasB wd gp t sh (atH hs hour)) = some (fmul (fallOf hs ts hour facing) (pasB wd gp t sh (atH hs hour))) := (win_ok wd gp t ok.2.2.2.2.2.2.2.2 _ _ hpos hx1).1
  have r : ∀ T w, (binOp .mul T (.float .f32 (fallOf hs ts hour facing)) (.float .f32 (pasB wd gp t sh (atH hs hour)))).run Tryz.prog w = .ok (.float .f32 (fmul (fallOf hs ts hour facing) (pasB wd gp t sh (atH hs hour)))) w := fun T w => run_float_arith w .mul T .f32 _ _ _ hm
  have hw64 : IntKind.i64.wrap (atH hs hour) = atH hs hour := i64_small _ (by omega) (by omega)
  clear hm
  generalize fallOf hs ts hour facing = F at *
  clear ok hh ht
  obtain ⟨k, rfl⟩ := Int.eq_ofNat_of_zero_le hr0
  have hk : k < 24 := by omega
  have ea : hs[k]?.getD 0 = atH hs (k : Int) := by unfold atH; rw [Int.toNat_natCast]
  have q0 := cell_sun_h c2 Hh.out k hk
  rw [ea] at q0
  have hd : decide (atH hs (k : Int) ≤ 0) = false := decide_eq_false (by omega)
  generalize pasB wd gp t sh (atH hs (k : Int)) = P at *
  generalize atH hs (k : Int) = x at *
  have Hx := Lib.hid ea
  clear ea
  have C1 := Lib.hid c1
  have C2 := Lib.hid c2
  clear c1 c2
  go_enter Tryz.func54, Tryz.ntmps54
  go_upto_region 3 with (fail)
  have d0 := C1.out
  have d1 := C2.out
  clear C1 C2 q0
  refine wp_region_held_drew (S := (fun W => W.heap[g1]? = some (.cells (blindC n wd gp t sh) 32 (0, 0)) ∧ W.heap[g2]? = some (.cells (sunC hs ts) 27 (0, 0)) ∧ Below w.heap.size w W)) (by kernel_rfl) ⟨d0, d1, (Below.refl w.heap.size w).drew⟩ (fun hHeld => ?_)
  refine take_op (i := 0) (d := 16) (v := ?_) rfl rfl (by kernel_rfl) (by kernel_rfl) (by kernel_rfl) (fun _ _ _ h => h) (Or.inl ⟨by rfl, ?hy0u11⟩) hHeld ?rest0u11
  case hy0u11 =>
    intro w' hS'
    go_simp
    try with_reducible rfl
  simp only [List.setIfInBounds_toArray, List.set_cons_zero, List.set_cons_succ]
  refine take_op (i := 1) (d := 17) (v := ?_) rfl rfl (by kernel_rfl) (by kernel_rfl) (by kernel_rfl) (fun _ _ _ h => h) (Or.inl ⟨by rfl, ?hy1u12⟩) hHeld ?rest1u12
  case hy1u12 =>
    intro w' hS'
    go_simp
    try with_reducible rfl
  simp only [List.setIfInBounds_toArray, List.set_cons_zero, List.set_cons_succ]
  refine take_op (i := 2) (d := 18) (v := ?_) rfl rfl (by kernel_rfl) (by kernel_rfl) (by kernel_rfl) (fun _ _ _ h => h) (Or.inl ⟨by rfl, ?hy2u13⟩) hHeld ?rest2u13
  case hy2u13 =>
    intro w' hS'
    go_simp
    try with_reducible rfl
  simp only [List.setIfInBounds_toArray, List.set_cons_zero, List.set_cons_succ]
  refine take_op (i := 4) (d := 20) (v := ?_) rfl rfl (by kernel_rfl) (by kernel_rfl) (by kernel_rfl) (fun _ _ _ h => h) (Or.inl ⟨by rfl, ?hy4u14⟩) hHeld ?rest4u14
  case hy4u14 =>
    intro w' hS'
    go_simp
    try with_reducible rfl
  simp only [List.setIfInBounds_toArray, List.set_cons_zero, List.set_cons_succ]
  refine take_op (i := 5) (d := 21) (v := ?_) rfl rfl (by kernel_rfl) (by kernel_rfl) (by kernel_rfl) (fun _ _ _ h => h) (Or.inl ⟨by rfl, ?hy5u15⟩) hHeld ?rest5u15
  case hy5u15 =>
    intro w' hS'
    go_simp
    try with_reducible rfl
  simp only [List.setIfInBounds_toArray, List.set_cons_zero, List.set_cons_succ]
  refine take_op (i := 6) (d := 22) (v := ?_) rfl rfl (by kernel_rfl) (by kernel_rfl) (by kernel_rfl) (fun _ _ _ h => h) (Or.inl ⟨by rfl, ?hy6u16⟩) hHeld ?rest6u16
  case hy6u16 =>
    intro w' hS'
    go_simp
    try with_reducible rfl
  simp only [List.setIfInBounds_toArray, List.set_cons_zero, List.set_cons_succ]
  refine take_op (i := 7) (d := 23) (v := ?_) rfl rfl (by kernel_rfl) (by kernel_rfl) (by kernel_rfl) (fun _ _ _ h => h) (Or.inl ⟨by rfl, ?hy7u17⟩) hHeld ?rest7u17
  case hy7u17 =>
    intro w' hS'
    go_simp
    try with_reducible rfl
  simp only [List.setIfInBounds_toArray, List.set_cons_zero, List.set_cons_succ]
  refine take_op (i := 8) (d := 24) (v := ?_) rfl rfl (by kernel_rfl) (by kernel_rfl) (by kernel_rfl) (fun _ _ _ h => h) (Or.inl ⟨by rfl, ?hy8u18⟩) hHeld ?rest8u18
  case hy8u18 =>
    intro w' hS'
    go_simp
    try with_reducible rfl
  simp only [List.setIfInBounds_toArray, List.set_cons_zero, List.set_cons_succ]
  refine take_op (i := 9) (d := 25) (v := ?_) rfl rfl (by kernel_rfl) (by kernel_rfl) (by kernel_rfl) (fun _ _ _ h => h) (Or.inl ⟨by rfl, ?hy9u19⟩) hHeld ?rest9u19
  case hy9u19 =>
    intro w' hS'
    go_simp
    try with_reducible rfl
  simp only [List.setIfInBounds_toArray, List.set_cons_zero, List.set_cons_succ]
  refine take_op (i := 10) (d := 26) (v := ?_) rfl rfl (by kernel_rfl) (by kernel_rfl) (by kernel_rfl) (fun _ _ _ h => h) (Or.inl ⟨by rfl, ?hy10u20⟩) hHeld ?rest10u20
  case hy10u20 =>
    intro w' hS'
    obtain ⟨_, s1, _⟩ := hS'
    have qk := cell_sun_h s1 Hh.out k hk
    rw [Hx.out] at qk
    clear s1
    go_simp
    try with_reducible rfl
  simp only [List.setIfInBounds_toArray, List.set_cons_zero, List.set_cons_succ]
  refine take_op (i := 11) (d := 27) (v := ?_) rfl rfl (by kernel_rfl) (by kernel_rfl) (by kernel_rfl) (fun _ _ _ h => h) (Or.inl ⟨by rfl, ?hy11u21⟩) hHeld ?rest11u21
  case hy11u21 =>
    intro w' hS'
    go_simp
    try with_reducible rfl
  simp only [List.setIfInBounds_toArray, List.set_cons_zero, List.set_cons_succ]
  refine wpAnyH_ready (rs := [3]) (by kernel_rfl) (by simp) ?_
  refine AllReadyH.cons rfl (fun K hK => ?_) AllReadyH.nil
  go_simp
  refine (HF.out _ hHeld.2.1).mono ?_
  rintro e W1 ⟨rfl, hb1⟩
  refine hK.out _ _ (⟨below_row hb1 hHeld.1, below_row hb1 hHeld.2.1, hHeld.2.2.trans (hb1.mono hHeld.2.2.size)⟩) (fun hHeld2 => ?_)
  clear hK K
  replace hHeld := hHeld2
  clear hHeld2
  refine wpAnyH_ready (rs := [12]) (by kernel_rfl) (by simp) ?_
  refine AllReadyH.cons rfl (fun K hK => ?_) AllReadyH.nil
  go_simp
  refine (HP.out _ hHeld.1).mono ?_
  rintro e W3 ⟨rfl, hb3⟩
  refine hK.out _ _ (⟨below_row hb3 hHeld.1, below_row hb3 hHeld.2.1, hHeld.2.2.trans (hb3.mono hHeld.2.2.size)⟩) (fun hHeld2 => ?_)
  clear hK K
  replace hHeld := hHeld2
  clear hHeld2
  refine take_op (i := 13) (d := 29) (v := ?_) rfl rfl (by kernel_rfl) (by kernel_rfl) (by kernel_rfl) (fun _ _ _ h => h) (Or.inl ⟨by rfl, ?hy13u22⟩) hHeld ?rest13u22
  case hy13u22 =>
    intro w' hS'
    go_simp
    try with_reducible rfl
  simp only [List.setIfInBounds_toArray, List.set_cons_zero, List.set_cons_succ]
  refine take_op (i := 14) (d := 8) (v := ?_) rfl rfl (by kernel_rfl) (by kernel_rfl) (by kernel_rfl) (fun _ _ _ h => h) (Or.inl ⟨by rfl, ?hy14u23⟩) hHeld ?rest14u23
  case hy14u23 =>
    intro w' hS'
    go_simp
    try with_reducible rfl
  simp only [List.setIfInBounds_toArray, List.set_cons_zero, List.set_cons_succ]
  refine wpAnyH_done (by kernel_rfl) ?_ _
  have hbx := hHeld.2.2
  clear hHeld d0 d1
  go_wp2
  go_ret
  exact ⟨rfl, hbx⟩

set_option maxRecDepth 100000 in
set_option maxHeartbeats 1000000 in
theorem l02Window_no (n : Int) (wd gp : Nat) (t : Int) (sh : Nat) (hs ts : List Int) (hh : hs.length = 24) (ht : ts.length = 24) (hour facing : Int) (hr0 : 0 ≤ hour) (hr1 : hour < 24) (hx1 : atH hs hour ≤ 64) (hy0 : 0 ≤ atH ts hour) (hy1 : atH ts hour ≤ 255) (hpos : ¬ 0 < atH hs hour) (g1 g2 : Nat) (w : World) (c1 : w.heap[g1]? = some (.cells (blindC n wd gp t sh) 32 (0, 0))) (c2 : w.heap[g2]? = some (.cells (sunC hs ts) 27 (0, 0))) :
    Calls Tryz.prog 54 #[.pointer (some ⟨g1, 0, none⟩), .pointer (some ⟨g2, 0, none⟩), .int .i64 hour, .int .i64 facing] w fun e w' => e = .returned (.float .f32 (0)) ∧ Below w.heap.size w w' := by
  have Hh := Lib.hid hh
  have Ht := Lib.hid ht
  clear hh ht
  obtain ⟨k, rfl⟩ := Int.eq_ofNat_of_zero_le hr0
  have hk : k < 24 := by omega
  have ea : hs[k]?.getD 0 = atH hs (k : Int) := by unfold atH; rw [Int.toNat_natCast]
  have q0 := cell_sun_h c2 Hh.out k hk
  rw [ea] at q0
  have hd : decide (atH hs (k : Int) ≤ 0) = true := decide_eq_true (by omega)
  generalize atH hs (k : Int) = x at *
  have Hx := Lib.hid ea
  clear ea
  have C1 := Lib.hid c1
  have C2 := Lib.hid c2
  clear c1 c2
  go_enter Tryz.func54, Tryz.ntmps54
  go_wp2
  go_ret
  exact ⟨rfl, Below.refl _ _⟩

theorem l02Window_any (n : Int) (wd gp : Nat) (t : Int) (sh : Nat) (hs ts : List Int) (hh : hs.length = 24) (ht : ts.length = 24) (ok : BlOk n wd gp t sh) (hour facing : Int) (hr0 : 0 ≤ hour) (hr1 : hour < 24) (hf0 : 0 ≤ facing) (hf1 : facing ≤ 255) (hx1 : atH hs hour ≤ 64) (hy0 : 0 ≤ atH ts hour) (hy1 : atH ts hour ≤ 255) (g1 g2 : Nat) (w : World) (c1 : w.heap[g1]? = some (.cells (blindC n wd gp t sh) 32 (0, 0))) (c2 : w.heap[g2]? = some (.cells (sunC hs ts) 27 (0, 0))) :
    Calls Tryz.prog 54 #[.pointer (some ⟨g1, 0, none⟩), .pointer (some ⟨g2, 0, none⟩), .int .i64 hour, .int .i64 facing] w fun e w' => e = .returned (.float .f32 (winB wd gp t sh hs ts hour facing)) ∧ Below w.heap.size w w' := by
  unfold winB
  by_cases hpos : 0 < atH hs hour
  · rw [if_pos hpos]; exact l02Window_up n wd gp t sh hs ts hh ht ok hour facing hr0 hr1 hf0 hf1 hx1 hy0 hy1 hpos g1 g2 w c1 c2
  · rw [if_neg hpos]; exact l02Window_no n wd gp t sh hs ts hh ht hour facing hr0 hr1 hx1 hy0 hy1 hpos g1 g2 w c1 c2

end Go.Proofs.YtddnfbpgldchcaaGreatDoor

namespace Go.Proofs.YtddnfbpgldchcaaGreatDoor

open Go.ChangeShapes Go.WideShapes Go.ChangeAt Go.RowKit

/-- The code of a blind and a sun, and of what else is asked. -/
def codeBS (okb oks fine : Bool) : Int := if okb then codeB oks fine else 1

set_option maxRecDepth 100000 in
set_option maxHeartbeats 1000000 in
theorem checkBS_true (n : Int) (wd gp : Nat) (t : Int) (sh : Nat) (hs ts : List Int) (hh : hs.length = 24) (ht : ts.length = 24) (T0 : -32768 ≤ t) (T1 : t ≤ 32767) (hk : okBl n wd gp t sh = true) (fine : Bool) (w : World) :
    Calls Tryz.prog 50 #[.agg (blindC n wd gp t sh), .agg (sunC hs ts), .bool fine] w fun e w' => e = .returned (.int .i64 (codeB (okB hs ts) fine)) ∧ Below w.heap.size w w' := by
  have Hh := Lib.hid hh
  have Ht := Lib.hid ht
  have HV := Lib.hid (fun w => ValidBlind_any n wd gp t sh T0 T1 w)
  rw [hk] at HV
  clear hh ht hk T0 T1
  go_enter Tryz.func50, Tryz.ntmps50
  go_upto_region 1 with (fail)
  refine abs_world (fun W => W.heap[w.heap.size]? = some (.cells (blindC n wd gp t sh) 32 (0, 0)) ∧ W.heap[w.heap.size + 1]? = some (.cells (sunC hs ts) 27 (0, 0)) ∧ Below w.heap.size w W) ⟨heap_alloc2_old _ _ _, heap_alloc2_new _ _ _, ((Below.refl _ _).alloc (Nat.le_refl _) _).alloc (by simp) _⟩ ?_
  rintro W ⟨h0, h1, hb⟩
  generalize w.heap.size + 1 = g2 at *
  have H0 := Lib.hid h0
  have HS := Lib.hid h1
  clear h0 h1
  go_wp2_with (first | (refine wpList_load_part rfl 32 _ rfl w.heap.size 0 5 rfl 32 (blindC n wd gp t sh) (0, 0) _ H0.out Tryz.underlying32 rfl info_blind (blind_fits _ _ _ _ _) _ (blind_all _ _ _ _ _) ?_) | (refine wpList_load_part rfl 27 _ rfl g2 0 48 rfl 27 (sunC hs ts) (0, 0) _ HS.out Tryz.underlying27 rfl info_sun (sun_fits _ _ Hh.out Ht.out) (sunC hs ts) (sun_all _ _ Hh.out Ht.out) ?_) | (go_at_call 110; refine (HV.out _).mono ?_; rintro e W1 ⟨rfl, hb1⟩; replace H0 := Lib.hid (below_row hb1 H0.out); replace HS := Lib.hid (below_row hb1 HS.out); replace hb := hb.trans (hb1.mono hb.size); clear hb1) | (go_at_call 42; refine (checkSun_is hs ts Hh.out Ht.out fine _ rfl _).mono ?_; rintro e W1 ⟨rfl, hb1⟩; replace hb := hb.trans (hb1.mono hb.size); clear hb1))
  go_ret
  exact ⟨rfl, hb⟩

set_option maxRecDepth 100000 in
set_option maxHeartbeats 1000000 in
theorem checkBS_false (n : Int) (wd gp : Nat) (t : Int) (sh : Nat) (hs ts : List Int) (hh : hs.length = 24) (ht : ts.length = 24) (T0 : -32768 ≤ t) (T1 : t ≤ 32767) (hk : okBl n wd gp t sh = false) (fine : Bool) (w : World) :
    Calls Tryz.prog 50 #[.agg (blindC n wd gp t sh), .agg (sunC hs ts), .bool fine] w fun e w' => e = .returned (.int .i64 (1)) ∧ Below w.heap.size w w' := by
  have Hh := Lib.hid hh
  have Ht := Lib.hid ht
  have HV := Lib.hid (fun w => ValidBlind_any n wd gp t sh T0 T1 w)
  rw [hk] at HV
  clear hh ht hk T0 T1
  go_enter Tryz.func50, Tryz.ntmps50
  go_upto_region 1 with (fail)
  refine abs_world (fun W => W.heap[w.heap.size]? = some (.cells (blindC n wd gp t sh) 32 (0, 0)) ∧ W.heap[w.heap.size + 1]? = some (.cells (sunC hs ts) 27 (0, 0)) ∧ Below w.heap.size w W) ⟨heap_alloc2_old _ _ _, heap_alloc2_new _ _ _, ((Below.refl _ _).alloc (Nat.le_refl _) _).alloc (by simp) _⟩ ?_
  rintro W ⟨h0, h1, hb⟩
  generalize w.heap.size + 1 = g2 at *
  have H0 := Lib.hid h0
  have HS := Lib.hid h1
  clear h0 h1
  go_wp2_with (first | (refine wpList_load_part rfl 32 _ rfl w.heap.size 0 5 rfl 32 (blindC n wd gp t sh) (0, 0) _ H0.out Tryz.underlying32 rfl info_blind (blind_fits _ _ _ _ _) _ (blind_all _ _ _ _ _) ?_) | (refine wpList_load_part rfl 27 _ rfl g2 0 48 rfl 27 (sunC hs ts) (0, 0) _ HS.out Tryz.underlying27 rfl info_sun (sun_fits _ _ Hh.out Ht.out) (sunC hs ts) (sun_all _ _ Hh.out Ht.out) ?_) | (go_at_call 110; refine (HV.out _).mono ?_; rintro e W1 ⟨rfl, hb1⟩; replace H0 := Lib.hid (below_row hb1 H0.out); replace HS := Lib.hid (below_row hb1 HS.out); replace hb := hb.trans (hb1.mono hb.size); clear hb1))
  go_ret
  exact ⟨rfl, hb⟩

theorem checkBS_is (n : Int) (wd gp : Nat) (t : Int) (sh : Nat) (hs ts : List Int) (hh : hs.length = 24) (ht : ts.length = 24) (T0 : -32768 ≤ t) (T1 : t ≤ 32767) (fine : Bool) (c : Int) (hc : codeBS (okBl n wd gp t sh) (okB hs ts) fine = c) (w : World) :
    Calls Tryz.prog 50 #[.agg (blindC n wd gp t sh), .agg (sunC hs ts), .bool fine] w fun e w' => e = .returned (.int .i64 c) ∧ Below w.heap.size w w' := by
  subst hc
  unfold codeBS
  cases hk : okBl n wd gp t sh with
  | true => exact checkBS_true n wd gp t sh hs ts hh ht T0 T1 hk fine w
  | false => exact checkBS_false n wd gp t sh hs ts hh ht T0 T1 hk fine w

set_option maxRecDepth 100000 in
set_option maxHeartbeats 1000000 in
theorem l02With_is (n : Int) (wd gp : Nat) (t : Int) (sh : Nat) (hs ts : List Int) (hh : hs.length = 24) (ht : ts.length = 24) (rb : ∀ x ∈ hs ++ ts, -32768 ≤ x ∧ x ≤ 32767) (T0 : -32768 ≤ t) (T1 : t ≤ 32767) (N0 : -128 ≤ n) (N1 : n ≤ 127) (g1 g2 : Nat) (w : World) (c1 : w.heap[g1]? = some (.cells (blindC n wd gp t sh) 32 (0, 0))) (c2 : w.heap[g2]? = some (.cells (sunC hs ts) 27 (0, 0))) (fine : Bool) (c : Int) (hc : codeBS (okBl n wd gp t sh) (okB hs ts) fine = c) :
    Calls Tryz.prog 53 #[.pointer (some ⟨g1, 0, none⟩), .pointer (some ⟨g2, 0, none⟩), .bool fine] w fun e w' => e = .returned (.int .i64 c) ∧ w = w' := by
  subst hc
  have HB := Lib.hid (l02Ok_any n wd gp t sh T0 T1 N0 N1 g1 32 (0, 0) w c1)
  have HS := Lib.hid (l01Ok_any g2 hs ts hh ht rb 27 (0, 0) w c2)
  clear c1 c2 hh ht rb T0 T1 N0 N1
  unfold codeBS codeB
  generalize okBl n wd gp t sh = kb at *
  generalize okB hs ts = ks at *
  go_enter Tryz.func53, Tryz.ntmps53
  cases kb
  · go_wp2_with (first | (go_at_call 85; refine HB.out.mono ?_; rintro e w' ⟨rfl, rfl⟩) | (go_at_call 108; refine HS.out.mono ?_; rintro e w' ⟨rfl, rfl⟩))
    go_ret
    exact ⟨rfl, rfl⟩
  · cases ks
    · go_wp2_with (first | (go_at_call 85; refine HB.out.mono ?_; rintro e w' ⟨rfl, rfl⟩) | (go_at_call 108; refine HS.out.mono ?_; rintro e w' ⟨rfl, rfl⟩))
      go_ret
      exact ⟨rfl, rfl⟩
    · cases fine
      · go_wp2_with (first | (go_at_call 85; refine HB.out.mono ?_; rintro e w' ⟨rfl, rfl⟩) | (go_at_call 108; refine HS.out.mono ?_; rintro e w' ⟨rfl, rfl⟩))
        go_ret
        exact ⟨rfl, rfl⟩
      · go_wp2_with (first | (go_at_call 85; refine HB.out.mono ?_; rintro e w' ⟨rfl, rfl⟩) | (go_at_call 108; refine HS.out.mono ?_; rintro e w' ⟨rfl, rfl⟩))
        go_ret
        exact ⟨rfl, rfl⟩

end Go.Proofs.YtddnfbpgldchcaaGreatDoor

namespace Go.Proofs.YtddnfbpgldchcaaGreatDoor

open Go.ChangeShapes Go.WideShapes Go.ChangeAt Go.RowKit

set_option maxRecDepth 100000 in
set_option maxHeartbeats 1000000 in
theorem implPassWindow_yes (n : Int) (wd gp : Nat) (t : Int) (sh : Nat) (hs ts : List Int) (hh : hs.length = 24) (ht : ts.length = 24) (bw : BlWf n wd gp t sh) (hour facing : Int) (hk : okBl n wd gp t sh = true) (ho : okB hs ts = true) (h2 : inH hour = true) (h3 : inF facing = true) (w : World) :
    Calls Tryz.prog 11 #[.agg (blindC n wd gp t sh), .agg (sunC hs ts), .int .i64 hour, .int .i64 facing] w fun e w' => e = .returned (.tuple #[.float .f32 (winB wd gp t sh hs ts hour facing), .int .i64 (0)]) ∧ Below w.heap.size w w' := by
  obtain ⟨T0, T1⟩ := blwf_t bw
  obtain ⟨hr0, hr1⟩ := inH_bd h2
  have OK := blok_of bw hk
  have HP := Lib.hid (fun w => passer_any n wd gp t sh OK w)
  have HW := Lib.hid (fun p1 p2 w c1 c2 => windowAt_any n wd gp t sh hs ts hh ht OK hour facing hr0 hr1 (inF_bd h3).1 (inF_bd h3).2 (okB_h hh ht ho hour hr0 hr1).2 (okB_t hh ht ho hour hr0 hr1).1 (okB_t hh ht ho hour hr0 hr1).2 p1 p2 w c1 c2)
  have Hc : Hid (codeBS (okBl n wd gp t sh) (okB hs ts) true = 0) := by rw [hk, ho]; rfl
  have Hi := Lib.hid h2
  have Hf := Lib.hid h3
  have Hh := Lib.hid hh
  have Ht := Lib.hid ht
  clear OK hk ho h2 h3 hh ht bw
  go_enter Tryz.func11, Tryz.ntmps11
  go_upto_region 1 with (fail)
  refine abs_world (fun W => W.heap[w.heap.size]? = some (.cells (blindC n wd gp t sh) 32 (0, 0)) ∧ W.heap[w.heap.size + 1]? = some (.cells (sunC hs ts) 27 (0, 0)) ∧ Below w.heap.size w W) ⟨heap_alloc2_old _ _ _, heap_alloc2_new _ _ _, ((Below.refl _ _).alloc (Nat.le_refl _) _).alloc (by simp) _⟩ ?_
  rintro W ⟨h0, h1, hb⟩
  generalize w.heap.size + 1 = g2 at *
  refine wp_region_held_drew (S := (fun W => W.heap[w.heap.size]? = some (.cells (blindC n wd gp t sh) 32 (0, 0)) ∧ W.heap[g2]? = some (.cells (sunC hs ts) 27 (0, 0)) ∧ Below w.heap.size w W)) (by kernel_rfl) ⟨h0, h1, hb.drew⟩ (fun hHeld => ?_)
  refine take_op (i := 0) (d := 11) (v := .agg (blindC n wd gp t sh)) rfl rfl (by kernel_rfl) (by kernel_rfl) (by kernel_rfl) (fun _ _ _ h => h) (yields_row (by rfl) 32 (.tmp 4) (by rfl) w.heap.size 0 5 (by rfl) 32 (blindC n wd gp t sh) (0, 0) _ (fun _ h => h.1) Tryz.underlying32 rfl info_blind (blind_fits _ _ _ _ _) (blindC n wd gp t sh) (blind_all _ _ _ _ _)) hHeld ?_
  simp only [List.setIfInBounds_toArray, List.set_cons_zero, List.set_cons_succ]
  refine take_op (i := 1) (d := 12) (v := .agg (sunC hs ts)) rfl rfl (by kernel_rfl) (by kernel_rfl) (by kernel_rfl) (fun _ _ _ h => h) (yields_row (by rfl) 27 (.tmp 5) (by rfl) g2 0 48 (by rfl) 27 (sunC hs ts) (0, 0) _ (fun _ h => h.2.1) Tryz.underlying27 rfl info_sun (sun_fits _ _ Hh.out Ht.out) (sunC hs ts) (sun_all _ _ Hh.out Ht.out)) hHeld ?_
  simp only [List.setIfInBounds_toArray, List.set_cons_zero, List.set_cons_succ]
  refine take_op (i := 2) (d := 13) (v := ?_) rfl rfl (by kernel_rfl) (by kernel_rfl) (by kernel_rfl) (fun _ _ _ h => h) (Or.inl ⟨by rfl, ?hy2u24⟩) hHeld ?rest2u24
  case hy2u24 =>
    intro w' hS'
    go_simp
    try with_reducible rfl
  simp only [List.setIfInBounds_toArray, List.set_cons_zero, List.set_cons_succ]
  refine wpAnyH_ready (rs := [3]) (by kernel_rfl) (by simp) ?_
  refine AllReadyH.cons rfl (fun K hK => ?_) AllReadyH.nil
  go_simp
  refine (isHour_is hour true Hi.out _).mono ?_
  rintro e w' ⟨rfl, rfl⟩
  refine hK.out _ _ (hHeld) (fun hHeld2 => ?_)
  clear hK K
  replace hHeld := hHeld2
  clear hHeld2
  refine take_op (i := 4) (d := 15) (v := ?_) rfl rfl (by kernel_rfl) (by kernel_rfl) (by kernel_rfl) (fun _ _ _ h => h) (Or.inl ⟨by rfl, ?hy4u25⟩) hHeld ?rest4u25
  case hy4u25 =>
    intro w' hS'
    go_simp
    try with_reducible rfl
  simp only [List.setIfInBounds_toArray, List.set_cons_zero, List.set_cons_succ]
  refine take_op (i := 5) (d := 16) (v := ?_) rfl rfl (by kernel_rfl) (by kernel_rfl) (by kernel_rfl) (fun _ _ _ h => h) (Or.inl ⟨by rfl, ?hy5u26⟩) hHeld ?rest5u26
  case hy5u26 =>
    intro w' hS'
    go_simp
    try with_reducible rfl
  simp only [List.setIfInBounds_toArray, List.set_cons_zero, List.set_cons_succ]
  refine wpAnyH_ready (rs := [6]) (by kernel_rfl) (by simp) ?_
  refine AllReadyH.cons rfl (fun K hK => ?_) AllReadyH.nil
  go_simp
  refine (isFacing_is facing true Hf.out _).mono ?_
  rintro e w' ⟨rfl, rfl⟩
  refine hK.out _ _ (hHeld) (fun hHeld2 => ?_)
  clear hK K
  replace hHeld := hHeld2
  clear hHeld2
  refine take_op (i := 7) (d := 18) (v := ?_) rfl rfl (by kernel_rfl) (by kernel_rfl) (by kernel_rfl) (fun _ _ _ h => h) (Or.inl ⟨by rfl, ?hy7u27⟩) hHeld ?rest7u27
  case hy7u27 =>
    intro w' hS'
    go_simp
    try with_reducible rfl
  simp only [List.setIfInBounds_toArray, List.set_cons_zero, List.set_cons_succ]
  refine wpAnyH_ready (rs := [8]) (by kernel_rfl) (by simp) ?_
  refine AllReadyH.cons rfl (fun K hK => ?_) AllReadyH.nil
  go_simp
  refine (checkBS_is n wd gp t sh hs ts Hh.out Ht.out T0 T1 true 0 Hc.out _).mono ?_
  rintro e W1 ⟨rfl, hb1⟩
  refine hK.out _ _ (⟨below_row hb1 hHeld.1, below_row hb1 hHeld.2.1, hHeld.2.2.trans (hb1.mono hHeld.2.2.size)⟩) (fun hHeld2 => ?_)
  clear hK K
  replace hHeld := hHeld2
  clear hHeld2
  refine take_op (i := 9) (d := 10) (v := ?_) rfl rfl (by kernel_rfl) (by kernel_rfl) (by kernel_rfl) (fun _ _ _ h => h) (Or.inl ⟨by rfl, ?hy9u28⟩) hHeld ?rest9u28
  case hy9u28 =>
    intro w' hS'
    go_simp
    try with_reducible rfl
  simp only [List.setIfInBounds_toArray, List.set_cons_zero, List.set_cons_succ]
  refine wpAnyH_done (by kernel_rfl) ?_ _
  obtain ⟨d0, d1, hbx⟩ := hHeld
  clear h0 h1 hb
  go_upto_region 4 with (fail)
  refine wp_region_held_drew (S := (fun W => W.heap[w.heap.size]? = some (.cells (blindC n wd gp t sh) 32 (0, 0)) ∧ W.heap[g2]? = some (.cells (sunC hs ts) 27 (0, 0)) ∧ Below w.heap.size w W)) (by kernel_rfl) ⟨d0, d1, hbx.drew⟩ (fun hHeld => ?_)
  refine take_op (i := 0) (d := 23) (v := .agg (blindC n wd gp t sh)) rfl rfl (by kernel_rfl) (by kernel_rfl) (by kernel_rfl) (fun _ _ _ h => h) (yields_row (by rfl) 32 (.tmp 4) (by rfl) w.heap.size 0 5 (by rfl) 32 (blindC n wd gp t sh) (0, 0) _ (fun _ h => h.1) Tryz.underlying32 rfl info_blind (blind_fits _ _ _ _ _) (blindC n wd gp t sh) (blind_all _ _ _ _ _)) hHeld ?_
  simp only [List.setIfInBounds_toArray, List.set_cons_zero, List.set_cons_succ]
  refine take_op (i := 2) (d := 25) (v := .agg (sunC hs ts)) rfl rfl (by kernel_rfl) (by kernel_rfl) (by kernel_rfl) (fun _ _ _ h => h) (yields_row (by rfl) 27 (.tmp 5) (by rfl) g2 0 48 (by rfl) 27 (sunC hs ts) (0, 0) _ (fun _ h => h.2.1) Tryz.underlying27 rfl info_sun (sun_fits _ _ Hh.out Ht.out) (sunC hs ts) (sun_all _ _ Hh.out Ht.out)) hHeld ?_
  simp only [List.setIfInBounds_toArray, List.set_cons_zero, List.set_cons_succ]
  refine take_op (i := 3) (d := 26) (v := ?_) rfl rfl (by kernel_rfl) (by kernel_rfl) (by kernel_rfl) (fun _ _ _ h => h) (Or.inl ⟨by rfl, ?hy3u29⟩) hHeld ?rest3u29
  case hy3u29 =>
    intro w' hS'
    go_simp
    try with_reducible rfl
  simp only [List.setIfInBounds_toArray, List.set_cons_zero, List.set_cons_succ]
  refine take_op (i := 4) (d := 27) (v := ?_) rfl rfl (by kernel_rfl) (by kernel_rfl) (by kernel_rfl) (fun _ _ _ h => h) (Or.inl ⟨by rfl, ?hy4u30⟩) hHeld ?rest4u30
  case hy4u30 =>
    intro w' hS'
    go_simp
    try with_reducible rfl
  simp only [List.setIfInBounds_toArray, List.set_cons_zero, List.set_cons_succ]
  refine wpAnyH_ready (rs := [1]) (by kernel_rfl) (by simp) ?_
  refine AllReadyH.cons rfl (fun K hK => ?_) AllReadyH.nil
  go_simp
  refine (HP.out _).mono ?_
  rintro e W1 ⟨⟨v, rfl, p1, p2, rfl, c1, c2⟩, hb1⟩
  refine hK.out _ _ (⟨below_row hb1 hHeld.1, below_row hb1 hHeld.2.1, hHeld.2.2.trans (hb1.mono hHeld.2.2.size)⟩) (fun hHeld2 => ?_)
  clear hK K
  replace hHeld := hHeld2
  clear hHeld2
  refine wpAnyH_ready (rs := [5]) (by kernel_rfl) (by simp) ?_
  refine AllReadyH.cons rfl (fun K hK => ?_) AllReadyH.nil
  go_simp
  refine (HW.out p1 p2 _ c1 c2).mono ?_
  rintro e W3 ⟨rfl, hb3⟩
  refine hK.out _ _ (⟨below_row hb3 hHeld.1, below_row hb3 hHeld.2.1, hHeld.2.2.trans (hb3.mono hHeld.2.2.size)⟩) (fun hHeld2 => ?_)
  clear hK K
  replace hHeld := hHeld2
  clear hHeld2
  refine take_op (i := 6) (d := 8) (v := ?_) rfl rfl (by kernel_rfl) (by kernel_rfl) (by kernel_rfl) (fun _ _ _ h => h) (Or.inl ⟨by rfl, ?hy6u31⟩) hHeld ?rest6u31
  case hy6u31 =>
    intro w' hS'
    go_simp
    try with_reducible rfl
  simp only [List.setIfInBounds_toArray, List.set_cons_zero, List.set_cons_succ]
  refine take_op (i := 7) (d := 9) (v := ?_) rfl rfl (by kernel_rfl) (by kernel_rfl) (by kernel_rfl) (fun _ _ _ h => h) (Or.inl ⟨by rfl, ?hy7u32⟩) hHeld ?rest7u32
  case hy7u32 =>
    intro w' hS'
    go_simp
    try with_reducible rfl
  simp only [List.setIfInBounds_toArray, List.set_cons_zero, List.set_cons_succ]
  refine wpAnyH_done (by kernel_rfl) ?_ _
  have hby := hHeld.2.2
  clear hHeld d0 d1 hbx
  go_wp2
  go_ret2
  exact ⟨rfl, hby⟩

end Go.Proofs.YtddnfbpgldchcaaGreatDoor

namespace Go.Proofs.YtddnfbpgldchcaaGreatDoor

open Go.ChangeShapes Go.WideShapes Go.ChangeAt Go.RowKit

set_option maxRecDepth 100000 in
set_option maxHeartbeats 1000000 in
theorem specPassWindow_yes (n : Int) (wd gp : Nat) (t : Int) (sh : Nat) (hs ts : List Int) (hh : hs.length = 24) (ht : ts.length = 24) (rb : ∀ x ∈ hs ++ ts, -32768 ≤ x ∧ x ≤ 32767) (bw : BlWf n wd gp t sh) (hour facing : Int) (hk : okBl n wd gp t sh = true) (ho : okB hs ts = true) (h2 : inH hour = true) (h3 : inF facing = true) (w : World) :
    Calls Tryz.prog 12 #[.agg (blindC n wd gp t sh), .agg (sunC hs ts), .int .i64 hour, .int .i64 facing] w fun e w' => e = .returned (.tuple #[.float .f32 (winB wd gp t sh hs ts hour facing), .int .i64 (0)]) ∧ Below w.heap.size w w' := by
  obtain ⟨T0, T1⟩ := blwf_t bw
  obtain ⟨N0, N1⟩ := blwf_n bw
  obtain ⟨hr0, hr1⟩ := inH_bd h2
  have OK := blok_of bw hk
  have HW := Lib.hid (fun g1 g2 w c1 c2 => l02Window_any n wd gp t sh hs ts hh ht OK hour facing hr0 hr1 (inF_bd h3).1 (inF_bd h3).2 (okB_h hh ht ho hour hr0 hr1).2 (okB_t hh ht ho hour hr0 hr1).1 (okB_t hh ht ho hour hr0 hr1).2 g1 g2 w c1 c2)
  have Hc : Hid (codeBS (okBl n wd gp t sh) (okB hs ts) true = 0) := by rw [hk, ho]; rfl
  have Hi := Lib.hid h2
  have Hf := Lib.hid h3
  have Hh := Lib.hid hh
  have Ht := Lib.hid ht
  have Rb := Lib.hid rb
  clear OK hk ho h2 h3 hh ht rb bw
  go_enter Tryz.func12, Tryz.ntmps12
  go_upto_region 1 with (fail)
  refine abs_world (fun W => W.heap[w.heap.size]? = some (.cells (blindC n wd gp t sh) 32 (0, 0)) ∧ W.heap[w.heap.size + 1]? = some (.cells (sunC hs ts) 27 (0, 0)) ∧ Below w.heap.size w W) ⟨heap_alloc2_old _ _ _, heap_alloc2_new _ _ _, ((Below.refl _ _).alloc (Nat.le_refl _) _).alloc (by simp) _⟩ ?_
  rintro W ⟨h0, h1, hb⟩
  generalize w.heap.size + 1 = g2 at *
  have D0 := Lib.hid h0
  have D1 := Lib.hid h1
  clear h0 h1
  go_wp2_with (first | (go_at_call 47; refine (l01Hour_is hour true Hi.out _).mono ?_; rintro e w' ⟨rfl, rfl⟩) | (go_at_call 48; refine (l01Faced_is facing true Hf.out _).mono ?_; rintro e w' ⟨rfl, rfl⟩) | (go_at_call 53; refine (l02With_is n wd gp t sh hs ts Hh.out Ht.out Rb.out T0 T1 N0 N1 w.heap.size g2 _ D0.out D1.out true 0 Hc.out).mono ?_; rintro e w' ⟨rfl, rfl⟩) | (go_at_call 54; refine (HW.out w.heap.size g2 _ D0.out D1.out).mono ?_; rintro e W3 ⟨rfl, hb3⟩))
  go_ret2
  exact ⟨rfl, hb.trans (hb3.mono hb.size)⟩

end Go.Proofs.YtddnfbpgldchcaaGreatDoor

namespace Go.Proofs.YtddnfbpgldchcaaGreatDoor

open Go.ChangeShapes Go.WideShapes Go.ChangeAt Go.RowKit Go.Deep Go.Joins

attribute [local go_sem] run_store_f

end Go.Proofs.YtddnfbpgldchcaaGreatDoor

namespace Go.Proofs.YtddnfbpgldchcaaGreatDoor

open Go.ChangeShapes Go.WideShapes Go.ChangeAt Go.RowKit Go.Deep Go.Joins

/-- A sun and a facing, and an awning besides, as cells. -/
def fsC (hs ts : List Int) (fc : Int) : Array Value := sunC hs ts ++ #[.int .i64 fc]

theorem fsC_size (hs ts : List Int) (fc : Int) (h : hs.length = 24) (t : ts.length = 24) : (fsC hs ts fc).size = 49 := by simp [fsC, sunC_size _ _ h t]

theorem fs_fits (hs ts : List Int) (fc : Int) (h : hs.length = 24) (t : ts.length = 24) : 0 + 49 ≤ (fsC hs ts fc).size := by rw [fsC_size _ _ _ h t]; decide

theorem fs_fits48 (hs ts : List Int) (fc : Int) (h : hs.length = 24) (t : ts.length = 24) : 0 + 48 ≤ (fsC hs ts fc).size := by rw [fsC_size _ _ _ h t]; decide

theorem extract_left (a b : Array Value) (n : Nat) (h : a.size = n) : (a ++ b).extract 0 (0 + n) = a := by
  subst h; simp

theorem fs_all (hs ts : List Int) (fc : Int) (h : hs.length = 24) (t : ts.length = 24) : (fsC hs ts fc).extract 0 (0 + 49) = fsC hs ts fc := by
  rw [Nat.zero_add, ← fsC_size hs ts fc h t, Array.extract_size]

theorem fs_sun (hs ts : List Int) (fc : Int) (h : hs.length = 24) (t : ts.length = 24) : (fsC hs ts fc).extract 0 (0 + 48) = sunC hs ts := extract_left _ _ _ (sunC_size _ _ h t)

theorem sunC_one (hs ts : List Int) : ∀ v ∈ sunC hs ts, v.oneCell' = true := i16s_one _

theorem fs_one (hs ts : List Int) (fc : Int) : ∀ v ∈ fsC hs ts fc, v.oneCell' = true := by
  intro v hv
  rcases Array.mem_append.1 hv with h | h
  · exact sunC_one _ _ v h
  · simp only [List.mem_toArray, List.mem_cons, List.not_mem_nil, or_false] at h
    subst h; rfl

theorem fs_48 (hs ts : List Int) (fc : Int) (h : hs.length = 24) (t : ts.length = 24) : (fsC hs ts fc)[48]? = some (.int .i64 fc) := by
  have e : (sunC hs ts).size = 48 := sunC_size _ _ h t
  unfold fsC
  rw [Array.getElem?_append_right (by omega), e]; rfl

theorem fs_cell {hs ts : List Int} {fc : Int} {W : World} {b : Nat} {T : TypeId} {fr : Nat × Nat} (h : hs.length = 24) (t : ts.length = 24) (hg : W.heap[b]? = some (.cells (fsC hs ts fc) T fr)) : W.cell? ⟨b, 48, none⟩ = some (.int .i64 fc) := by
  rw [cell_of_row W _ _ _ _ _ hg, fs_48 _ _ _ h t]

set_option maxRecDepth 100000 in
theorem info_fs : (Tryz.prog.info? 121).map (·.size) = some 49 := by kernel_rfl

theorem len24 {xs : List Int} (h : xs.length = 24) : ∃ a0 a1 a2 a3 a4 a5 a6 a7 a8 a9 b0 b1 b2 b3 b4 b5 b6 b7 b8 b9 c0 c1 c2 c3 : Int, xs = [a0, a1, a2, a3, a4, a5, a6, a7, a8, a9, b0, b1, b2, b3, b4, b5, b6, b7, b8, b9, c0, c1, c2, c3] := by
  match xs, h with
  | [a0, a1, a2, a3, a4, a5, a6, a7, a8, a9, b0, b1, b2, b3, b4, b5, b6, b7, b8, b9, c0, c1, c2, c3], _ => exact ⟨_, _, _, _, _, _, _, _, _, _, _, _, _, _, _, _, _, _, _, _, _, _, _, _, rfl⟩

set_option maxRecDepth 100000 in
theorem built_fs (hs ts : List Int) (fc : Int) (h : hs.length = 24) (t : ts.length = 24) : Tryz.prog.built 121 [(0, .agg (sunC hs ts)), (1, .int .i64 fc)] = some (fsC hs ts fc) := by
  obtain ⟨a0, a1, a2, a3, a4, a5, a6, a7, a8, a9, b0, b1, b2, b3, b4, b5, b6, b7, b8, b9, c0, c1, c2, c3, rfl⟩ := len24 h
  obtain ⟨d0, d1, d2, d3, d4, d5, d6, d7, d8, d9, e0, e1, e2, e3, e4, e5, e6, e7, e8, e9, f0, f1, f2, f3, rfl⟩ := len24 t
  kernel_rfl

theorem wpList_buildL {P : Program} {ops : Array Oper} {rest : List Oper} {o : Oper} {a : Act} {w : World} {Q : Exit → Act → World → Prop} (hg : o.guard = none) (t : TypeId) (parts : Array (Nat × Operand)) (ho : o.op = .build t parts)
    (d : Option Tmp) (hd : o.dst = d) (l : List (Nat × Value)) (hp : parts.toList.map (fun x => (x.1, a.eval x.2)) = l) (cells : Array Value) (hf : P.built t l = some cells)
    (h : wpList P ops Q rest (a.put d (.agg cells)) w) : wpList P ops Q (o :: rest) a w := by
  refine wpList_buildTo hg t parts ho d hd cells ?_ h
  rw [Array.toList_map, ← hf, ← hp]

end Go.Proofs.YtddnfbpgldchcaaGreatDoor

namespace Go.Proofs.YtddnfbpgldchcaaGreatDoor

open Go

end Go.Proofs.YtddnfbpgldchcaaGreatDoor

namespace Go.Proofs.YtddnfbpgldchcaaGreatDoor

open Go.ChangeShapes Go.WideShapes Go.ChangeAt Go.RowKit Go.Deep Go.Joins

attribute [local go_sem] run_store_f

end Go.Proofs.YtddnfbpgldchcaaGreatDoor

namespace Go.Proofs.YtddnfbpgldchcaaGreatDoor

open Go.ChangeShapes Go.WideShapes Go.ChangeAt Go.RowKit Go.Deep Go.Joins

/-- An hour and a facing that are in their ranges, and what a valid sun tells of the hour. -/
structure HrOk (hs ts : List Int) (hour fc : Int) : Prop where
  h0 : 0 ≤ hour
  h1 : hour < 24
  f0 : 0 ≤ fc
  f1 : fc ≤ 255
  x0 : -64 ≤ atH hs hour
  x1 : atH hs hour ≤ 64
  y0 : 0 ≤ atH ts hour
  y1 : atH ts hour ≤ 255

theorem hrok_of {hs ts : List Int} (hh : hs.length = 24) (ht : ts.length = 24) (ho : okB hs ts = true) {hour fc : Int} (h0 : 0 ≤ hour) (h1 : hour < 24) (hf : inF fc = true) : HrOk hs ts hour fc :=
  ⟨h0, h1, (inF_bd hf).1, (inF_bd hf).2, (okB_h hh ht ho hour h0 h1).1, (okB_h hh ht ho hour h0 h1).2, (okB_t hh ht ho hour h0 h1).1, (okB_t hh ht ho hour h0 h1).2⟩

set_option maxRecDepth 100000 in
set_option maxHeartbeats 1000000 in
theorem fall_any (hs ts : List Int) (hh : hs.length = 24) (ht : ts.length = 24) (fc hour : Int) (k : HrOk hs ts hour fc) (w : World) :
    Calls Tryz.prog 174 #[.agg (fsC hs ts fc), .int .i64 hour] w fun e w' => e = .returned (.float .f32 (fallOf hs ts hour fc)) ∧ Below w.heap.size w w' := by
  have HF := Lib.hid (fun w => fallAt_any hs ts hh ht hour fc k.h0 k.h1 k.f0 k.f1 k.x1 k.y0 k.y1 w)
  have Hh := Lib.hid hh
  have Ht := Lib.hid ht
  clear hh ht
  clear k
  go_enter Tryz.func174, Tryz.ntmps174
  go_upto_region 1 with (fail)
  refine abs_world (fun W => W.heap[w.heap.size]? = some (.cells (fsC hs ts fc) 121 (0, 0)) ∧ Below w.heap.size w W) (⟨heap_alloc_new _ _, (Below.refl _ _).alloc (Nat.le_refl _) _⟩) ?_
  rintro W ⟨h0, hb⟩
  have H0 := Lib.hid h0
  have c48 := fs_cell Hh.out Ht.out h0
  clear h0
  go_wp2_with (first | (refine wpList_load_partG 27 _ rfl w.heap.size 0 48 rfl rfl 121 (fsC hs ts fc) (0, 0) _ H0.out Tryz.underlying27 rfl info_sun (fs_fits48 _ _ _ Hh.out Ht.out) _ (fs_sun _ _ _ Hh.out Ht.out) ?_) | (refine wpList_load_partG 121 _ rfl w.heap.size 0 49 rfl rfl 121 (fsC hs ts fc) (0, 0) _ H0.out Tryz.underlying121 rfl info_fs (fs_fits _ _ _ Hh.out Ht.out) _ (fs_all _ _ _ Hh.out Ht.out) ?_) | (go_at_call 45; refine (HF.out _).mono ?_; rintro e W1 ⟨rfl, hb1⟩; replace H0 := Lib.hid (below_row hb1 H0.out); replace hb := hb.trans (hb1.mono hb.size); clear hb1))
  go_ret
  exact ⟨rfl, hb⟩

end Go.Proofs.YtddnfbpgldchcaaGreatDoor

namespace Go.Proofs.YtddnfbpgldchcaaGreatDoor

open Go.ChangeShapes Go.WideShapes Go.ChangeAt Go.RowKit Go.Deep Go.Joins

attribute [local go_sem] run_store_f

def bnC (lo hi : Nat) : Array Value := #[.float .f32 lo, .float .f32 hi]

def dayC (hs ts : List Int) (fc : Int) (lo hi : Nat) (n : Int) (wd gp : Nat) (t : Int) (sh : Nat) : Array Value := fsC hs ts fc ++ (bnC lo hi ++ blindC n wd gp t sh)

theorem dayC_size (hs ts : List Int) (hh : hs.length = 24) (ht : ts.length = 24) (fc : Int) (lo hi : Nat) (n : Int) (wd gp : Nat) (t : Int) (sh : Nat) : (dayC hs ts fc lo hi n wd gp t sh).size = 56 := by simp [dayC, fsC_size _ _ fc hh ht, bnC, blindC]

theorem dy_fits (m : Nat) (hm : m ≤ 56) (hs ts : List Int) (hh : hs.length = 24) (ht : ts.length = 24) (fc : Int) (lo hi : Nat) (n : Int) (wd gp : Nat) (t : Int) (sh : Nat) : m ≤ (dayC hs ts fc lo hi n wd gp t sh).size := by rw [dayC_size hs ts hh ht fc lo hi n wd gp t sh]; exact hm

theorem dy_all (hs ts : List Int) (hh : hs.length = 24) (ht : ts.length = 24) (fc : Int) (lo hi : Nat) (n : Int) (wd gp : Nat) (t : Int) (sh : Nat) : (dayC hs ts fc lo hi n wd gp t sh).extract 0 (0 + 56) = dayC hs ts fc lo hi n wd gp t sh := by
  rw [Nat.zero_add, ← dayC_size hs ts hh ht fc lo hi n wd gp t sh, Array.extract_size]

theorem dy_fs (hs ts : List Int) (hh : hs.length = 24) (ht : ts.length = 24) (fc : Int) (lo hi : Nat) (n : Int) (wd gp : Nat) (t : Int) (sh : Nat) : (dayC hs ts fc lo hi n wd gp t sh).extract 0 (0 + 49) = fsC hs ts fc := extract_left _ _ _ (fsC_size _ _ _ hh ht)

theorem extract_mid (a b c : Array Value) (n m : Nat) (h : a.size = n) (h2 : b.size = m) : (a ++ (b ++ c)).extract n (n + m) = b := by
  subst h h2
  apply Array.ext'
  simp

theorem extract_end (a b c : Array Value) (n m : Nat) (h : (a ++ b).size = n) (h2 : c.size = m) : (a ++ (b ++ c)).extract n (n + m) = c := by
  rw [← Array.append_assoc]
  generalize a ++ b = x at h ⊢
  subst h h2
  apply Array.ext'
  simp

theorem dy_sun (hs ts : List Int) (hh : hs.length = 24) (ht : ts.length = 24) (fc : Int) (lo hi : Nat) (n : Int) (wd gp : Nat) (t : Int) (sh : Nat) : (dayC hs ts fc lo hi n wd gp t sh).extract 0 (0 + 48) = sunC hs ts := by
  have e : dayC hs ts fc lo hi n wd gp t sh = sunC hs ts ++ (#[.int .i64 fc] ++ (bnC lo hi ++ blindC n wd gp t sh)) := by simp [dayC, fsC]
  rw [e]
  exact extract_left _ _ _ (sunC_size _ _ hh ht)

theorem dy_bn (hs ts : List Int) (hh : hs.length = 24) (ht : ts.length = 24) (fc : Int) (lo hi : Nat) (n : Int) (wd gp : Nat) (t : Int) (sh : Nat) : (dayC hs ts fc lo hi n wd gp t sh).extract 49 (49 + 2) = bnC lo hi := extract_mid _ _ _ _ _ (fsC_size _ _ _ hh ht) rfl

theorem dy_bl (hs ts : List Int) (hh : hs.length = 24) (ht : ts.length = 24) (fc : Int) (lo hi : Nat) (n : Int) (wd gp : Nat) (t : Int) (sh : Nat) : (dayC hs ts fc lo hi n wd gp t sh).extract 51 (51 + 5) = blindC n wd gp t sh := extract_end _ _ _ _ _ (by simp [fsC_size _ _ fc hh ht, bnC]) rfl

theorem dy_one (hs ts : List Int) (fc : Int) (lo hi : Nat) (n : Int) (wd gp : Nat) (t : Int) (sh : Nat) : ∀ v ∈ dayC hs ts fc lo hi n wd gp t sh, v.oneCell' = true := by
  intro v hv
  rcases Array.mem_append.1 hv with h | h
  · exact fs_one _ _ _ v h
  · simp only [bnC, blindC, List.append_toArray, List.cons_append, List.nil_append, List.mem_toArray, List.mem_cons, List.not_mem_nil, or_false] at h
    rcases h with rfl | rfl | rfl | rfl | rfl | rfl | rfl <;> rfl

theorem dy_cell (hs ts : List Int) (hh : hs.length = 24) (ht : ts.length = 24) (fc : Int) (lo hi : Nat) (n : Int) (wd gp : Nat) (t : Int) (sh : Nat) {W : World} {b : Nat} {T : TypeId} {fr : Nat × Nat} (hg : W.heap[b]? = some (.cells (dayC hs ts fc lo hi n wd gp t sh) T fr)) : W.cell? ⟨b, 48, none⟩ = some (.int .i64 fc) := by
  rw [cell_of_row W _ _ _ _ _ hg]
  have e : (fsC hs ts fc).size = 49 := fsC_size _ _ _ hh ht
  unfold dayC
  rw [Array.getElem?_append_left (by omega), fs_48 _ _ _ hh ht]

set_option maxRecDepth 100000 in
theorem info_dy : (Tryz.prog.info? 123).map (·.size) = some 56 := by kernel_rfl

set_option maxRecDepth 100000 in
theorem info_bn : (Tryz.prog.info? 99).map (·.size) = some 2 := by kernel_rfl

set_option maxRecDepth 100000 in
theorem built_dy (hs ts : List Int) (hh : hs.length = 24) (ht : ts.length = 24) (fc : Int) (lo hi : Nat) (n : Int) (wd gp : Nat) (t : Int) (sh : Nat) : Tryz.prog.built 123 [(0, .agg (fsC hs ts fc)), (1, .agg (bnC lo hi)), (2, .agg (blindC n wd gp t sh))] = some (dayC hs ts fc lo hi n wd gp t sh) := by
  obtain ⟨a0, a1, a2, a3, a4, a5, a6, a7, a8, a9, b0, b1, b2, b3, b4, b5, b6, b7, b8, b9, c0, c1, c2, c3, rfl⟩ := len24 hh
  obtain ⟨d0, d1, d2, d3, d4, d5, d6, d7, d8, d9, e0, e1, e2, e3, e4, e5, e6, e7, e8, e9, f0, f1, f2, f3, rfl⟩ := len24 ht
  kernel_rfl

def gtO (x y : Nat) : Bool := FloatKind.f32.format.order x y == some .gt

def ltO (x y : Nat) : Bool := FloatKind.f32.format.order x y == some .lt

set_option maxRecDepth 100000 in
set_option maxHeartbeats 1000000 in
theorem dyBright_is (lo hi x : Nat) (r : Bool) (h : gtO x hi = r) (w : World) :
    Calls Tryz.prog 161 #[.agg (bnC lo hi), .float .f32 x] w fun e w' => e = .returned (.bool r) ∧ Below w.heap.size w w' := by
  subst h
  unfold gtO bnC
  go_enter Tryz.func161, Tryz.ntmps161
  go_wp2
  go_ret
  exact ⟨rfl, (Below.refl _ _).alloc (Nat.le_refl _) _⟩

set_option maxRecDepth 100000 in
set_option maxHeartbeats 1000000 in
theorem dyDark_is (lo hi x : Nat) (r : Bool) (h : ltO x lo = r) (w : World) :
    Calls Tryz.prog 162 #[.agg (bnC lo hi), .float .f32 x] w fun e w' => e = .returned (.bool r) ∧ Below w.heap.size w w' := by
  subst h
  unfold ltO bnC
  go_enter Tryz.func162, Tryz.ntmps162
  go_wp2
  go_ret
  exact ⟨rfl, (Below.refl _ _).alloc (Nat.le_refl _) _⟩

set_option maxRecDepth 100000 in
set_option maxHeartbeats 2000000 in
theorem dayOf_any (hs ts : List Int) (hh : hs.length = 24) (ht : ts.length = 24) (fc : Int) (lo hi : Nat) (n : Int) (wd gp : Nat) (t : Int) (sh : Nat) (w : World) :
    Calls Tryz.prog 67 #[.agg (blindC n wd gp t sh), .agg (sunC hs ts), .int .i64 fc, .agg (bnC lo hi)] w fun e w' => e = .returned (.agg (dayC hs ts fc lo hi n wd gp t sh)) ∧ Below w.heap.size w w' := by
  have Hh := Lib.hid hh
  have Ht := Lib.hid ht
  have HD := Lib.hid (dayC_size hs ts hh ht fc lo hi n wd gp t sh)
  have HO := Lib.hid (dy_one hs ts fc lo hi n wd gp t sh)
  have HB1 := Lib.hid (built_fs hs ts fc hh ht)
  have HB2 := Lib.hid (built_dy hs ts hh ht fc lo hi n wd gp t sh)
  clear hh ht
  go_enter Tryz.func67, Tryz.ntmps67
  go_upto_region 1 with (fail)
  refine abs_code (fun W => W.heap[w.heap.size]? = some (.cells (blindC n wd gp t sh) 32 (0, 0)) ∧ W.heap[w.heap.size + 1]? = some (.cells (sunC hs ts) 27 (0, 0)) ∧ W.heap[w.heap.size + 1 + 1]? = some (.cells (bnC lo hi) 99 (0, 0)) ∧ (∃ zs : Array Value, zs.size = 56 ∧ W.heap[w.heap.size + 1 + 1 + 1]? = some (.cells zs 123 (0, 0))) ∧ Below w.heap.size w W) ⟨(box4 w _ _ _ _).1, (box4 w _ _ _ _).2.1, (box4 w _ _ _ _).2.2.1, ⟨_, rfl, (box4 w _ _ _ _).2.2.2.1⟩, (box4 w _ _ _ _).2.2.2.2⟩ ?_
  rintro W ⟨h0, h1, h2, ⟨zs, hzs, h3⟩, hb⟩
  have HZ := Lib.hid hzs
  clear hzs
  have hs3 : w.heap.size ≤ w.heap.size + 1 + 1 + 1 := by omega
  generalize w.heap.size + 1 + 1 + 1 = b3 at *
  generalize w.heap.size + 1 + 1 = b2 at *
  generalize w.heap.size + 1 = b1 at *
  have H0 := Lib.hid h0
  have H1 := Lib.hid h1
  have H2 := Lib.hid h2
  have H3 := Lib.hid h3
  clear h0 h1 h2 h3
  go_wp2_with (first | (refine wpList_load_part rfl 32 _ rfl w.heap.size 0 5 rfl 32 (blindC n wd gp t sh) (0, 0) _ H0.out Tryz.underlying32 rfl info_blind (blind_fits _ _ _ _ _) _ (blind_all _ _ _ _ _) ?_) | (refine wpList_load_part rfl 27 _ rfl b1 0 48 rfl 27 (sunC hs ts) (0, 0) _ H1.out Tryz.underlying27 rfl info_sun (sun_fits _ _ Hh.out Ht.out) (sunC hs ts) (sun_all _ _ Hh.out Ht.out) ?_) | (refine wpList_load_part rfl 99 _ rfl b2 0 2 rfl 99 (bnC lo hi) (0, 0) _ H2.out Tryz.underlying99 rfl info_bn (Nat.le_refl _) (bnC lo hi) rfl ?_) | (refine wpList_buildL rfl 121 _ rfl _ rfl [(0, .agg (sunC hs ts)), (1, .int .i64 fc)] rfl (fsC hs ts fc) HB1.out ?_) | (refine wpList_buildL rfl 123 _ rfl _ rfl [(0, .agg (fsC hs ts fc)), (1, .agg (bnC lo hi)), (2, .agg (blindC n wd gp t sh))] rfl (dayC hs ts fc lo hi n wd gp t sh) HB2.out ?_) | (refine wpList_store_part rfl 123 _ _ rfl b3 0 (dayC hs ts fc lo hi n wd gp t sh) rfl rfl 123 _ H3.out (by rw [HD.out]; exact info_dy) (by rw [HD.out, HZ.out]; exact Nat.le_refl _) HO.out ?_; rw [laid_all _ _ (by rw [HD.out, HZ.out])]))
  exact bodyPost_ret (v := .agg (dayC hs ts fc lo hi n wd gp t sh)) (results_cell_row rfl _ _ _ _ _ _ _ rfl (setRow_heap _ _ _ _ _ _ H3.out) Tryz.underlying123 rfl (by rw [HD.out]; exact info_dy)) rfl ⟨rfl, below_setRow hb hs3 _⟩

end Go.Proofs.YtddnfbpgldchcaaGreatDoor

namespace Go.Proofs.YtddnfbpgldchcaaGreatDoor

open Go.ChangeShapes Go.WideShapes Go.ChangeAt Go.RowKit Go.Deep Go.Joins

attribute [local go_sem] run_store_f

set_option maxRecDepth 100000 in
set_option maxHeartbeats 2000000 in
theorem light_any (hs ts : List Int) (hh : hs.length = 24) (ht : ts.length = 24) (fc : Int) (lo hi : Nat) (n : Int) (wd gp : Nat) (t : Int) (sh : Nat) (ok : BlOk n wd gp t sh) (hour x : Int) (k : HrOk hs ts hour fc) (x0 : -64 ≤ x) (x1 : x ≤ 64) (w : World) :
    Calls Tryz.prog 173 #[.agg (dayC hs ts fc lo hi n wd gp t sh), .int .i64 hour, .int .i64 x] w fun e w' => e = .returned (.float .f32 (winB wd gp x sh hs ts hour fc)) ∧ Below w.heap.size w w' := by
  have okx : BlOk n wd gp x sh := ⟨ok.1, ok.2.1, ok.2.2.1, ok.2.2.2.1, ok.2.2.2.2.1, ok.2.2.2.2.2.1, x0, x1, ok.2.2.2.2.2.2.2.2⟩
  have HT := Lib.hid (fun w => tilted_any2 n wd gp t sh x x0 x1 w)
  have HP := Lib.hid (fun w => passer_any n wd gp x sh okx w)
  have HW := Lib.hid (fun p1 p2 w c1 c2 => windowAt_any n wd gp x sh hs ts hh ht okx hour fc k.h0 k.h1 k.f0 k.f1 k.x1 k.y0 k.y1 p1 p2 w c1 c2)
  have Hh := Lib.hid hh
  have Ht := Lib.hid ht
  generalize winB wd gp x sh hs ts hour fc = v at *
  clear hh ht ok okx k x0 x1
  go_enter Tryz.func173, Tryz.ntmps173
  go_upto_region 1 with (fail)
  refine abs_code (fun W => W.heap[w.heap.size]? = some (.cells (dayC hs ts fc lo hi n wd gp t sh) 123 (0, 0)) ∧ Below w.heap.size w W) ⟨heap_alloc_new _ _, (Below.refl _ _).alloc (Nat.le_refl _) _⟩ ?_
  rintro W ⟨h0, hb⟩
  have H0 := Lib.hid h0
  clear h0
  refine wp_region_held_drew (S := (fun V => Below W.heap.size W V)) (by kernel_rfl) (Below.refl _ _).drew (fun hHeld => ?_)
  refine take_op (i := 0) (d := 7) (v := ?_) rfl rfl (by kernel_rfl) (by kernel_rfl) (by kernel_rfl) (fun _ _ _ h => h) (Or.inl ⟨by rfl, ?hy0u19⟩) hHeld ?rest0u19
  case hy0u19 =>
    intro w' hS'
    go_simp
    try with_reducible rfl
  simp only [List.setIfInBounds_toArray, List.set_cons_zero, List.set_cons_succ]
  refine take_op (i := 1) (d := 8) (v := .agg (blindC n wd gp t sh)) rfl rfl (by kernel_rfl) (by kernel_rfl) (by kernel_rfl) (fun _ _ _ h => h) (yields_row (by rfl) 32 (.tmp 7) (by rfl) w.heap.size 51 5 (by rfl) 123 (dayC hs ts fc lo hi n wd gp t sh) (0, 0) _ (fun _ h => below_row h H0.out) Tryz.underlying32 rfl info_blind (dy_fits 56 (by decide) hs ts Hh.out Ht.out fc lo hi n wd gp t sh) (blindC n wd gp t sh) (dy_bl hs ts Hh.out Ht.out fc lo hi n wd gp t sh)) hHeld ?_
  simp only [List.setIfInBounds_toArray, List.set_cons_zero, List.set_cons_succ]
  refine take_op (i := 2) (d := 9) (v := ?_) rfl rfl (by kernel_rfl) (by kernel_rfl) (by kernel_rfl) (fun _ _ _ h => h) (Or.inl ⟨by rfl, ?hy2u20⟩) hHeld ?rest2u20
  case hy2u20 =>
    intro w' hS'
    go_simp
    try with_reducible rfl
  simp only [List.setIfInBounds_toArray, List.set_cons_zero, List.set_cons_succ]
  refine take_op (i := 5) (d := 12) (v := ?_) rfl rfl (by kernel_rfl) (by kernel_rfl) (by kernel_rfl) (fun _ _ _ h => h) (Or.inl ⟨by rfl, ?hy5u21⟩) hHeld ?rest5u21
  case hy5u21 =>
    intro w' hS'
    go_simp
    try with_reducible rfl
  simp only [List.setIfInBounds_toArray, List.set_cons_zero, List.set_cons_succ]
  refine take_op (i := 6) (d := 13) (v := ?_) rfl rfl (by kernel_rfl) (by kernel_rfl) (by kernel_rfl) (fun _ _ _ h => h) (Or.inl ⟨by rfl, ?hy6u22⟩) hHeld ?rest6u22
  case hy6u22 =>
    intro w' hS'
    go_simp
    try with_reducible rfl
  simp only [List.setIfInBounds_toArray, List.set_cons_zero, List.set_cons_succ]
  refine take_op (i := 7) (d := 14) (v := .agg (sunC hs ts)) rfl rfl (by kernel_rfl) (by kernel_rfl) (by kernel_rfl) (fun _ _ _ h => h) (yields_row (by rfl) 27 (.tmp 13) (by rfl) w.heap.size 0 48 (by rfl) 123 (dayC hs ts fc lo hi n wd gp t sh) (0, 0) _ (fun _ h => below_row h H0.out) Tryz.underlying27 rfl info_sun (dy_fits 48 (by decide) hs ts Hh.out Ht.out fc lo hi n wd gp t sh) (sunC hs ts) (dy_sun hs ts Hh.out Ht.out fc lo hi n wd gp t sh)) hHeld ?_
  simp only [List.setIfInBounds_toArray, List.set_cons_zero, List.set_cons_succ]
  refine take_op (i := 8) (d := 15) (v := ?_) rfl rfl (by kernel_rfl) (by kernel_rfl) (by kernel_rfl) (fun _ _ _ h => h) (Or.inl ⟨by rfl, ?hy8u23⟩) hHeld ?rest8u23
  case hy8u23 =>
    intro w' hS'
    go_simp
    try with_reducible rfl
  simp only [List.setIfInBounds_toArray, List.set_cons_zero, List.set_cons_succ]
  refine take_op (i := 9) (d := 16) (v := ?_) rfl rfl (by kernel_rfl) (by kernel_rfl) (by kernel_rfl) (fun _ _ _ h => h) (Or.inl ⟨by rfl, ?hy9u24⟩) hHeld ?rest9u24
  case hy9u24 =>
    intro w' hS'
    go_simp
    try with_reducible rfl
  simp only [List.setIfInBounds_toArray, List.set_cons_zero, List.set_cons_succ]
  refine take_op (i := 10) (d := 17) (v := ?_) rfl rfl (by kernel_rfl) (by kernel_rfl) (by kernel_rfl) (fun _ _ _ h => h) (Or.inl ⟨by rfl, ?hy10u25⟩) hHeld ?rest10u25
  case hy10u25 =>
    intro w' hS'
    go_simp
    try with_reducible rfl
  simp only [List.setIfInBounds_toArray, List.set_cons_zero, List.set_cons_succ]
  refine take_op (i := 11) (d := 18) (v := ?_) rfl rfl (by kernel_rfl) (by kernel_rfl) (by kernel_rfl) (fun _ _ _ h => h) (Or.inl ⟨by rfl, ?hy11u26⟩) hHeld ?rest11u26
  case hy11u26 =>
    intro w' hS'
    have q := dy_cell hs ts Hh.out Ht.out fc lo hi n wd gp t sh (below_row hS' H0.out)
    go_simp
    try with_reducible rfl
  simp only [List.setIfInBounds_toArray, List.set_cons_zero, List.set_cons_succ]
  refine wpAnyH_ready (rs := [3]) (by kernel_rfl) (by simp) ?_
  refine AllReadyH.cons rfl (fun K hK => ?_) AllReadyH.nil
  go_simp
  refine (HT.out _).mono ?_
  rintro e W1 ⟨rfl, hb1⟩
  refine hK.out _ _ (hHeld.trans (hb1.mono hHeld.size)) (fun hHeld2 => ?_)
  clear hK K
  replace hHeld := hHeld2
  clear hHeld2
  clear hb1
  refine wpAnyH_ready (rs := [4]) (by kernel_rfl) (by simp) ?_
  refine AllReadyH.cons rfl (fun K hK => ?_) AllReadyH.nil
  go_simp
  refine (HP.out _).mono ?_
  rintro e W2 ⟨⟨v, rfl, p1, p2, rfl, c4, c5⟩, hb2⟩
  have C4 := Lib.hid c4
  have C5 := Lib.hid c5
  clear c4 c5
  refine hK.out _ _ (hHeld.trans (hb2.mono hHeld.size)) (fun hHeld2 => ?_)
  clear hK K
  replace hHeld := hHeld2
  clear hHeld2
  clear hb2
  refine wpAnyH_ready (rs := [12]) (by kernel_rfl) (by simp) ?_
  refine AllReadyH.cons rfl (fun K hK => ?_) AllReadyH.nil
  go_simp
  refine (HW.out p1 p2 _ C4.out C5.out).mono ?_
  rintro e W3 ⟨rfl, hb3⟩
  refine hK.out _ _ (hHeld.trans (hb3.mono hHeld.size)) (fun hHeld2 => ?_)
  clear hK K
  replace hHeld := hHeld2
  clear hHeld2
  clear hb3
  refine take_op (i := 13) (d := 6) (v := ?_) rfl rfl (by kernel_rfl) (by kernel_rfl) (by kernel_rfl) (fun _ _ _ h => h) (Or.inl ⟨by rfl, ?hy13u27⟩) hHeld ?rest13u27
  case hy13u27 =>
    intro w' hS'
    go_simp
    try with_reducible rfl
  simp only [List.setIfInBounds_toArray, List.set_cons_zero, List.set_cons_succ]
  refine wpAnyH_done (by kernel_rfl) ?_ _
  replace hb := hb.trans (hHeld.mono hb.size)
  clear hHeld H0 HT HP HW C4 C5
  go_wp2
  go_ret
  exact ⟨rfl, hb⟩

/-- Whether an hour keeps within bounds with a tilt. -/
def kpB (hs ts : List Int) (fc : Int) (lo hi : Nat) (wd gp sh : Nat) (hour x : Int) : Bool :=
  !gtO (winB wd gp x sh hs ts hour fc) hi && (!ltO (winB wd gp x sh hs ts hour fc) lo || ltO (fallOf hs ts hour fc) lo)

set_option maxRecDepth 100000 in
set_option maxHeartbeats 4000000 in
theorem keeps_any (hs ts : List Int) (hh : hs.length = 24) (ht : ts.length = 24) (fc : Int) (lo hi : Nat) (n : Int) (wd gp : Nat) (t : Int) (sh : Nat) (ok : BlOk n wd gp t sh) (hour x : Int) (k : HrOk hs ts hour fc) (x0 : -64 ≤ x) (x1 : x ≤ 64) (w : World) :
    Calls Tryz.prog 139 #[.agg (dayC hs ts fc lo hi n wd gp t sh), .int .i64 hour, .int .i64 x] w fun e w' => e = .returned (.bool (kpB hs ts fc lo hi wd gp sh hour x)) ∧ Below w.heap.size w w' := by
  have HL := Lib.hid (fun w => light_any hs ts hh ht fc lo hi n wd gp t sh ok hour x k x0 x1 w)
  have HF := Lib.hid (fun w => fall_any hs ts hh ht fc hour k w)
  have Hh := Lib.hid hh
  have Ht := Lib.hid ht
  unfold kpB
  generalize winB wd gp x sh hs ts hour fc = v at *
  generalize fallOf hs ts hour fc = f at *
  clear hh ht ok k x0 x1
  rcases g1 : gtO v hi with _ | _
  · rcases g2 : ltO v lo with _ | _
    · have G1 := Lib.hid g1
      have G2 := Lib.hid g2
      clear g1 g2
      go_enter Tryz.func139, Tryz.ntmps139
      go_upto_region 1 with (fail)
      refine abs_code (fun W => W.heap[w.heap.size]? = some (.cells (dayC hs ts fc lo hi n wd gp t sh) 123 (0, 0)) ∧ Below w.heap.size w W) ⟨heap_alloc_new _ _, (Below.refl _ _).alloc (Nat.le_refl _) _⟩ ?_
      rintro W0 ⟨h0, hb⟩
      have H0 := Lib.hid h0
      clear h0
      go_upto_region 2 with (first | (refine wpList_load_part rfl 123 _ rfl w.heap.size 0 56 rfl 123 (dayC hs ts fc lo hi n wd gp t sh) (0, 0) _ H0.out Tryz.underlying123 rfl info_dy (dy_fits 56 (by decide) hs ts Hh.out Ht.out fc lo hi n wd gp t sh) (dayC hs ts fc lo hi n wd gp t sh) (dy_all hs ts Hh.out Ht.out fc lo hi n wd gp t sh) ?_) | (go_at_call 173; refine (HL.out _).mono ?_; rintro e W ⟨rfl, hb1⟩; replace H0 := Lib.hid (below_row hb1 H0.out); replace hb := hb.trans (hb1.mono hb.size); clear hb1))
      refine wp_region_held_drew (S := (fun V => Below W.heap.size W V)) (by kernel_rfl) (Below.refl _ _).drew (fun hHeld => ?_)
      refine take_op (i := 0) (d := 12) (v := ?_) rfl rfl (by kernel_rfl) (by kernel_rfl) (by kernel_rfl) (fun _ _ _ h => h) (Or.inl ⟨by rfl, ?hy0u28⟩) hHeld ?rest0u28
      case hy0u28 =>
        intro w' hS'
        go_simp
        try with_reducible rfl
      simp only [List.setIfInBounds_toArray, List.set_cons_zero, List.set_cons_succ]
      refine take_op (i := 1) (d := 13) (v := .agg (bnC lo hi)) rfl rfl (by kernel_rfl) (by kernel_rfl) (by kernel_rfl) (fun _ _ _ h => h) (yields_row (by rfl) 99 (.tmp 12) (by rfl) w.heap.size 49 2 (by rfl) 123 (dayC hs ts fc lo hi n wd gp t sh) (0, 0) _ (fun _ h => below_row h H0.out) Tryz.underlying99 rfl info_bn (dy_fits 51 (by decide) hs ts Hh.out Ht.out fc lo hi n wd gp t sh) (bnC lo hi) (dy_bn hs ts Hh.out Ht.out fc lo hi n wd gp t sh)) hHeld ?_
      simp only [List.setIfInBounds_toArray, List.set_cons_zero, List.set_cons_succ]
      refine take_op (i := 2) (d := 14) (v := ?_) rfl rfl (by kernel_rfl) (by kernel_rfl) (by kernel_rfl) (fun _ _ _ h => h) (Or.inl ⟨by rfl, ?hy2u29⟩) hHeld ?rest2u29
      case hy2u29 =>
        intro w' hS'
        go_simp
        try with_reducible rfl
      simp only [List.setIfInBounds_toArray, List.set_cons_zero, List.set_cons_succ]
      refine wpAnyH_ready (rs := [3]) (by kernel_rfl) (by simp) ?_
      refine AllReadyH.cons rfl (fun K hK => ?_) AllReadyH.nil
      go_simp
      refine (dyBright_is lo hi v false G1.out _).mono ?_
      rintro e W1 ⟨rfl, hb1⟩
      refine hK.out _ _ (hHeld.trans (hb1.mono hHeld.size)) (fun hHeld2 => ?_)
      clear hK K
      replace hHeld := hHeld2
      clear hHeld2
      clear hb1
      refine take_op (i := 4) (d := 16) (v := ?_) rfl rfl (by kernel_rfl) (by kernel_rfl) (by kernel_rfl) (fun _ _ _ h => h) (Or.inl ⟨by rfl, ?hy4u30⟩) hHeld ?rest4u30
      case hy4u30 =>
        intro w' hS'
        go_simp
        try with_reducible rfl
      simp only [List.setIfInBounds_toArray, List.set_cons_zero, List.set_cons_succ]
      refine take_op (i := 5) (d := 17) (v := ?_) rfl rfl (by kernel_rfl) (by kernel_rfl) (by kernel_rfl) (fun _ _ _ h => h) (Or.inl ⟨by rfl, ?hy5u31⟩) hHeld ?rest5u31
      case hy5u31 =>
        intro w' hS'
        go_simp
        try with_reducible rfl
      simp only [List.setIfInBounds_toArray, List.set_cons_zero, List.set_cons_succ]
      refine take_op (i := 6) (d := 18) (v := ?_) rfl rfl (by kernel_rfl) (by kernel_rfl) (by kernel_rfl) (fun _ _ _ h => h) (Or.inl ⟨by rfl, ?hy6u32⟩) hHeld ?rest6u32
      case hy6u32 =>
        intro w' hS'
        go_simp
        try with_reducible rfl
      simp only [List.setIfInBounds_toArray, List.set_cons_zero, List.set_cons_succ]
      refine take_op (i := 7) (d := 19) (v := .agg (bnC lo hi)) rfl rfl (by kernel_rfl) (by kernel_rfl) (by kernel_rfl) (fun _ _ _ h => h) (yields_row (by rfl) 99 (.tmp 18) (by rfl) w.heap.size 49 2 (by rfl) 123 (dayC hs ts fc lo hi n wd gp t sh) (0, 0) _ (fun _ h => below_row h H0.out) Tryz.underlying99 rfl info_bn (dy_fits 51 (by decide) hs ts Hh.out Ht.out fc lo hi n wd gp t sh) (bnC lo hi) (dy_bn hs ts Hh.out Ht.out fc lo hi n wd gp t sh)) hHeld ?_
      simp only [List.setIfInBounds_toArray, List.set_cons_zero, List.set_cons_succ]
      refine take_op (i := 8) (d := 20) (v := ?_) rfl rfl (by kernel_rfl) (by kernel_rfl) (by kernel_rfl) (fun _ _ _ h => h) (Or.inl ⟨by rfl, ?hy8u33⟩) hHeld ?rest8u33
      case hy8u33 =>
        intro w' hS'
        go_simp
        try with_reducible rfl
      simp only [List.setIfInBounds_toArray, List.set_cons_zero, List.set_cons_succ]
      refine wpAnyH_ready (rs := [9]) (by kernel_rfl) (by simp) ?_
      refine AllReadyH.cons rfl (fun K hK => ?_) AllReadyH.nil
      go_simp
      refine (dyDark_is lo hi v false G2.out _).mono ?_
      rintro e W1 ⟨rfl, hb1⟩
      refine hK.out _ _ (hHeld.trans (hb1.mono hHeld.size)) (fun hHeld2 => ?_)
      clear hK K
      replace hHeld := hHeld2
      clear hHeld2
      clear hb1
      refine take_op (i := 10) (d := 22) (v := ?_) rfl rfl (by kernel_rfl) (by kernel_rfl) (by kernel_rfl) (fun _ _ _ h => h) (Or.inl ⟨by rfl, ?hy10u34⟩) hHeld ?rest10u34
      case hy10u34 =>
        intro w' hS'
        go_simp
        try with_reducible rfl
      simp only [List.setIfInBounds_toArray, List.set_cons_zero, List.set_cons_succ]
      refine take_op (i := 11) (d := 23) (v := ?_) rfl rfl (by kernel_rfl) (by kernel_rfl) (by kernel_rfl) (fun _ _ _ h => h) (Or.inl ⟨by rfl, ?hy11u35⟩) hHeld ?rest11u35
      case hy11u35 =>
        intro w' hS'
        go_simp
        try with_reducible rfl
      simp only [List.setIfInBounds_toArray, List.set_cons_zero, List.set_cons_succ]
      refine take_op (i := 12) (d := 24) rfl rfl (by kernel_rfl) (by kernel_rfl) (by kernel_rfl) (fun _ _ _ h => h) (Or.inr ⟨by rfl, rfl⟩) hHeld ?_
      simp only [List.setIfInBounds_toArray, List.set_cons_zero, List.set_cons_succ]
      refine take_op (i := 13) (d := 25) rfl rfl (by kernel_rfl) (by kernel_rfl) (by kernel_rfl) (fun _ _ _ h => h) (Or.inr ⟨by rfl, rfl⟩) hHeld ?_
      simp only [List.setIfInBounds_toArray, List.set_cons_zero, List.set_cons_succ]
      refine take_op (i := 14) (d := 26) rfl rfl (by kernel_rfl) (by kernel_rfl) (by kernel_rfl) (fun _ _ _ h => h) (Or.inr ⟨by rfl, rfl⟩) hHeld ?_
      simp only [List.setIfInBounds_toArray, List.set_cons_zero, List.set_cons_succ]
      refine take_op (i := 15) (d := 27) rfl rfl (by kernel_rfl) (by kernel_rfl) (by kernel_rfl) (fun _ _ _ h => h) (Or.inr ⟨by rfl, rfl⟩) hHeld ?_
      simp only [List.setIfInBounds_toArray, List.set_cons_zero, List.set_cons_succ]
      refine take_op (i := 16) (d := 28) rfl rfl (by kernel_rfl) (by kernel_rfl) (by kernel_rfl) (fun _ _ _ h => h) (Or.inr ⟨by rfl, rfl⟩) hHeld ?_
      simp only [List.setIfInBounds_toArray, List.set_cons_zero, List.set_cons_succ]
      refine take_op (i := 17) (d := 29) rfl rfl (by kernel_rfl) (by kernel_rfl) (by kernel_rfl) (fun _ _ _ h => h) (Or.inr ⟨by rfl, rfl⟩) hHeld ?_
      simp only [List.setIfInBounds_toArray, List.set_cons_zero, List.set_cons_succ]
      refine take_op (i := 18) (d := 30) rfl rfl (by kernel_rfl) (by kernel_rfl) (by kernel_rfl) (fun _ _ _ h => h) (Or.inr ⟨by rfl, rfl⟩) hHeld ?_
      simp only [List.setIfInBounds_toArray, List.set_cons_zero, List.set_cons_succ]
      refine take_op (i := 19) (d := 31) (v := ?_) rfl rfl (by kernel_rfl) (by kernel_rfl) (by kernel_rfl) (fun _ _ _ h => h) (Or.inl ⟨by rfl, ?hy19u36⟩) hHeld ?rest19u36
      case hy19u36 =>
        intro w' hS'
        go_simp
        try with_reducible rfl
      simp only [List.setIfInBounds_toArray, List.set_cons_zero, List.set_cons_succ]
      refine take_op (i := 20) (d := 32) (v := ?_) rfl rfl (by kernel_rfl) (by kernel_rfl) (by kernel_rfl) (fun _ _ _ h => h) (Or.inl ⟨by rfl, ?hy20u37⟩) hHeld ?rest20u37
      case hy20u37 =>
        intro w' hS'
        go_simp
        try with_reducible rfl
      simp only [List.setIfInBounds_toArray, List.set_cons_zero, List.set_cons_succ]
      refine take_op (i := 21) (d := 6) (v := ?_) rfl rfl (by kernel_rfl) (by kernel_rfl) (by kernel_rfl) (fun _ _ _ h => h) (Or.inl ⟨by rfl, ?hy21u38⟩) hHeld ?rest21u38
      case hy21u38 =>
        intro w' hS'
        go_simp
        try with_reducible rfl
      simp only [List.setIfInBounds_toArray, List.set_cons_zero, List.set_cons_succ]
      refine wpAnyH_done (by kernel_rfl) ?_ _
      replace hb := hb.trans (hHeld.mono hb.size)
      clear hHeld H0 HL HF
      go_wp2
      go_ret
      exact ⟨rfl, hb⟩
    · have G1 := Lib.hid g1
      have G2 := Lib.hid g2
      obtain ⟨g, g3⟩ : ∃ g, ltO f lo = g := ⟨_, rfl⟩
      have G3 := Lib.hid g3
      rw [g3]
      clear g1 g2 g3
      go_enter Tryz.func139, Tryz.ntmps139
      go_upto_region 1 with (fail)
      refine abs_code (fun W => W.heap[w.heap.size]? = some (.cells (dayC hs ts fc lo hi n wd gp t sh) 123 (0, 0)) ∧ Below w.heap.size w W) ⟨heap_alloc_new _ _, (Below.refl _ _).alloc (Nat.le_refl _) _⟩ ?_
      rintro W0 ⟨h0, hb⟩
      have H0 := Lib.hid h0
      clear h0
      go_upto_region 2 with (first | (refine wpList_load_part rfl 123 _ rfl w.heap.size 0 56 rfl 123 (dayC hs ts fc lo hi n wd gp t sh) (0, 0) _ H0.out Tryz.underlying123 rfl info_dy (dy_fits 56 (by decide) hs ts Hh.out Ht.out fc lo hi n wd gp t sh) (dayC hs ts fc lo hi n wd gp t sh) (dy_all hs ts Hh.out Ht.out fc lo hi n wd gp t sh) ?_) | (go_at_call 173; refine (HL.out _).mono ?_; rintro e W ⟨rfl, hb1⟩; replace H0 := Lib.hid (below_row hb1 H0.out); replace hb := hb.trans (hb1.mono hb.size); clear hb1))
      refine wp_region_held_drew (S := (fun V => Below W.heap.size W V)) (by kernel_rfl) (Below.refl _ _).drew (fun hHeld => ?_)
      refine take_op (i := 0) (d := 12) (v := ?_) rfl rfl (by kernel_rfl) (by kernel_rfl) (by kernel_rfl) (fun _ _ _ h => h) (Or.inl ⟨by rfl, ?hy0u39⟩) hHeld ?rest0u39
      case hy0u39 =>
        intro w' hS'
        go_simp
        try with_reducible rfl
      simp only [List.setIfInBounds_toArray, List.set_cons_zero, List.set_cons_succ]
      refine take_op (i := 1) (d := 13) (v := .agg (bnC lo hi)) rfl rfl (by kernel_rfl) (by kernel_rfl) (by kernel_rfl) (fun _ _ _ h => h) (yields_row (by rfl) 99 (.tmp 12) (by rfl) w.heap.size 49 2 (by rfl) 123 (dayC hs ts fc lo hi n wd gp t sh) (0, 0) _ (fun _ h => below_row h H0.out) Tryz.underlying99 rfl info_bn (dy_fits 51 (by decide) hs ts Hh.out Ht.out fc lo hi n wd gp t sh) (bnC lo hi) (dy_bn hs ts Hh.out Ht.out fc lo hi n wd gp t sh)) hHeld ?_
      simp only [List.setIfInBounds_toArray, List.set_cons_zero, List.set_cons_succ]
      refine take_op (i := 2) (d := 14) (v := ?_) rfl rfl (by kernel_rfl) (by kernel_rfl) (by kernel_rfl) (fun _ _ _ h => h) (Or.inl ⟨by rfl, ?hy2u40⟩) hHeld ?rest2u40
      case hy2u40 =>
        intro w' hS'
        go_simp
        try with_reducible rfl
      simp only [List.setIfInBounds_toArray, List.set_cons_zero, List.set_cons_succ]
      refine wpAnyH_ready (rs := [3]) (by kernel_rfl) (by simp) ?_
      refine AllReadyH.cons rfl (fun K hK => ?_) AllReadyH.nil
      go_simp
      refine (dyBright_is lo hi v false G1.out _).mono ?_
      rintro e W1 ⟨rfl, hb1⟩
      refine hK.out _ _ (hHeld.trans (hb1.mono hHeld.size)) (fun hHeld2 => ?_)
      clear hK K
      replace hHeld := hHeld2
      clear hHeld2
      clear hb1
      refine take_op (i := 4) (d := 16) (v := ?_) rfl rfl (by kernel_rfl) (by kernel_rfl) (by kernel_rfl) (fun _ _ _ h => h) (Or.inl ⟨by rfl, ?hy4u41⟩) hHeld ?rest4u41
      case hy4u41 =>
        intro w' hS'
        go_simp
        try with_reducible rfl
      simp only [List.setIfInBounds_toArray, List.set_cons_zero, List.set_cons_succ]
      refine take_op (i := 5) (d := 17) (v := ?_) rfl rfl (by kernel_rfl) (by kernel_rfl) (by kernel_rfl) (fun _ _ _ h => h) (Or.inl ⟨by rfl, ?hy5u42⟩) hHeld ?rest5u42
      case hy5u42 =>
        intro w' hS'
        go_simp
        try with_reducible rfl
      simp only [List.setIfInBounds_toArray, List.set_cons_zero, List.set_cons_succ]
      refine take_op (i := 6) (d := 18) (v := ?_) rfl rfl (by kernel_rfl) (by kernel_rfl) (by kernel_rfl) (fun _ _ _ h => h) (Or.inl ⟨by rfl, ?hy6u43⟩) hHeld ?rest6u43
      case hy6u43 =>
        intro w' hS'
        go_simp
        try with_reducible rfl
      simp only [List.setIfInBounds_toArray, List.set_cons_zero, List.set_cons_succ]
      refine take_op (i := 7) (d := 19) (v := .agg (bnC lo hi)) rfl rfl (by kernel_rfl) (by kernel_rfl) (by kernel_rfl) (fun _ _ _ h => h) (yields_row (by rfl) 99 (.tmp 18) (by rfl) w.heap.size 49 2 (by rfl) 123 (dayC hs ts fc lo hi n wd gp t sh) (0, 0) _ (fun _ h => below_row h H0.out) Tryz.underlying99 rfl info_bn (dy_fits 51 (by decide) hs ts Hh.out Ht.out fc lo hi n wd gp t sh) (bnC lo hi) (dy_bn hs ts Hh.out Ht.out fc lo hi n wd gp t sh)) hHeld ?_
      simp only [List.setIfInBounds_toArray, List.set_cons_zero, List.set_cons_succ]
      refine take_op (i := 8) (d := 20) (v := ?_) rfl rfl (by kernel_rfl) (by kernel_rfl) (by kernel_rfl) (fun _ _ _ h => h) (Or.inl ⟨by rfl, ?hy8u44⟩) hHeld ?rest8u44
      case hy8u44 =>
        intro w' hS'
        go_simp
        try with_reducible rfl
      simp only [List.setIfInBounds_toArray, List.set_cons_zero, List.set_cons_succ]
      refine wpAnyH_ready (rs := [9]) (by kernel_rfl) (by simp) ?_
      refine AllReadyH.cons rfl (fun K hK => ?_) AllReadyH.nil
      go_simp
      refine (dyDark_is lo hi v true G2.out _).mono ?_
      rintro e W1 ⟨rfl, hb1⟩
      refine hK.out _ _ (hHeld.trans (hb1.mono hHeld.size)) (fun hHeld2 => ?_)
      clear hK K
      replace hHeld := hHeld2
      clear hHeld2
      clear hb1
      refine take_op (i := 10) (d := 22) (v := ?_) rfl rfl (by kernel_rfl) (by kernel_rfl) (by kernel_rfl) (fun _ _ _ h => h) (Or.inl ⟨by rfl, ?hy10u45⟩) hHeld ?rest10u45
      case hy10u45 =>
        intro w' hS'
        go_simp
        try with_reducible rfl
      simp only [List.setIfInBounds_toArray, List.set_cons_zero, List.set_cons_succ]
      refine take_op (i := 11) (d := 23) (v := ?_) rfl rfl (by kernel_rfl) (by kernel_rfl) (by kernel_rfl) (fun _ _ _ h => h) (Or.inl ⟨by rfl, ?hy11u46⟩) hHeld ?rest11u46
      case hy11u46 =>
        intro w' hS'
        go_simp
        try with_reducible rfl
      simp only [List.setIfInBounds_toArray, List.set_cons_zero, List.set_cons_succ]
      refine take_op (i := 12) (d := 24) (v := ?_) rfl rfl (by kernel_rfl) (by kernel_rfl) (by kernel_rfl) (fun _ _ _ h => h) (Or.inl ⟨by rfl, ?hy12u47⟩) hHeld ?rest12u47
      case hy12u47 =>
        intro w' hS'
        go_simp
        try with_reducible rfl
      simp only [List.setIfInBounds_toArray, List.set_cons_zero, List.set_cons_succ]
      refine take_op (i := 13) (d := 25) (v := .agg (bnC lo hi)) rfl rfl (by kernel_rfl) (by kernel_rfl) (by kernel_rfl) (fun _ _ _ h => h) (yields_row (by rfl) 99 (.tmp 24) (by rfl) w.heap.size 49 2 (by rfl) 123 (dayC hs ts fc lo hi n wd gp t sh) (0, 0) _ (fun _ h => below_row h H0.out) Tryz.underlying99 rfl info_bn (dy_fits 51 (by decide) hs ts Hh.out Ht.out fc lo hi n wd gp t sh) (bnC lo hi) (dy_bn hs ts Hh.out Ht.out fc lo hi n wd gp t sh)) hHeld ?_
      simp only [List.setIfInBounds_toArray, List.set_cons_zero, List.set_cons_succ]
      refine take_op (i := 14) (d := 26) (v := ?_) rfl rfl (by kernel_rfl) (by kernel_rfl) (by kernel_rfl) (fun _ _ _ h => h) (Or.inl ⟨by rfl, ?hy14u48⟩) hHeld ?rest14u48
      case hy14u48 =>
        intro w' hS'
        go_simp
        try with_reducible rfl
      simp only [List.setIfInBounds_toArray, List.set_cons_zero, List.set_cons_succ]
      refine take_op (i := 15) (d := 27) (v := .agg (fsC hs ts fc)) rfl rfl (by kernel_rfl) (by kernel_rfl) (by kernel_rfl) (fun _ _ _ h => h) (yields_row (by rfl) 121 (.tmp 26) (by rfl) w.heap.size 0 49 (by rfl) 123 (dayC hs ts fc lo hi n wd gp t sh) (0, 0) _ (fun _ h => below_row h H0.out) Tryz.underlying121 rfl info_fs (dy_fits 49 (by decide) hs ts Hh.out Ht.out fc lo hi n wd gp t sh) (fsC hs ts fc) (dy_fs hs ts Hh.out Ht.out fc lo hi n wd gp t sh)) hHeld ?_
      simp only [List.setIfInBounds_toArray, List.set_cons_zero, List.set_cons_succ]
      refine take_op (i := 16) (d := 28) (v := ?_) rfl rfl (by kernel_rfl) (by kernel_rfl) (by kernel_rfl) (fun _ _ _ h => h) (Or.inl ⟨by rfl, ?hy16u49⟩) hHeld ?rest16u49
      case hy16u49 =>
        intro w' hS'
        go_simp
        try with_reducible rfl
      simp only [List.setIfInBounds_toArray, List.set_cons_zero, List.set_cons_succ]
      refine wpAnyH_ready (rs := [17]) (by kernel_rfl) (by simp) ?_
      refine AllReadyH.cons rfl (fun K hK => ?_) AllReadyH.nil
      go_simp
      refine (HF.out _).mono ?_
      rintro e W1 ⟨rfl, hb1⟩
      refine hK.out _ _ (hHeld.trans (hb1.mono hHeld.size)) (fun hHeld2 => ?_)
      clear hK K
      replace hHeld := hHeld2
      clear hHeld2
      clear hb1
      refine wpAnyH_ready (rs := [18]) (by kernel_rfl) (by simp) ?_
      refine AllReadyH.cons rfl (fun K hK => ?_) AllReadyH.nil
      go_simp
      refine (dyDark_is lo hi f g G3.out _).mono ?_
      rintro e W1 ⟨rfl, hb1⟩
      refine hK.out _ _ (hHeld.trans (hb1.mono hHeld.size)) (fun hHeld2 => ?_)
      clear hK K
      replace hHeld := hHeld2
      clear hHeld2
      clear hb1
      refine take_op (i := 19) (d := 31) (v := ?_) rfl rfl (by kernel_rfl) (by kernel_rfl) (by kernel_rfl) (fun _ _ _ h => h) (Or.inl ⟨by rfl, ?hy19u50⟩) hHeld ?rest19u50
      case hy19u50 =>
        intro w' hS'
        go_simp
        try with_reducible rfl
      simp only [List.setIfInBounds_toArray, List.set_cons_zero, List.set_cons_succ]
      refine take_op (i := 20) (d := 32) (v := ?_) rfl rfl (by kernel_rfl) (by kernel_rfl) (by kernel_rfl) (fun _ _ _ h => h) (Or.inl ⟨by rfl, ?hy20u51⟩) hHeld ?rest20u51
      case hy20u51 =>
        intro w' hS'
        go_simp
        try with_reducible rfl
      simp only [List.setIfInBounds_toArray, List.set_cons_zero, List.set_cons_succ]
      refine take_op (i := 21) (d := 6) (v := ?_) rfl rfl (by kernel_rfl) (by kernel_rfl) (by kernel_rfl) (fun _ _ _ h => h) (Or.inl ⟨by rfl, ?hy21u52⟩) hHeld ?rest21u52
      case hy21u52 =>
        intro w' hS'
        go_simp
        try with_reducible rfl
      simp only [List.setIfInBounds_toArray, List.set_cons_zero, List.set_cons_succ]
      refine wpAnyH_done (by kernel_rfl) ?_ _
      replace hb := hb.trans (hHeld.mono hb.size)
      clear hHeld H0 HL HF
      go_wp2
      go_ret
      exact ⟨rfl, hb⟩
  · have G1 := Lib.hid g1
    clear g1
    go_enter Tryz.func139, Tryz.ntmps139
    go_upto_region 1 with (fail)
    refine abs_code (fun W => W.heap[w.heap.size]? = some (.cells (dayC hs ts fc lo hi n wd gp t sh) 123 (0, 0)) ∧ Below w.heap.size w W) ⟨heap_alloc_new _ _, (Below.refl _ _).alloc (Nat.le_refl _) _⟩ ?_
    rintro W0 ⟨h0, hb⟩
    have H0 := Lib.hid h0
    clear h0
    go_upto_region 2 with (first | (refine wpList_load_part rfl 123 _ rfl w.heap.size 0 56 rfl 123 (dayC hs ts fc lo hi n wd gp t sh) (0, 0) _ H0.out Tryz.underlying123 rfl info_dy (dy_fits 56 (by decide) hs ts Hh.out Ht.out fc lo hi n wd gp t sh) (dayC hs ts fc lo hi n wd gp t sh) (dy_all hs ts Hh.out Ht.out fc lo hi n wd gp t sh) ?_) | (go_at_call 173; refine (HL.out _).mono ?_; rintro e W ⟨rfl, hb1⟩; replace H0 := Lib.hid (below_row hb1 H0.out); replace hb := hb.trans (hb1.mono hb.size); clear hb1))
    refine wp_region_held_drew (S := (fun V => Below W.heap.size W V)) (by kernel_rfl) (Below.refl _ _).drew (fun hHeld => ?_)
    refine take_op (i := 0) (d := 12) (v := ?_) rfl rfl (by kernel_rfl) (by kernel_rfl) (by kernel_rfl) (fun _ _ _ h => h) (Or.inl ⟨by rfl, ?hy0u53⟩) hHeld ?rest0u53
    case hy0u53 =>
      intro w' hS'
      go_simp
      try with_reducible rfl
    simp only [List.setIfInBounds_toArray, List.set_cons_zero, List.set_cons_succ]
    refine take_op (i := 1) (d := 13) (v := .agg (bnC lo hi)) rfl rfl (by kernel_rfl) (by kernel_rfl) (by kernel_rfl) (fun _ _ _ h => h) (yields_row (by rfl) 99 (.tmp 12) (by rfl) w.heap.size 49 2 (by rfl) 123 (dayC hs ts fc lo hi n wd gp t sh) (0, 0) _ (fun _ h => below_row h H0.out) Tryz.underlying99 rfl info_bn (dy_fits 51 (by decide) hs ts Hh.out Ht.out fc lo hi n wd gp t sh) (bnC lo hi) (dy_bn hs ts Hh.out Ht.out fc lo hi n wd gp t sh)) hHeld ?_
    simp only [List.setIfInBounds_toArray, List.set_cons_zero, List.set_cons_succ]
    refine take_op (i := 2) (d := 14) (v := ?_) rfl rfl (by kernel_rfl) (by kernel_rfl) (by kernel_rfl) (fun _ _ _ h => h) (Or.inl ⟨by rfl, ?hy2u54⟩) hHeld ?rest2u54
    case hy2u54 =>
      intro w' hS'
      go_simp
      try with_reducible rfl
    simp only [List.setIfInBounds_toArray, List.set_cons_zero, List.set_cons_succ]
    refine wpAnyH_ready (rs := [3]) (by kernel_rfl) (by simp) ?_
    refine AllReadyH.cons rfl (fun K hK => ?_) AllReadyH.nil
    go_simp
    refine (dyBright_is lo hi v true G1.out _).mono ?_
    rintro e W1 ⟨rfl, hb1⟩
    refine hK.out _ _ (hHeld.trans (hb1.mono hHeld.size)) (fun hHeld2 => ?_)
    clear hK K
    replace hHeld := hHeld2
    clear hHeld2
    clear hb1
    refine take_op (i := 4) (d := 16) (v := ?_) rfl rfl (by kernel_rfl) (by kernel_rfl) (by kernel_rfl) (fun _ _ _ h => h) (Or.inl ⟨by rfl, ?hy4u55⟩) hHeld ?rest4u55
    case hy4u55 =>
      intro w' hS'
      go_simp
      try with_reducible rfl
    simp only [List.setIfInBounds_toArray, List.set_cons_zero, List.set_cons_succ]
    refine take_op (i := 5) (d := 17) (v := ?_) rfl rfl (by kernel_rfl) (by kernel_rfl) (by kernel_rfl) (fun _ _ _ h => h) (Or.inl ⟨by rfl, ?hy5u56⟩) hHeld ?rest5u56
    case hy5u56 =>
      intro w' hS'
      go_simp
      try with_reducible rfl
    simp only [List.setIfInBounds_toArray, List.set_cons_zero, List.set_cons_succ]
    refine take_op (i := 6) (d := 18) rfl rfl (by kernel_rfl) (by kernel_rfl) (by kernel_rfl) (fun _ _ _ h => h) (Or.inr ⟨by rfl, rfl⟩) hHeld ?_
    simp only [List.setIfInBounds_toArray, List.set_cons_zero, List.set_cons_succ]
    refine take_op (i := 7) (d := 19) rfl rfl (by kernel_rfl) (by kernel_rfl) (by kernel_rfl) (fun _ _ _ h => h) (Or.inr ⟨by rfl, rfl⟩) hHeld ?_
    simp only [List.setIfInBounds_toArray, List.set_cons_zero, List.set_cons_succ]
    refine take_op (i := 8) (d := 20) rfl rfl (by kernel_rfl) (by kernel_rfl) (by kernel_rfl) (fun _ _ _ h => h) (Or.inr ⟨by rfl, rfl⟩) hHeld ?_
    simp only [List.setIfInBounds_toArray, List.set_cons_zero, List.set_cons_succ]
    refine take_op (i := 9) (d := 21) rfl rfl (by kernel_rfl) (by kernel_rfl) (by kernel_rfl) (fun _ _ _ h => h) (Or.inr ⟨by rfl, rfl⟩) hHeld ?_
    simp only [List.setIfInBounds_toArray, List.set_cons_zero, List.set_cons_succ]
    refine take_op (i := 10) (d := 22) rfl rfl (by kernel_rfl) (by kernel_rfl) (by kernel_rfl) (fun _ _ _ h => h) (Or.inr ⟨by rfl, rfl⟩) hHeld ?_
    simp only [List.setIfInBounds_toArray, List.set_cons_zero, List.set_cons_succ]
    refine take_op (i := 11) (d := 23) rfl rfl (by kernel_rfl) (by kernel_rfl) (by kernel_rfl) (fun _ _ _ h => h) (Or.inr ⟨by rfl, rfl⟩) hHeld ?_
    simp only [List.setIfInBounds_toArray, List.set_cons_zero, List.set_cons_succ]
    refine take_op (i := 12) (d := 24) rfl rfl (by kernel_rfl) (by kernel_rfl) (by kernel_rfl) (fun _ _ _ h => h) (Or.inr ⟨by rfl, rfl⟩) hHeld ?_
    simp only [List.setIfInBounds_toArray, List.set_cons_zero, List.set_cons_succ]
    refine take_op (i := 13) (d := 25) rfl rfl (by kernel_rfl) (by kernel_rfl) (by kernel_rfl) (fun _ _ _ h => h) (Or.inr ⟨by rfl, rfl⟩) hHeld ?_
    simp only [List.setIfInBounds_toArray, List.set_cons_zero, List.set_cons_succ]
    refine take_op (i := 14) (d := 26) rfl rfl (by kernel_rfl) (by kernel_rfl) (by kernel_rfl) (fun _ _ _ h => h) (Or.inr ⟨by rfl, rfl⟩) hHeld ?_
    simp only [List.setIfInBounds_toArray, List.set_cons_zero, List.set_cons_succ]
    refine take_op (i := 15) (d := 27) rfl rfl (by kernel_rfl) (by kernel_rfl) (by kernel_rfl) (fun _ _ _ h => h) (Or.inr ⟨by rfl, rfl⟩) hHeld ?_
    simp only [List.setIfInBounds_toArray, List.set_cons_zero, List.set_cons_succ]
    refine take_op (i := 16) (d := 28) rfl rfl (by kernel_rfl) (by kernel_rfl) (by kernel_rfl) (fun _ _ _ h => h) (Or.inr ⟨by rfl, rfl⟩) hHeld ?_
    simp only [List.setIfInBounds_toArray, List.set_cons_zero, List.set_cons_succ]
    refine take_op (i := 17) (d := 29) rfl rfl (by kernel_rfl) (by kernel_rfl) (by kernel_rfl) (fun _ _ _ h => h) (Or.inr ⟨by rfl, rfl⟩) hHeld ?_
    simp only [List.setIfInBounds_toArray, List.set_cons_zero, List.set_cons_succ]
    refine take_op (i := 18) (d := 30) rfl rfl (by kernel_rfl) (by kernel_rfl) (by kernel_rfl) (fun _ _ _ h => h) (Or.inr ⟨by rfl, rfl⟩) hHeld ?_
    simp only [List.setIfInBounds_toArray, List.set_cons_zero, List.set_cons_succ]
    refine take_op (i := 19) (d := 31) rfl rfl (by kernel_rfl) (by kernel_rfl) (by kernel_rfl) (fun _ _ _ h => h) (Or.inr ⟨by rfl, rfl⟩) hHeld ?_
    simp only [List.setIfInBounds_toArray, List.set_cons_zero, List.set_cons_succ]
    refine take_op (i := 20) (d := 32) (v := ?_) rfl rfl (by kernel_rfl) (by kernel_rfl) (by kernel_rfl) (fun _ _ _ h => h) (Or.inl ⟨by rfl, ?hy20u57⟩) hHeld ?rest20u57
    case hy20u57 =>
      intro w' hS'
      go_simp
      try with_reducible rfl
    simp only [List.setIfInBounds_toArray, List.set_cons_zero, List.set_cons_succ]
    refine take_op (i := 21) (d := 6) (v := ?_) rfl rfl (by kernel_rfl) (by kernel_rfl) (by kernel_rfl) (fun _ _ _ h => h) (Or.inl ⟨by rfl, ?hy21u58⟩) hHeld ?rest21u58
    case hy21u58 =>
      intro w' hS'
      go_simp
      try with_reducible rfl
    simp only [List.setIfInBounds_toArray, List.set_cons_zero, List.set_cons_succ]
    refine wpAnyH_done (by kernel_rfl) ?_ _
    replace hb := hb.trans (hHeld.mono hb.size)
    clear hHeld H0 HL HF
    go_wp2
    go_ret
    exact ⟨rfl, hb⟩

end Go.Proofs.YtddnfbpgldchcaaGreatDoor

namespace Go.Proofs.YtddnfbpgldchcaaGreatDoor

open Go.ChangeShapes Go.WideShapes Go.ChangeAt Go.RowKit

set_option maxRecDepth 100000 in
theorem info_plan : (Tryz.prog.info? 52).map (·.size) = some 24 := by kernel_rfl

end Go.Proofs.YtddnfbpgldchcaaGreatDoor

namespace Go.Proofs.YtddnfbpgldchcaaGreatDoor

open Go.ChangeShapes Go.WideShapes Go.ChangeAt Go.RowKit Go.Deep Go.Joins

def okP (ps : List Int) : Bool := ps.all (fun x => inI (-64) 64 x)

theorem okP_iff (ps : List Int) (hp : ps.length = 24) : okP ps = true ↔ ∀ k, k < 24 → inI (-64) 64 (ps[k]?.getD 0) = true := by
  unfold okP
  rw [List.all_eq_true]
  constructor
  · intro h k hk
    have e : ps[k]? = some (ps[k]'(by omega)) := List.getElem?_eq_getElem (by omega)
    rw [e]; exact h _ (List.getElem_mem _)
  · intro h x hx
    obtain ⟨k, hk, rfl⟩ := List.mem_iff_getElem.1 hx
    have := h k (by omega)
    rw [List.getElem?_eq_getElem hk] at this
    exact this

theorem okP_false {ps : List Int} (hp : ps.length = 24) (k : Nat) (hk : k < 24) (h : inI (-64) 64 (ps[k]?.getD 0) = false) : okP ps = false := by
  rw [Bool.eq_false_iff]
  intro ha
  have := (okP_iff ps hp).1 ha k hk
  rw [h] at this; cases this

set_option maxRecDepth 100000 in
set_option maxHeartbeats 1000000 in
theorem l07Plan_any (b : Nat) (ps : List Int) (hp : ps.length = 24) (pb : ∀ x ∈ ps, -32768 ≤ x ∧ x ≤ 32767) (t : TypeId) (fr : Nat × Nat) (w : World) (hg : w.heap[b]? = some (.cells (i16s ps) t fr)) :
    Calls Tryz.prog 135 #[.pointer (some ⟨b, 0, none⟩)] w fun e w' => e = .returned (.bool (okP ps)) ∧ w = w' := by
  have Hp := Lib.hid hp
  have Hg := Lib.hid hg
  have Rb := Lib.hid pb
  clear hp hg pb
  go_enter Tryz.func135, Tryz.ntmps135
  go_wp2
  go_loop [3] (fun i => ∃ k : Nat, k ≤ 24 ∧ i = .int .i64 k ∧ Hid (∀ j, j < k → inI (-64) 64 (ps[j]?.getD 0) = true)) (fun i => 24 - (intOf i).toNat)
  case atStart => exact ⟨0, Nat.zero_le _, rfl, Lib.hid (fun j h => absurd h (by omega))⟩
  case round =>
    obtain ⟨k, hk, rfl, hj⟩ := hrel
    by_cases hlt : k < 24
    · have c0 := cell_of_i16s Hg.out k (by rw [Hp.out]; exact hlt)
      have hxb := rb_get Rb.out k
      generalize hA : ps[k]?.getD 0 = x at *
      have HA := Lib.hid hA
      clear hA
      obtain ⟨hx0, hx1⟩ := hxb
      by_cases h1 : inI (-64) 64 x = true
      · go_wp2_with (go_at_call 142; refine (l02Tilt_any _ _).mono ?_; rintro e w' ⟨rfl, rfl⟩)
        go_round
        case rel =>
          refine ⟨k + 1, by omega, by go_num, Lib.hid fun j hj' => ?_⟩
          by_cases e : j = k
          · subst e; rw [HA.out]; exact h1
          · exact hj.out j (by omega)
        case measure => simp [intOf]; omega
      · have h1' : inI (-64) 64 x = false := by simpa using h1
        have hno := Lib.hid (okP_false Hp.out k hlt (by rw [HA.out]; exact h1'))
        clear h1
        go_wp2_with (go_at_call 142; refine (l02Tilt_any _ _).mono ?_; rintro e w' ⟨rfl, rfl⟩)
        go_ret
        rw [hno.out]; exact ⟨rfl, rfl⟩
    · obtain rfl : k = 24 := by omega
      have hyes := Lib.hid ((okP_iff ps Hp.out).2 hj.out)
      go_wp2
      go_ret
      rw [hyes.out]; exact ⟨rfl, rfl⟩

end Go.Proofs.YtddnfbpgldchcaaGreatDoor

namespace Go.Proofs.YtddnfbpgldchcaaGreatDoor

open Go.ChangeShapes Go.WideShapes Go.ChangeAt Go.RowKit Go.Shelf

attribute [local go_sem] Oper.semAt_some run_store_float

/-- The first number below a bound for which something does not hold. -/
def firstNo (p : Nat → Bool) : Nat → Nat → Option Nat
  | _, 0 => none
  | a, m + 1 => if p a then firstNo p (a + 1) m else some a

theorem firstNo_none (p : Nat → Bool) : ∀ m a, (∀ j, a ≤ j → j < a + m → p j = true) → firstNo p a m = none
  | 0, _, _ => rfl
  | m + 1, a, h => by
    rw [firstNo, if_pos (h a (Nat.le_refl _) (by omega))]
    exact firstNo_none p m (a + 1) (fun j h1 h2 => h j (by omega) (by omega))

theorem firstNo_some (p : Nat → Bool) (k : Nat) (hk : p k = false) : ∀ m a, a ≤ k → k < a + m → (∀ j, a ≤ j → j < k → p j = true) → firstNo p a m = some k
  | 0, a, h1, h2, _ => by omega
  | m + 1, a, h1, h2, h => by
    by_cases e : a = k
    · subst e
      rw [firstNo, if_neg (by rw [hk]; decide)]
    · rw [firstNo, if_pos (h a (Nat.le_refl _) (by omega))]
      exact firstNo_some p k hk m (a + 1) (by omega) (by omega) (fun j h1 h2 => h j (by omega) h2)

def hourV : Option Nat → Value
  | none => .nilIface
  | some k => .iface 191 (.agg #[.int .i64 (k : Int)])

def OutI (W0 : World) (b2 : Nat) (p : Nat → Bool) (pre : List Hr) (W : World) : Prop :=
  Below W0.heap.size W0 W ∧ (Good pre → ∀ j, j < pre.length → p j = true) ∧ W0.heap[b2]? = some (.cells #[.nilIface] 114 (0, 0))

def OutX (n0 : Nat) (w0 : World) (b2 : Nat) (p : Nat → Bool) (c : Code) (xs : List Hr) (W : World) : Prop :=
  c = .ret ∧ Below n0 w0 W ∧ n0 ≤ b2 ∧ ∃ k : Nat, k < 24 ∧ p k = false ∧ (Good xs → ∀ j, j < k → p j = true) ∧ W.heap[b2]? = some (.cells #[.iface 191 (.agg #[.int .i64 (k : Int)])] 114 (0, 0))

theorem outI_own (W0 : World) (b2 : Nat) (p : Nat → Bool) (B : Nat) (hB : W0.heap.size ≤ B) : OwnFrom B (OutI W0 b2 p) := by
  intro s W W' row ⟨hb, hg, h2⟩ hg' hr
  exact ⟨ownFrom_below (β := Unit) (Nat.le_refl _) hB () W W' row hb hg' hr, hg, h2⟩

theorem outX_own (n0 : Nat) (w0 : World) (b2 : Nat) (p : Nat → Bool) (c : Code) (B : Nat) (hn : n0 ≤ w0.heap.size) (hB : n0 ≤ B) : OwnFrom B (OutX n0 w0 b2 p c) := by
  intro s W W' row ⟨hc, hb, hnb, k, hk, hp, hg, h2⟩ hg' hr
  have hr2 := fun r e => (hr r e).2
  exact ⟨hc, ownFrom_below (β := Unit) hn hB () W W' row hb hg' hr, hnb, k, hk, hp, hg, heap_kept h2 hg' hr2⟩

/-- What is asked of a day whose hours are looked at. -/
structure DyHr (hs ts : List Int) (fc : Int) : Prop where
  all : ∀ k : Nat, k < 24 → HrOk hs ts (k : Int) fc

def kpAt (hs ts : List Int) (fc : Int) (lo hi : Nat) (wd gp sh : Nat) (ps : List Int) (k : Nat) : Bool := kpB hs ts fc lo hi wd gp sh (k : Int) (ps[k]?.getD 0)

theorem plan_tilt {ps : List Int} (hp : ps.length = 24) (ho : okP ps = true) {k : Nat} (hk : k < 24) : -64 ≤ ps[k]?.getD 0 ∧ ps[k]?.getD 0 ≤ 64 := inI_get ((okP_iff ps hp).1 ho k hk)

set_option maxRecDepth 100000 in
set_option maxHeartbeats 4000000 in
theorem outside_any (hs ts : List Int) (hh : hs.length = 24) (ht : ts.length = 24) (fc : Int) (lo hi : Nat) (n : Int) (wd gp : Nat) (t : Int) (sh : Nat) (ok : BlOk n wd gp t sh) (dh : DyHr hs ts fc) (ps : List Int) (hp : ps.length = 24) (ho : okP ps = true) (w : World) :
    Calls Tryz.prog 77 #[.agg (dayC hs ts fc lo hi n wd gp t sh), .agg (i16s ps)] w fun e w' => e = .returned (hourV (firstNo (kpAt hs ts fc lo hi wd gp sh ps) 0 24)) ∧ Below w.heap.size w w' := by
  refine (callsIn_wide (n := 4)).1 ?_
  have HKP : Hid (∀ k : Nat, k < 24 → ∀ w, Calls Tryz.prog 139 #[.agg (dayC hs ts fc lo hi n wd gp t sh), .int .i64 (k : Int), .int .i64 (ps[k]?.getD 0)] w fun e w' => e = .returned (.bool (kpAt hs ts fc lo hi wd gp sh ps k)) ∧ Below w.heap.size w w') := fun k hk w => keeps_any hs ts hh ht fc lo hi n wd gp t sh ok (k : Int) (ps[k]?.getD 0) (dh.all k hk) (plan_tilt hp ho hk).1 (plan_tilt hp ho hk).2 w
  have HTL := Lib.hid (fun k hk => plan_tilt hp ho (k := k) hk)
  have Hh := Lib.hid hh
  have Ht := Lib.hid ht
  have Hp := Lib.hid hp
  generalize kpAt hs ts fc lo hi wd gp sh ps = kp at *
  clear hh ht ok dh hp ho
  refine callsIn_of_wp_marks Tryz.func77 rfl trivial ?_ rfl
  simp only [Tryz.ntmps77, List.size_toArray, List.length_cons, List.length_nil, Nat.reduceAdd, Nat.reduceSub, Array.replicate_succ, Array.replicate_zero, List.push_toArray, List.append_toArray, List.nil_append, List.cons_append]
  refine wpIn_wide.2 ?_
  go_upto_region 1 with (fail)
  refine abs_world (fun W => W.heap[w.heap.size]? = some (.cells (dayC hs ts fc lo hi n wd gp t sh) 123 (0, 0)) ∧ W.heap[w.heap.size + 1]? = some (.cells (i16s ps) 52 (0, 0)) ∧ W.heap[w.heap.size + 1 + 1]? = some (.cells #[.nilIface] 114 (0, 0)) ∧ Below w.heap.size w W) ⟨(three_new _ _ _ _).1, (three_new _ _ _ _).2.1, (three_new _ _ _ _).2.2.1, (three_new _ _ _ _).2.2.2⟩ ?_
  rintro W0 ⟨r0, r1, r2, hb⟩
  have hs2 : w.heap.size ≤ w.heap.size + 1 + 1 := by omega
  generalize w.heap.size + 1 + 1 = b2 at *
  generalize w.heap.size + 1 = b1 at *
  have hle : w.heap.size ≤ W0.heap.size := hb.size
  have R0 := Lib.hid r0
  have R1 := Lib.hid r1
  have R2 := Lib.hid r2
  have HB := Lib.hid hb
  clear r0 r1 r2 hb
  go_wp2
  refine (wpIn_wide (n := 4)).1 ?_
  refine wpIn_rangeFunc_ownF rfl (by decide) (gf := 131) (lb := #[]) rfl trivial (enters_of Tryz.func131 (by kernel_rfl) rfl)
    (eachHour_stops Fence.wide _ trivial rfl (by decide) w.heap.size _) belowK_t (belowK_b hle) (Below.refl _ _) (fun _ => rfl)
    (OutI W0 b2 kp) (OutX w.heap.size w b2 kp) (outI_own W0 b2 kp _ (by first | (simp; done) | (simp; omega) | exact Nat.le_refl _)) (fun c => outX_own w.heap.size w b2 kp c _ (Nat.le_refl _) hle) ?h0
    (fun x => { tmps := #[.agg (dayC hs ts fc lo hi n wd gp t sh), .agg (i16s ps), .pointer (some ⟨w.heap.size, 0, none⟩), .pointer (some ⟨b1, 0, none⟩), .pointer (some ⟨b2, 0, none⟩), .int .i64 x.1, .int .i64 x.1, undef, undef, undef, undef, undef, undef, undef, undef, undef, undef, undef], defers := [] }) ?assign ?body ?done ?stop
  case h0 => exact ⟨Below.refl _ _, fun _ j hj => by simp at hj, R2.out⟩
  case assign =>
    intro l x W K hK
    gi_wp2
    exact hK
  case body =>
    rintro l pre ⟨x, hx0, hx1⟩ W ⟨hbw, hg, _⟩ hl
    obtain ⟨k, rfl⟩ := Int.eq_ofNat_of_zero_le hx0
    have hk : k < 24 := by omega
    have H0 : Hid (W.heap[w.heap.size]? = some (.cells (dayC hs ts fc lo hi n wd gp t sh) 123 (0, 0))) := below_row hbw R0.out
    have H1 : Hid (W.heap[b1]? = some (.cells (i16s ps) 52 (0, 0))) := below_row hbw R1.out
    have H2 : Hid (W.heap[b2]? = some (.cells #[.nilIface] 114 (0, 0))) := below_row hbw R2.out
    have hK0 := HKP.out k hk
    have hT0 := HTL.out k hk
    obtain ⟨tl, hE⟩ : ∃ tl, ps[k]?.getD 0 = tl := ⟨_, rfl⟩
    rw [hE] at hK0 hT0
    have EX := Lib.hid hE
    have hw : IntKind.i64.wrap tl = tl := i64_small _ (by omega) (by omega)
    have HG := Lib.hid hg
    have hwW : w.heap.size ≤ W.heap.size := Nat.le_trans hle hbw.size
    have hbW : Below w.heap.size w W := HB.out.trans (hbw.mono hle)
    have z1 : (k : Int) < 24 := by omega
    clear hg hE hT0
    rcases hkp : kp k with _ | _
    · rw [hkp] at hK0
      have HK := Lib.hid hK0
      have KP := Lib.hid hkp
      clear hK0 hkp
      gi_wp2
      refine region_round (S := (fun V => Below W.heap.size W V)) arrU (no_defer (by rfl)) (fun ⟨_, _, h⟩ => h) (Below.refl _ _).drew (fun hHeld => ?_)
      refine take_at (i := 0) (d := 7) (v := .agg (dayC hs ts fc lo hi n wd gp t sh)) rfl rfl (by kernel_rfl) (by kernel_rfl) (by kernel_rfl) (fun _ _ _ h => h) (yields_part (by rfl) 123 (.tmp 2) (by rfl) w.heap.size 0 56 (by rfl) 123 (dayC hs ts fc lo hi n wd gp t sh) (0, 0) _ (fun _ h => below_row h H0.out) Tryz.underlying123 rfl info_dy (dy_fits 56 (by decide) hs ts Hh.out Ht.out fc lo hi n wd gp t sh) (dayC hs ts fc lo hi n wd gp t sh) (dy_all hs ts Hh.out Ht.out fc lo hi n wd gp t sh)) hHeld ?_
      simp only [List.setIfInBounds_toArray, List.set_cons_zero, List.set_cons_succ]
      refine take_at (i := 1) (d := 8) (v := ?_) rfl rfl (by kernel_rfl) (by kernel_rfl) (by kernel_rfl) (fun _ _ _ h => h) (Or.inl ⟨by rfl, ?hy1u1⟩) hHeld ?rest1u1
      case hy1u1 =>
        intro w' hS'
        go_simp
        try with_reducible rfl
      simp only [List.setIfInBounds_toArray, List.set_cons_zero, List.set_cons_succ]
      refine take_at (i := 2) (d := 9) (v := ?_) rfl rfl (by kernel_rfl) (by kernel_rfl) (by kernel_rfl) (fun _ _ _ h => h) (Or.inl ⟨by rfl, ?hy2u2⟩) hHeld ?rest2u2
      case hy2u2 =>
        intro w' hS'
        go_simp
        try with_reducible rfl
      simp only [List.setIfInBounds_toArray, List.set_cons_zero, List.set_cons_succ]
      refine take_at (i := 3) (d := 10) (v := ?_) rfl rfl (by kernel_rfl) (by kernel_rfl) (by kernel_rfl) (fun _ _ _ h => h) (Or.inl ⟨by rfl, ?hy3u3⟩) hHeld ?rest3u3
      case hy3u3 =>
        intro w' hS'
        go_simp
        try with_reducible rfl
      simp only [List.setIfInBounds_toArray, List.set_cons_zero, List.set_cons_succ]
      refine take_at (i := 4) (d := 11) (v := ?_) rfl rfl (by kernel_rfl) (by kernel_rfl) (by kernel_rfl) (fun _ _ _ h => h) (Or.inl ⟨by rfl, ?hy4u4⟩) hHeld ?rest4u4
      case hy4u4 =>
        intro w' hS'
        have q := cell_of_i16s (below_row hS' H1.out) k (by rw [Hp.out]; exact hk)
        rw [EX.out] at q
        go_simp
        try with_reducible rfl
      simp only [List.setIfInBounds_toArray, List.set_cons_zero, List.set_cons_succ]
      refine take_at (i := 5) (d := 12) (v := ?_) rfl rfl (by kernel_rfl) (by kernel_rfl) (by kernel_rfl) (fun _ _ _ h => h) (Or.inl ⟨by rfl, ?hy5u5⟩) hHeld ?rest5u5
      case hy5u5 =>
        intro w' hS'
        go_simp
        try with_reducible rfl
      simp only [List.setIfInBounds_toArray, List.set_cons_zero, List.set_cons_succ]
      refine wpAnyH_ready (rs := [6]) (by kernel_rfl) (by simp) ?_
      refine AllReadyH.cons rfl (fun K hK => ?_) AllReadyH.nil
      go_simp
      refine (HK.out _).mono ?_
      rintro e W1 ⟨rfl, hb1⟩
      refine hK.out _ _ (hHeld.trans (hb1.mono hHeld.size)) (fun hHeld2 => ?_)
      clear hK K
      replace hHeld := hHeld2
      clear hHeld2
      clear hb1
      refine take_at (i := 7) (d := 14) (v := ?_) rfl rfl (by kernel_rfl) (by kernel_rfl) (by kernel_rfl) (fun _ _ _ h => h) (Or.inl ⟨by rfl, ?hy7u6⟩) hHeld ?rest7u6
      case hy7u6 =>
        intro w' hS'
        go_simp
        try with_reducible rfl
      simp only [List.setIfInBounds_toArray, List.set_cons_zero, List.set_cons_succ]
      refine wpAnyH_done (by kernel_rfl) ?_ _
      have c2 : W1.cell? ⟨b2, 0, none⟩ = some .nilIface := by rw [cell_of_row _ _ _ _ _ _ (below_row hHeld H2.out)]; rfl
      have f2 := frozen_of_row W1 b2 0 _ _ (below_row hHeld H2.out)
      have HH := Lib.hid hHeld
      gi_wp2
      refine ⟨(keeps_of_below HH.out).trans (KeepsOthers.setCell _ _ _), rfl, (hbW.trans (HH.out.mono hwW)).setCell (p := ⟨b2, 0, none⟩) hs2 _, hs2, k, hk, KP.out, fun hgs => ?_, by rw [heap_setCell_same _ _ _ _ _ _ (below_row HH.out H2.out)]; rfl⟩
      obtain ⟨hgp, hxk⟩ := good_snoc hgs hl
      have hkl : k = pre.length := by have : (k : Int) = (pre.length : Int) := hxk; omega
      exact fun j hj => HG.out hgp j (by omega)
    · rw [hkp] at hK0
      have HK := Lib.hid hK0
      have KP := Lib.hid hkp
      clear hK0 hkp
      gi_wp2
      refine region_round (S := (fun V => Below W.heap.size W V)) arrU (no_defer (by rfl)) (fun ⟨_, _, h⟩ => h) (Below.refl _ _).drew (fun hHeld => ?_)
      refine take_at (i := 0) (d := 7) (v := .agg (dayC hs ts fc lo hi n wd gp t sh)) rfl rfl (by kernel_rfl) (by kernel_rfl) (by kernel_rfl) (fun _ _ _ h => h) (yields_part (by rfl) 123 (.tmp 2) (by rfl) w.heap.size 0 56 (by rfl) 123 (dayC hs ts fc lo hi n wd gp t sh) (0, 0) _ (fun _ h => below_row h H0.out) Tryz.underlying123 rfl info_dy (dy_fits 56 (by decide) hs ts Hh.out Ht.out fc lo hi n wd gp t sh) (dayC hs ts fc lo hi n wd gp t sh) (dy_all hs ts Hh.out Ht.out fc lo hi n wd gp t sh)) hHeld ?_
      simp only [List.setIfInBounds_toArray, List.set_cons_zero, List.set_cons_succ]
      refine take_at (i := 1) (d := 8) (v := ?_) rfl rfl (by kernel_rfl) (by kernel_rfl) (by kernel_rfl) (fun _ _ _ h => h) (Or.inl ⟨by rfl, ?hy1u7⟩) hHeld ?rest1u7
      case hy1u7 =>
        intro w' hS'
        go_simp
        try with_reducible rfl
      simp only [List.setIfInBounds_toArray, List.set_cons_zero, List.set_cons_succ]
      refine take_at (i := 2) (d := 9) (v := ?_) rfl rfl (by kernel_rfl) (by kernel_rfl) (by kernel_rfl) (fun _ _ _ h => h) (Or.inl ⟨by rfl, ?hy2u8⟩) hHeld ?rest2u8
      case hy2u8 =>
        intro w' hS'
        go_simp
        try with_reducible rfl
      simp only [List.setIfInBounds_toArray, List.set_cons_zero, List.set_cons_succ]
      refine take_at (i := 3) (d := 10) (v := ?_) rfl rfl (by kernel_rfl) (by kernel_rfl) (by kernel_rfl) (fun _ _ _ h => h) (Or.inl ⟨by rfl, ?hy3u9⟩) hHeld ?rest3u9
      case hy3u9 =>
        intro w' hS'
        go_simp
        try with_reducible rfl
      simp only [List.setIfInBounds_toArray, List.set_cons_zero, List.set_cons_succ]
      refine take_at (i := 4) (d := 11) (v := ?_) rfl rfl (by kernel_rfl) (by kernel_rfl) (by kernel_rfl) (fun _ _ _ h => h) (Or.inl ⟨by rfl, ?hy4u10⟩) hHeld ?rest4u10
      case hy4u10 =>
        intro w' hS'
        have q := cell_of_i16s (below_row hS' H1.out) k (by rw [Hp.out]; exact hk)
        rw [EX.out] at q
        go_simp
        try with_reducible rfl
      simp only [List.setIfInBounds_toArray, List.set_cons_zero, List.set_cons_succ]
      refine take_at (i := 5) (d := 12) (v := ?_) rfl rfl (by kernel_rfl) (by kernel_rfl) (by kernel_rfl) (fun _ _ _ h => h) (Or.inl ⟨by rfl, ?hy5u11⟩) hHeld ?rest5u11
      case hy5u11 =>
        intro w' hS'
        go_simp
        try with_reducible rfl
      simp only [List.setIfInBounds_toArray, List.set_cons_zero, List.set_cons_succ]
      refine wpAnyH_ready (rs := [6]) (by kernel_rfl) (by simp) ?_
      refine AllReadyH.cons rfl (fun K hK => ?_) AllReadyH.nil
      go_simp
      refine (HK.out _).mono ?_
      rintro e W1 ⟨rfl, hb1⟩
      refine hK.out _ _ (hHeld.trans (hb1.mono hHeld.size)) (fun hHeld2 => ?_)
      clear hK K
      replace hHeld := hHeld2
      clear hHeld2
      clear hb1
      refine take_at (i := 7) (d := 14) (v := ?_) rfl rfl (by kernel_rfl) (by kernel_rfl) (by kernel_rfl) (fun _ _ _ h => h) (Or.inl ⟨by rfl, ?hy7u12⟩) hHeld ?rest7u12
      case hy7u12 =>
        intro w' hS'
        go_simp
        try with_reducible rfl
      simp only [List.setIfInBounds_toArray, List.set_cons_zero, List.set_cons_succ]
      refine wpAnyH_done (by kernel_rfl) ?_ _
      have HH := Lib.hid hHeld
      gi_wp2
      refine ⟨keeps_of_below HH.out, HH.out.mono hwW, hbw.trans (HH.out.mono hbw.size), fun hgs j hj => ?_, R2.out⟩
      obtain ⟨hgp, hxk⟩ := good_snoc hgs hl
      have hkl : k = pre.length := by have : (k : Int) = (pre.length : Int) := hxk; omega
      rw [List.length_append, List.length_singleton] at hj
      by_cases e : j = k
      · rw [e]; exact KP.out
      · exact HG.out hgp j (by omega)
  case done =>
    rintro D zs W hD rfl ⟨hbw, hg, hrr⟩ hK
    clear hrr
    rename_i K hcont
    have H2 : Hid (W.heap[b2]? = some (.cells #[.nilIface] 114 (0, 0))) := below_row hbw R2.out
    have c2 : W.cell? ⟨b2, 0, none⟩ = some .nilIface := by rw [cell_of_row _ _ _ _ _ _ H2.out]; rfl
    have f2 := frozen_of_row W b2 0 _ _ H2.out
    have hfst := Lib.hid (firstNo_none kp 24 0 (fun j _ hj => hg good_all j (by simpa using hj)))
    have HK := Lib.hid hK
    have hbl := row_lt R2.out
    have hby := HB.out.trans (hbw.mono hle)
    have hR : Hid ((W.setCell ⟨b2, 0, none⟩ .nilIface).heap[b2]? = some (.cells #[.nilIface] 114 (0, 0))) := by rw [heap_setCell_same _ _ _ _ _ _ H2.out]; rfl
    have hK2 : Hid ((W.setCell ⟨b2, 0, none⟩ .nilIface).heap[D]? = some (.deferred (some []))) := (heap_setCell_other _ _ _ _ (by simp; omega)).trans HK.out
    have hB2 : Hid (Below w.heap.size w (W.setCell ⟨b2, 0, none⟩ .nilIface)) := hby.setCell (p := ⟨b2, 0, none⟩) hs2 _
    clear hg hK
    refine hcont _ _ ?_
    go_wp2
    refine ⟨by simp, .inl ⟨_, _, rfl, run_takeDeferred hK2.out, ?_⟩⟩
    have hc : ((W.setCell ⟨b2, 0, none⟩ .nilIface).putObj D (.deferred none)).cell? ⟨b2, 0, none⟩ = some .nilIface := by rw [cell_of_row _ _ _ _ _ _ ((World.putObj_heap_other (by omega)).trans hR.out)]; rfl
    refine ⟨.nilIface, by simp [results, Tryz.results77, go_sem, hc], ?_, ?_⟩
    · rw [hfst.out]; rfl
    · exact hB2.out.trans (belowK_b (w := w) (Nat.le_refl _) _ D _ _ (by omega) hK2.out rfl rfl)
  case stop =>
    rintro D c pre W hD ⟨m, hm, rfl⟩ ⟨rfl, hbw, _, k, hk, hkp, hg, hrow⟩ hK
    have hbl := row_lt R2.out
    have hfst := Lib.hid (firstNo_some kp k hkp 24 0 (Nat.zero_le _) (by omega) (fun j _ hj => hg (by unfold Good; rw [hrs_length]) j hj))
    gi_wp2
    refine ⟨by simp, .inl ⟨_, _, rfl, run_takeDeferred hK, ?_⟩⟩
    have hc : (W.putObj D (.deferred none)).cell? ⟨b2, 0, none⟩ = some (.iface 191 (.agg #[.int .i64 (k : Int)])) := by rw [cell_of_row _ _ _ _ _ _ ((World.putObj_heap_other (by omega)).trans hrow)]; rfl
    refine ⟨.iface 191 (.agg #[.int .i64 (k : Int)]), by simp [results, Tryz.results77, go_sem, hc], ?_, ?_⟩
    · rw [hfst.out]; rfl
    · exact hbw.trans (belowK_b (w := w) (Nat.le_refl _) _ D _ _ (by omega) hK rfl rfl)

end Go.Proofs.YtddnfbpgldchcaaGreatDoor

namespace Go.Proofs.YtddnfbpgldchcaaGreatDoor

open Go.ChangeShapes Go.WideShapes Go.ChangeAt Go.RowKit

def zerC : Array Value := #[.float .f32 0, .float .f32 0, .float .f32 0, .float .f32 0, .float .f32 0, .float .f32 0, .float .f32 0, .float .f32 0, .float .f32 0, .float .f32 0, .float .f32 0, .float .f32 0, .float .f32 0, .float .f32 0, .float .f32 0, .float .f32 0, .float .f32 0, .float .f32 0, .float .f32 0, .float .f32 0, .float .f32 0, .float .f32 0, .float .f32 0, .float .f32 0]

theorem one_i64 (c : Int) : ∀ v ∈ (#[.int .i64 c] : Array Value), v.oneCell' = true := by
  intro v hv
  simp only [List.mem_toArray, List.mem_cons, List.not_mem_nil, or_false] at hv
  subst hv; rfl

theorem three_newD (w : World) (o1 o2 o3 : Obj) : (((w.alloc o1).alloc o2).alloc o3).heap[w.heap.size]? = some o1 ∧ (((w.alloc o1).alloc o2).alloc o3).heap[w.heap.size + 1]? = some o2 ∧ (((w.alloc o1).alloc o2).alloc o3).heap[w.heap.size + 1 + 1]? = some o3 ∧ Below w.heap.size w (((w.alloc o1).alloc o2).alloc o3) := by
  have e : ∀ (w : World) (o : Obj) (i : Nat), (w.alloc o).heap[i]? = if i = w.heap.size then some o else w.heap[i]? := fun w o i => by
    show (w.heap.push o)[i]? = _
    exact Array.getElem?_push
  refine ⟨?_, ?_, ?_, (((Below.refl _ _).alloc (Nat.le_refl _) _).alloc (by simp) _).alloc (by simp; omega) _⟩
  all_goals simp only [e, World.size_alloc]
  · rw [if_neg (by omega), if_neg (by omega), if_true]
  · rw [if_neg (by omega), if_true]
  · rw [if_true]

set_option maxRecDepth 100000 in
set_option maxHeartbeats 4000000 in
theorem codeD_hour (h : Int) (w : World) (hE : ErrT w) : Calls Tryz.prog 66 #[.iface 191 (.agg #[.int .i64 h])] w fun e w' => e = .returned (.int .i64 6) ∧ Below w.heap.size w w' := by
  go_enter Tryz.func66, Tryz.ntmps66
  go_upto_region 4 with (fail)
  refine abs_code (fun W => W.heap[w.heap.size]? = some (.cells #[.int .i64 0] 189 (0, 0)) ∧ W.heap[w.heap.size + 1]? = some (.cells #[.int .i64 0] 191 (0, 0)) ∧ W.heap[w.heap.size + 1 + 1]? = some (.cells zerC 193 (0, 0)) ∧ Below w.heap.size w W) ⟨(three_newD _ _ _ _).1, (three_newD _ _ _ _).2.1, (three_newD _ _ _ _).2.2.1, (three_newD _ _ _ _).2.2.2⟩ ?_
  rintro W ⟨h0, h1, h2, hb⟩
  have hs1 : w.heap.size ≤ w.heap.size + 1 := by omega
  have hs2 : w.heap.size ≤ w.heap.size + 1 + 1 := by omega
  generalize w.heap.size + 1 + 1 = b2 at *
  generalize w.heap.size + 1 = b1 at *
  have HE := Lib.hid (errT_below hE hb)
  have H0 := Lib.hid h0
  have H1 := Lib.hid h1
  have H2 := Lib.hid h2
  clear h0 h1 h2 hE
  go_upto_region 6 with (go_at_call 130; refine (as_Call_Hour _ _ _ HE.out).mono ?_; rintro e W1 ⟨rfl, hb1⟩; replace HE := Lib.hid (errT_below HE.out hb1); replace H0 := Lib.hid (below_row hb1 H0.out); replace H1 := Lib.hid (below_row hb1 H1.out); replace H2 := Lib.hid (below_row hb1 H2.out); replace hb := hb.trans (hb1.mono hb.size); clear hb1)
  go_upto_region 8 with (go_at_call 130; refine (as_Floor_Hour _ _ _ HE.out).mono ?_; rintro e W2 ⟨rfl, hb1⟩; replace HE := Lib.hid (errT_below HE.out hb1); replace H0 := Lib.hid (below_row hb1 H0.out); replace H1 := Lib.hid (below_row hb1 H1.out); replace H2 := Lib.hid (below_row hb1 H2.out); replace hb := hb.trans (hb1.mono hb.size); clear hb1)
  go_wp2_with (go_at_call 130; refine (as_Hour_Hour _ _ _ _ HE.out H1.out rfl rfl (one_i64 h)).mono ?_; rintro e W9 ⟨rfl, U, hU, hrow, rfl⟩; replace hb := hb.trans (hU.mono hb.size); clear hU)
  go_ret
  exact ⟨rfl, below_setRow hb hs1 _⟩

end Go.Proofs.YtddnfbpgldchcaaGreatDoor

namespace Go.Proofs.YtddnfbpgldchcaaGreatDoor

open Go.ChangeShapes Go.WideShapes Go.ChangeAt Go.RowKit Go.Deep Go.Joins

set_option maxRecDepth 100000 in
set_option maxHeartbeats 1000000 in
theorem ValidPlan_any (ps : List Int) (hp : ps.length = 24) (w : World) :
    Calls Tryz.prog 23 #[.agg (i16s ps)] w fun e w' => e = .returned (.bool (okP ps)) ∧ Below w.heap.size w w' := by
  have hq1 := run_eql_arr (ps.map (clampI (-64) 64)) ps (by simpa using hp) hp
  rw [map_clamp _ _ (by decide)] at hq1
  have hgd1 := fun w => run_eqGuard_agg (P := Tryz.prog) w .eql 25 (.tmp 4) (.tmp 5) (i16s (ps.map (clampI (-64) 64))) (i16s ps) (by kernel_rfl)
  have Hp := Lib.hid hp
  clear hp
  have e : okP ps = ps.all (fun x => inB x (-64) 64) := rfl
  rw [e]
  clear e
  go_enter Tryz.func23, Tryz.ntmps23
  go_upto_region 1 with (fail)
  refine abs_code (fun W => W.heap[w.heap.size]? = some (.cells (i16s ps) 52 (0, 0)) ∧ Below w.heap.size w W) ⟨heap_alloc_new _ _, (Below.refl _ _).alloc (Nat.le_refl _) _⟩ ?_
  rintro W ⟨h0, hb⟩
  refine wp_region_held_drew (S := (fun W => W.heap[w.heap.size]? = some (.cells (i16s ps) 52 (0, 0)) ∧ Below w.heap.size w W)) (by kernel_rfl) ⟨h0, hb.drew⟩ (fun hHeld => ?_)
  refine take_op (i := 0) (d := 3) (v := .agg (i16s ps)) rfl rfl (by kernel_rfl) (by kernel_rfl) (by kernel_rfl) (fun _ _ _ h => h) (yields_row (by rfl) 52 (.tmp 1) (by rfl) w.heap.size 0 24 (by rfl) 52 (i16s ps) (0, 0) _ (fun _ h => h.1) Tryz.underlying52 rfl info_plan (by rw [i16s_size, Hp.out]; decide) (i16s ps) (i16s_all _ 24 Hp.out)) hHeld ?_
  simp only [List.setIfInBounds_toArray, List.set_cons_zero, List.set_cons_succ]
  refine take_op (i := 2) (d := 5) (v := .agg (i16s ps)) rfl rfl (by kernel_rfl) (by kernel_rfl) (by kernel_rfl) (fun _ _ _ h => h) (yields_row (by rfl) 52 (.tmp 1) (by rfl) w.heap.size 0 24 (by rfl) 52 (i16s ps) (0, 0) _ (fun _ h => h.1) Tryz.underlying52 rfl info_plan (by rw [i16s_size, Hp.out]; decide) (i16s ps) (i16s_all _ 24 Hp.out)) hHeld ?_
  simp only [List.setIfInBounds_toArray, List.set_cons_zero, List.set_cons_succ]
  refine wpAnyH_ready (rs := [1]) (by kernel_rfl) (by simp) ?_
  refine AllReadyH.cons rfl (fun K hK => ?_) AllReadyH.nil
  go_simp
  refine (held_any ps Hp.out (-64) 64 _).mono ?_
  rintro e W1 ⟨rfl, hb1⟩
  refine hK.out _ _ (⟨below_row hb1 hHeld.1, hHeld.2.trans (hb1.mono hHeld.2.size)⟩) (fun hHeld2 => ?_)
  clear hK K
  replace hHeld := hHeld2
  clear hHeld2
  refine take_op (i := 3) (d := 6) (v := ?_) rfl rfl (by kernel_rfl) (by kernel_rfl) (by kernel_rfl) (fun _ _ _ h => h) (Or.inl ⟨by rfl, ?hy3u1⟩) hHeld ?rest3u1
  case hy3u1 =>
    intro w' hS'
    go_simp
    try with_reducible rfl
  simp only [List.setIfInBounds_toArray, List.set_cons_zero, List.set_cons_succ]
  refine take_op (i := 4) (d := 2) (v := ?_) rfl rfl (by kernel_rfl) (by kernel_rfl) (by kernel_rfl) (fun _ _ _ h => h) (Or.inl ⟨by rfl, ?hy4u2⟩) hHeld ?rest4u2
  case hy4u2 =>
    intro w' hS'
    go_simp
    try with_reducible rfl
  simp only [List.setIfInBounds_toArray, List.set_cons_zero, List.set_cons_succ]
  refine wpAnyH_done (by kernel_rfl) ?_ _
  have hbx := hHeld.2
  clear hHeld h0 hb
  go_wp2
  go_ret
  exact ⟨rfl, hbx⟩

end Go.Proofs.YtddnfbpgldchcaaGreatDoor

namespace Go.Proofs.YtddnfbpgldchcaaGreatDoor

open Go.ChangeShapes Go.WideShapes Go.ChangeAt Go.RowKit

theorem np_nil (xT : TypeId) (w : World) : (Instr.typeAssert .nilIface xT 230 true).run Tryz.prog w = .ok (.tuple #[.nilIface, .bool false]) w := by kernel_rfl

set_option maxRecDepth 100000 in
set_option maxHeartbeats 1000000 in
theorem mustBe_true (ps : List Int) (hp : ps.length = 24) (hok : okP ps = true) (w : World) : Calls Tryz.prog 172 #[.agg (i16s ps)] w fun e w' => e = .returned (.tuple #[]) ∧ Below w.heap.size w w' := by
  have HV := Lib.hid (fun w => ValidPlan_any ps hp w)
  rw [hok] at HV
  have Hp := Lib.hid hp
  clear hp hok
  go_enter Tryz.func172, Tryz.ntmps172
  go_upto_region 1 with (fail)
  refine abs_code (fun W => Below w.heap.size w W ∧ W.heap[w.heap.size]? = some (.cells (i16s ps) 52 (0, 0))) ⟨(Below.refl _ _).alloc (Nat.le_refl _) _, heap_alloc_new _ _⟩ ?_
  rintro W ⟨hb, h0⟩
  have H0 := Lib.hid h0
  clear h0
  go_wp2_with (first | (refine wpList_load_part rfl 52 _ rfl w.heap.size 0 24 rfl 52 (i16s ps) (0, 0) _ H0.out Tryz.underlying52 rfl info_plan (by rw [i16s_size, Hp.out]; decide) (i16s ps) (i16s_all _ 24 Hp.out) ?_) | (go_at_call 23; refine (HV.out _).mono ?_; rintro e W1 ⟨rfl, hb1⟩; replace H0 := Lib.hid (below_row hb1 H0.out); replace hb := hb.trans (hb1.mono hb.size); clear hb1))
  go_end0
  exact ⟨rfl, hb⟩

theorem catch_idle (p : Addr) (w : World) :
    CallsD Tryz.prog 171 #[.pointer (some p)] .returning w fun e u' w' => e = .returned (.tuple #[]) ∧ u' = .returning ∧ w' = w := by
  have hnn := np_nil
  refine callsD_of_wpS Tryz.func171 rfl fun c₀ cs hu => ?_
  apply wpS_seq
  apply wpS_region
  simp [wpOpsS, go_sem, recoverD, hu, Tryz.ntmps171, Exit.thenS, hnn]
  apply wpS_seq
  apply wpS_region
  simp [wpOpsS, go_sem, Exit.thenS]
  refine wpS_cond (t := false) (by simp [Act.eval, Array.replicate]) ?_
  simp only [Bool.false_eq_true, if_false]
  refine wpS_of_wp (wp_skip ?_)
  cases c₀
  simp_all [bodyPostS, results, Tryz.results171]

set_option maxRecDepth 100000 in
set_option maxHeartbeats 4000000 in
theorem checkPlan_ok (ps : List Int) (hp : ps.length = 24) (hok : okP ps = true) (w : World) : Calls Tryz.prog 138 #[.agg (i16s ps)] w fun e w' => e = .returned .nilIface ∧ Below w.heap.size w w' := by
  have hmf : ∀ (fn : Fn) (first cap : Array Value) (w : World), (Instr.makeFunc fn first cap).run Tryz.prog w = .ok (.func fn first cap) w := fun _ _ _ _ => rfl
  have Hp := Lib.hid hp
  clear hp
  go_enter_defers Tryz.func138, Tryz.ntmps138
  go_upto_region 1 with (fail)
  refine abs_code (fun W => W.heap[w.heap.size]? = some (.cells (i16s ps) 52 (0, 0)) ∧ W.heap[w.heap.size + 1]? = some (.cells #[.nilIface] 114 (0, 0)) ∧ Below w.heap.size w W) ⟨heap_alloc2_old _ _ _, heap_alloc2_new _ _ _, ((Below.refl _ _).alloc (Nat.le_refl _) _).alloc (by simp) _⟩ ?_
  rintro W ⟨h0, h1, hb⟩
  have hs1 : w.heap.size ≤ w.heap.size + 1 := by omega
  generalize w.heap.size + 1 = b1 at *
  have H0 := Lib.hid h0
  have H1 := Lib.hid h1
  clear h0 h1
  go_upto_region 3 with (first | (refine wpList_load_part rfl 52 _ rfl w.heap.size 0 24 rfl 52 (i16s ps) (0, 0) _ H0.out Tryz.underlying52 rfl info_plan (by rw [i16s_size, Hp.out]; decide) (i16s ps) (i16s_all _ 24 Hp.out) ?_) | (go_at_call 172; refine (mustBe_true ps Hp.out hok _).mono ?_; rintro e W1 ⟨rfl, hb1⟩; replace H0 := Lib.hid (below_row hb1 H0.out); replace H1 := Lib.hid (below_row hb1 H1.out); replace hb := hb.trans (hb1.mono hb.size); clear hb1))
  have z1 : W1.cell? ⟨b1, 0, none⟩ = some .nilIface := by rw [cell_of_row _ _ _ _ _ _ H1.out]; rfl
  have z2 := frozen_of_row W1 b1 0 _ _ H1.out
  have HR : Hid ((W1.setCell ⟨b1, 0, none⟩ .nilIface).heap[b1]? = some (.cells #[.nilIface] 114 (0, 0))) := by rw [heap_setCell_same _ _ _ _ _ _ H1.out]; rfl
  have HB : Hid (Below w.heap.size w (W1.setCell ⟨b1, 0, none⟩ .nilIface)) := hb.setCell (p := ⟨b1, 0, none⟩) hs1 _
  clear H0 H1 hb
  go_wp2
  refine leaves_cons (f := 171) (args := #[.pointer (some ⟨b1, 0, none⟩)]) (by simp) (by simp [go_sem]) ?_
  refine (catch_idle _ _).mono ?_
  rintro e u' w'' ⟨rfl, rfl, rfl⟩
  have z3 : (W1.setCell ⟨b1, 0, none⟩ .nilIface).cell? ⟨b1, 0, none⟩ = some .nilIface := by rw [cell_of_row _ _ _ _ _ _ HR.out]; rfl
  generalize W1.setCell ⟨b1, 0, none⟩ .nilIface = V at *
  simp [Leaves, settle, results, Tryz.results138, go_sem, z3]
  exact HB.out

end Go.Proofs.YtddnfbpgldchcaaGreatDoor

namespace Go.Proofs.YtddnfbpgldchcaaGreatDoor

open Go.ChangeShapes Go.WideShapes Go.ChangeAt Go.RowKit Go.Deep Go.Joins

attribute [local go_sem] run_store_f

theorem bl_one (n : Int) (wd gp : Nat) (t : Int) (sh : Nat) : ∀ v ∈ blindC n wd gp t sh, v.oneCell' = true := by
  intro v hv
  simp only [blindC, List.mem_toArray, List.mem_cons, List.not_mem_nil, or_false] at hv
  rcases hv with rfl | rfl | rfl | rfl | rfl <;> rfl

set_option maxRecDepth 100000 in
set_option maxHeartbeats 2000000 in
theorem l07At_any (n : Int) (wd gp : Nat) (t : Int) (sh : Nat) (hs ts : List Int) (hh : hs.length = 24) (ht : ts.length = 24) (ok : BlOk n wd gp t sh) (fc hour x : Int) (k : HrOk hs ts hour fc) (x0 : -64 ≤ x) (x1 : x ≤ 64) (g1 g2 : Nat) (w : World) (q1 : w.heap[g1]? = some (.cells (blindC n wd gp t sh) 32 (0, 0))) (q2 : w.heap[g2]? = some (.cells (sunC hs ts) 27 (0, 0))) :
    Calls Tryz.prog 170 #[.pointer (some ⟨g1, 0, none⟩), .pointer (some ⟨g2, 0, none⟩), .int .i64 fc, .int .i64 hour, .int .i64 x] w fun e w' => e = .returned (.float .f32 (winB wd gp x sh hs ts hour fc)) ∧ Below w.heap.size w w' := by
  have okx : BlOk n wd gp x sh := ⟨ok.1, ok.2.1, ok.2.2.1, ok.2.2.2.1, ok.2.2.2.2.1, ok.2.2.2.2.2.1, x0, x1, ok.2.2.2.2.2.2.2.2⟩
  have HW := Lib.hid (fun g1 g2 w c1 c2 => l02Window_any n wd gp x sh hs ts hh ht okx hour fc k.h0 k.h1 k.f0 k.f1 k.x1 k.y0 k.y1 g1 g2 w c1 c2)
  have z1 : IntKind.i16.wrap x = x := by rw [IntWalk.i16_in _ (by omega)]
  have Q1 := Lib.hid q1
  have Q2 := Lib.hid q2
  generalize winB wd gp x sh hs ts hour fc = v at *
  clear ok okx k x0 x1 hh ht q1 q2
  go_enter Tryz.func170, Tryz.ntmps170
  go_upto_region 2 with (first | (refine wpList_load_part rfl 32 _ rfl g1 0 5 rfl 32 (blindC n wd gp t sh) (0, 0) _ Q1.out Tryz.underlying32 rfl info_blind (blind_fits _ _ _ _ _) _ (blind_all _ _ _ _ _) ?_) | (refine wpList_store_part rfl 32 _ _ rfl _ 0 (blindC n wd gp t sh) rfl rfl 32 _ (heap_alloc_new _ _) info_blind (Nat.le_refl _) (bl_one n wd gp t sh) ?_; rw [laid_all _ _ (by rfl)]))
  refine abs_code (fun W => W.heap[w.heap.size]? = some (.cells (blindC n wd gp t sh) 32 (0, 0)) ∧ Below w.heap.size w W) ⟨setRow_heap _ _ _ _ _ _ (heap_alloc_new _ _), below_setRow ((Below.refl _ _).alloc (Nat.le_refl _) _) (Nat.le_refl _) _⟩ ?_
  rintro W ⟨h0, hb⟩
  obtain ⟨k0, k1, k2, k3, k4⟩ := blind_cells h0
  have f3 := frozen_of_row W w.heap.size 3 _ _ h0
  have H0 := Lib.hid h0
  clear h0
  go_upto_region 3 with (fail)
  refine abs_code (fun V => V.heap[w.heap.size]? = some (.cells (blindC n wd gp x sh) 32 (0, 0)) ∧ Below w.heap.size w V) ⟨by rw [heap_setCell_same _ _ _ _ _ _ H0.out]; rfl, hb.setCell (p := ⟨w.heap.size, 3, none⟩) (Nat.le_refl _) _⟩ ?_
  clear H0 hb k0 k1 k2 k3 k4 f3
  rintro V ⟨h0, hb⟩
  go_wp2_with (go_at_call 54; refine (HW.out _ _ _ h0 (below_row hb Q2.out)).mono ?_; rintro e W1 ⟨rfl, hb1⟩)
  go_ret
  exact ⟨rfl, hb.trans (hb1.mono hb.size)⟩

set_option maxRecDepth 100000 in
set_option maxHeartbeats 4000000 in
theorem l07Within_any (n : Int) (wd gp : Nat) (t : Int) (sh : Nat) (hs ts : List Int) (hh : hs.length = 24) (ht : ts.length = 24) (ok : BlOk n wd gp t sh) (fc hour x : Int) (k : HrOk hs ts hour fc) (x0 : -64 ≤ x) (x1 : x ≤ 64) (lo hi : Nat) (hlo : fin32 lo = true) (hhi : fin32 hi = true) (g1 g2 : Nat) (w : World) (q1 : w.heap[g1]? = some (.cells (blindC n wd gp t sh) 32 (0, 0))) (q2 : w.heap[g2]? = some (.cells (sunC hs ts) 27 (0, 0))) :
    Calls Tryz.prog 136 #[.pointer (some ⟨g1, 0, none⟩), .pointer (some ⟨g2, 0, none⟩), .int .i64 fc, .int .i64 hour, .int .i64 x, .float .f32 lo, .float .f32 hi] w fun e w' => e = .returned (.bool (kpB hs ts fc lo hi wd gp sh hour x)) ∧ Below w.heap.size w w' := by
  have HA := Lib.hid (fun w q1 q2 => l07At_any n wd gp t sh hs ts hh ht ok fc hour x k x0 x1 g1 g2 w q1 q2)
  have HF := Lib.hid (fun w q2 => l01Fall_any g2 hs ts hh ht hour fc k.h0 k.h1 k.f0 k.f1 k.x1 k.y0 k.y1 27 (0, 0) w q2)
  have hv : fin32 (winB wd gp x sh hs ts hour fc) = true := pos_fin (winB_pos wd gp x ok.2.2.2.2.2.2.2.2 hs ts hour fc k.x1)
  have Q1 := Lib.hid q1
  have Q2 := Lib.hid q2
  obtain ⟨o1, h1⟩ := order_some hv hhi
  obtain ⟨o2, h2⟩ := order_some hv hlo
  unfold kpB gtO ltO
  rw [h1, h2]
  generalize winB wd gp x sh hs ts hour fc = v at *
  generalize fallOf hs ts hour fc = f at *
  clear ok k x0 x1 hh ht q1 q2 hv hlo hhi
  cases o1
  · cases o2
    · skip
      go_enter Tryz.func136, Tryz.ntmps136
      go_wp2_with (first | (go_at_call 170; refine (HA.out _ Q1.out Q2.out).mono ?_; rintro e W1 ⟨rfl, hb1⟩) | (go_at_call 49; refine (HF.out _ (below_row hb1 Q2.out)).mono ?_; rintro e W2 ⟨rfl, hb2⟩; replace hb1 := hb1.trans (hb2.mono hb1.size)))
      go_ret
      exact ⟨rfl, hb1⟩
    · skip
      go_enter Tryz.func136, Tryz.ntmps136
      go_wp2_with (first | (go_at_call 170; refine (HA.out _ Q1.out Q2.out).mono ?_; rintro e W1 ⟨rfl, hb1⟩) | (go_at_call 49; refine (HF.out _ (below_row hb1 Q2.out)).mono ?_; rintro e W2 ⟨rfl, hb2⟩; replace hb1 := hb1.trans (hb2.mono hb1.size)))
      go_ret
      exact ⟨rfl, hb1⟩
    · skip
      go_enter Tryz.func136, Tryz.ntmps136
      go_wp2_with (first | (go_at_call 170; refine (HA.out _ Q1.out Q2.out).mono ?_; rintro e W1 ⟨rfl, hb1⟩) | (go_at_call 49; refine (HF.out _ (below_row hb1 Q2.out)).mono ?_; rintro e W2 ⟨rfl, hb2⟩; replace hb1 := hb1.trans (hb2.mono hb1.size)))
      go_ret
      exact ⟨rfl, hb1⟩
  · cases o2
    · skip
      go_enter Tryz.func136, Tryz.ntmps136
      go_wp2_with (first | (go_at_call 170; refine (HA.out _ Q1.out Q2.out).mono ?_; rintro e W1 ⟨rfl, hb1⟩) | (go_at_call 49; refine (HF.out _ (below_row hb1 Q2.out)).mono ?_; rintro e W2 ⟨rfl, hb2⟩; replace hb1 := hb1.trans (hb2.mono hb1.size)))
      go_ret
      exact ⟨rfl, hb1⟩
    · skip
      go_enter Tryz.func136, Tryz.ntmps136
      go_wp2_with (first | (go_at_call 170; refine (HA.out _ Q1.out Q2.out).mono ?_; rintro e W1 ⟨rfl, hb1⟩) | (go_at_call 49; refine (HF.out _ (below_row hb1 Q2.out)).mono ?_; rintro e W2 ⟨rfl, hb2⟩; replace hb1 := hb1.trans (hb2.mono hb1.size)))
      go_ret
      exact ⟨rfl, hb1⟩
    · skip
      go_enter Tryz.func136, Tryz.ntmps136
      go_wp2_with (first | (go_at_call 170; refine (HA.out _ Q1.out Q2.out).mono ?_; rintro e W1 ⟨rfl, hb1⟩) | (go_at_call 49; refine (HF.out _ (below_row hb1 Q2.out)).mono ?_; rintro e W2 ⟨rfl, hb2⟩; replace hb1 := hb1.trans (hb2.mono hb1.size)))
      go_ret
      exact ⟨rfl, hb1⟩
  · skip
    go_enter Tryz.func136, Tryz.ntmps136
    go_wp2_with (first | (go_at_call 170; refine (HA.out _ Q1.out Q2.out).mono ?_; rintro e W1 ⟨rfl, hb1⟩) | (go_at_call 49; refine (HF.out _ (below_row hb1 Q2.out)).mono ?_; rintro e W2 ⟨rfl, hb2⟩; replace hb1 := hb1.trans (hb2.mono hb1.size)))
    go_ret
    exact ⟨rfl, hb1⟩

end Go.Proofs.YtddnfbpgldchcaaGreatDoor

namespace Go.Proofs.YtddnfbpgldchcaaGreatDoor

open Go.ChangeShapes Go.WideShapes Go.ChangeAt Go.RowKit Go.Deep Go.Joins

attribute [local go_sem] run_store_f

/-- The code of a call with a blind, a sun and a plan. -/
def cdP (okp okb oks fine : Bool) : Int := if okp then codeBS okb oks fine else 1

theorem isPart_is (a : Nat) (r : Bool) (h : partB a = r) (w : World) : Calls Tryz.prog 65 #[.float .f32 a] w fun e w' => e = .returned (.bool r) ∧ w = w' := by subst h; exact isPart_any a w

theorem l01Part_is (a : Nat) (r : Bool) (h : partB a = r) (w : World) : Calls Tryz.prog 72 #[.float .f32 a] w fun e w' => e = .returned (.bool r) ∧ w = w' := by subst h; exact l01Part_any a w

theorem part_fin {a : Nat} (hw : (Lit.float .f32 a).wf = true) (h : partB a = true) : fin32 a = true := by
  rcases part_get hw h with h | h
  · exact fin_of_lt (by omega)
  · subst h; decide

set_option maxRecDepth 100000 in
set_option maxHeartbeats 1000000 in
theorem refusedBy_ok (w : World) : Calls Tryz.prog 129 #[.int .i64 0] w fun e w' => e = .returned .nilIface ∧ w = w' := by
  go_enter Tryz.func129, Tryz.ntmps129
  go_wp2
  go_ret
  exact ⟨rfl, rfl⟩

set_option maxRecDepth 100000 in
set_option maxHeartbeats 2000000 in
theorem checkDay_ok (n : Int) (wd gp : Nat) (t : Int) (sh : Nat) (hs ts : List Int) (hh : hs.length = 24) (ht : ts.length = 24) (T0 : -32768 ≤ t) (T1 : t ≤ 32767) (fine : Bool) (hc : codeBS (okBl n wd gp t sh) (okB hs ts) fine = 0) (w : World) :
    Calls Tryz.prog 64 #[.agg (blindC n wd gp t sh), .agg (sunC hs ts), .bool fine] w fun e w' => e = .returned (.nilIface) ∧ Below w.heap.size w w' := by
  have HC := Lib.hid (fun w => checkBS_is n wd gp t sh hs ts hh ht T0 T1 fine 0 hc w)
  have HR := Lib.hid (fun w => refusedBy_ok w)
  have Hh := Lib.hid hh
  have Ht := Lib.hid ht
  clear hh ht hc
  go_enter Tryz.func64, Tryz.ntmps64
  go_upto_region 1 with (fail)
  refine abs_code (fun W => W.heap[w.heap.size]? = some (.cells (blindC n wd gp t sh) 32 (0, 0)) ∧ W.heap[w.heap.size + 1]? = some (.cells (sunC hs ts) 27 (0, 0)) ∧ Below w.heap.size w W) ⟨heap_alloc2_old _ _ _, heap_alloc2_new _ _ _, ((Below.refl _ _).alloc (Nat.le_refl _) _).alloc (by simp) _⟩ ?_
  rintro W ⟨h0, h1, hb⟩
  generalize w.heap.size + 1 = b1 at *
  have H0 := Lib.hid h0
  have H1 := Lib.hid h1
  clear h0 h1
  go_wp2_with (first | (refine wpList_load_part rfl 32 _ rfl w.heap.size 0 5 rfl 32 (blindC n wd gp t sh) (0, 0) _ H0.out Tryz.underlying32 rfl info_blind (blind_fits _ _ _ _ _) _ (blind_all _ _ _ _ _) ?_) | (refine wpList_load_part rfl 27 _ rfl b1 0 48 rfl 27 (sunC hs ts) (0, 0) _ H1.out Tryz.underlying27 rfl info_sun (sun_fits _ _ Hh.out Ht.out) (sunC hs ts) (sun_all _ _ Hh.out Ht.out) ?_) | (go_at_call 50; refine (HC.out _).mono ?_; rintro e W1 ⟨rfl, hb1⟩; replace H0 := Lib.hid (below_row hb1 H0.out); replace H1 := Lib.hid (below_row hb1 H1.out); replace hb := hb.trans (hb1.mono hb.size); clear hb1) | (go_at_call 129; refine (HR.out _).mono ?_; rintro e w' ⟨rfl, rfl⟩))
  go_ret
  exact ⟨rfl, hb⟩

set_option maxRecDepth 100000 in
set_option maxHeartbeats 2000000 in
theorem checkPlanned_ok (n : Int) (wd gp : Nat) (t : Int) (sh : Nat) (hs ts : List Int) (hh : hs.length = 24) (ht : ts.length = 24) (ps : List Int) (hp : ps.length = 24) (T0 : -32768 ≤ t) (T1 : t ≤ 32767) (fine : Bool) (hc : cdP (okP ps) (okBl n wd gp t sh) (okB hs ts) fine = 0) (w : World) :
    Calls Tryz.prog 76 #[.agg (blindC n wd gp t sh), .agg (sunC hs ts), .agg (i16s ps), .bool fine] w fun e w' => e = .returned (.nilIface) ∧ Below w.heap.size w w' := by
  cases ho : okP ps with
  | true =>
    rw [ho] at hc
    unfold cdP at hc
    rw [if_pos rfl] at hc
    have HP := Lib.hid (fun w => checkPlan_ok ps hp ho w)
    have HC := Lib.hid (fun w => checkDay_ok n wd gp t sh hs ts hh ht T0 T1 fine hc w)
    have Hh := Lib.hid hh
    have Ht := Lib.hid ht
    have Hp := Lib.hid hp
    have hn := fun w => run_neq_nil_nil (P := Tryz.prog) (w := w) 114 (by kernel_rfl)
    clear hh ht hp hc ho
    go_enter Tryz.func76, Tryz.ntmps76
    go_upto_region 1 with (fail)
    refine abs_code (fun W => W.heap[w.heap.size]? = some (.cells (blindC n wd gp t sh) 32 (0, 0)) ∧ W.heap[w.heap.size + 1]? = some (.cells (sunC hs ts) 27 (0, 0)) ∧ W.heap[w.heap.size + 1 + 1]? = some (.cells (i16s ps) 52 (0, 0)) ∧ Below w.heap.size w W) ⟨(three_new _ _ _ _).1, (three_new _ _ _ _).2.1, (three_new _ _ _ _).2.2.1, (three_new _ _ _ _).2.2.2⟩ ?_
    rintro W ⟨h0, h1, h2, hb⟩
    generalize w.heap.size + 1 + 1 = b2 at *
    generalize w.heap.size + 1 = b1 at *
    have H0 := Lib.hid h0
    have H1 := Lib.hid h1
    have H2 := Lib.hid h2
    clear h0 h1 h2
    go_wp2_with (first | (refine wpList_load_part rfl 32 _ rfl w.heap.size 0 5 rfl 32 (blindC n wd gp t sh) (0, 0) _ H0.out Tryz.underlying32 rfl info_blind (blind_fits _ _ _ _ _) _ (blind_all _ _ _ _ _) ?_) | (refine wpList_load_part rfl 27 _ rfl b1 0 48 rfl 27 (sunC hs ts) (0, 0) _ H1.out Tryz.underlying27 rfl info_sun (sun_fits _ _ Hh.out Ht.out) (sunC hs ts) (sun_all _ _ Hh.out Ht.out) ?_) | (refine wpList_load_part rfl 52 _ rfl b2 0 24 rfl 52 (i16s ps) (0, 0) _ H2.out Tryz.underlying52 rfl info_plan (by rw [i16s_size, Hp.out]; decide) (i16s ps) (i16s_all _ 24 Hp.out) ?_) | (go_at_call 138; refine (HP.out _).mono ?_; rintro e W1 ⟨rfl, hb1⟩; replace H0 := Lib.hid (below_row hb1 H0.out); replace H1 := Lib.hid (below_row hb1 H1.out); replace H2 := Lib.hid (below_row hb1 H2.out); replace hb := hb.trans (hb1.mono hb.size); clear hb1) | (go_at_call 64; refine (HC.out _).mono ?_; rintro e W2 ⟨rfl, hb1⟩; replace H0 := Lib.hid (below_row hb1 H0.out); replace H1 := Lib.hid (below_row hb1 H1.out); replace H2 := Lib.hid (below_row hb1 H2.out); replace hb := hb.trans (hb1.mono hb.size); clear hb1))
    go_ret
    exact ⟨rfl, hb⟩
  | false =>
    rw [ho] at hc
    unfold cdP at hc
    rw [if_neg (by decide)] at hc
    cases hc

theorem cdP_bad {okp okb oks fine : Bool} (h : (okb && oks && okp) = false) : cdP okp okb oks fine = 1 := by
  cases okp <;> cases okb <;> cases oks <;> simp_all [cdP, codeBS, codeB]

theorem cdP_fine {okp okb oks fine : Bool} (h : (okb && oks && okp) = true) : cdP okp okb oks fine = if fine then 0 else 2 := by
  cases okp <;> cases okb <;> cases oks <;> simp_all [cdP, codeBS, codeB]

theorem cdP_yes {okp okb oks fine : Bool} (h : cdP okp okb oks fine = 0) : okp = true ∧ okb = true ∧ oks = true ∧ fine = true := by
  cases okp <;> cases okb <;> cases oks <;> cases fine <;> simp_all [cdP, codeBS, codeB]

set_option maxRecDepth 100000 in
set_option maxHeartbeats 2000000 in
theorem l07Asked_is (n : Int) (wd gp : Nat) (t : Int) (sh : Nat) (hs ts : List Int) (hh : hs.length = 24) (ht : ts.length = 24) (ps : List Int) (hp : ps.length = 24) (T0 : -32768 ≤ t) (T1 : t ≤ 32767) (N0 : -128 ≤ n) (N1 : n ≤ 127) (rb : ∀ x ∈ hs ++ ts, -32768 ≤ x ∧ x ≤ 32767) (pb : ∀ x ∈ ps, -32768 ≤ x ∧ x ≤ 32767) (fine : Bool) (c : Int) (hc : cdP (okP ps) (okBl n wd gp t sh) (okB hs ts) fine = c) (g1 g2 g3 : Nat) (w : World) (q1 : w.heap[g1]? = some (.cells (blindC n wd gp t sh) 32 (0, 0))) (q2 : w.heap[g2]? = some (.cells (sunC hs ts) 27 (0, 0))) (q3 : w.heap[g3]? = some (.cells (i16s ps) 52 (0, 0))) :
    Calls Tryz.prog 71 #[.pointer (some ⟨g1, 0, none⟩), .pointer (some ⟨g2, 0, none⟩), .pointer (some ⟨g3, 0, none⟩), .bool fine] w fun e w' => e = .returned (.int .i64 c) ∧ w = w' := by
  have HB : Hid (∀ _ : Unit, Calls Tryz.prog 85 #[.pointer (some ⟨g1, 0, none⟩)] w fun e w' => e = .returned (.bool (okBl n wd gp t sh)) ∧ w = w') := fun _ => l02Ok_any n wd gp t sh T0 T1 N0 N1 g1 32 (0, 0) w q1
  have HS : Hid (∀ _ : Unit, Calls Tryz.prog 108 #[.pointer (some ⟨g2, 0, none⟩)] w fun e w' => e = .returned (.bool (okB hs ts)) ∧ w = w') := fun _ => l01Ok_any g2 hs ts hh ht rb 27 (0, 0) w q2
  have HQ : Hid (∀ _ : Unit, Calls Tryz.prog 135 #[.pointer (some ⟨g3, 0, none⟩)] w fun e w' => e = .returned (.bool (okP ps)) ∧ w = w') := fun _ => l07Plan_any g3 ps hp pb 52 (0, 0) w q3
  subst hc
  clear T0 T1 N0 N1 rb pb hh ht hp q1 q2 q3
  generalize okBl n wd gp t sh = okb at *
  generalize okB hs ts = oks at *
  generalize okP ps = okp at *
  cases okb
  · rw [cdP_bad (by rfl)]
    go_enter Tryz.func71, Tryz.ntmps71
    go_wp2_with (go_at_call 85; refine (HB.out ()).mono ?_; rintro e w' ⟨rfl, rfl⟩)
    go_ret
    exact ⟨rfl, rfl⟩
  · cases oks
    · rw [cdP_bad (by rfl)]
      go_enter Tryz.func71, Tryz.ntmps71
      go_wp2_with (first | (go_at_call 85; refine (HB.out ()).mono ?_; rintro e w' ⟨rfl, rfl⟩) | (go_at_call 108; refine (HS.out ()).mono ?_; rintro e w' ⟨rfl, rfl⟩))
      go_ret
      exact ⟨rfl, rfl⟩
    · cases okp
      · rw [cdP_bad (by rfl)]
        go_enter Tryz.func71, Tryz.ntmps71
        go_wp2_with (first | (go_at_call 85; refine (HB.out ()).mono ?_; rintro e w' ⟨rfl, rfl⟩) | (go_at_call 108; refine (HS.out ()).mono ?_; rintro e w' ⟨rfl, rfl⟩) | (go_at_call 135; refine (HQ.out ()).mono ?_; rintro e w' ⟨rfl, rfl⟩))
        go_ret
        exact ⟨rfl, rfl⟩
      · rw [cdP_fine (by rfl)]
        cases fine
        · go_enter Tryz.func71, Tryz.ntmps71
          go_wp2_with (first | (go_at_call 85; refine (HB.out ()).mono ?_; rintro e w' ⟨rfl, rfl⟩) | (go_at_call 108; refine (HS.out ()).mono ?_; rintro e w' ⟨rfl, rfl⟩) | (go_at_call 135; refine (HQ.out ()).mono ?_; rintro e w' ⟨rfl, rfl⟩))
          go_ret
          exact ⟨rfl, rfl⟩
        · go_enter Tryz.func71, Tryz.ntmps71
          go_wp2_with (first | (go_at_call 85; refine (HB.out ()).mono ?_; rintro e w' ⟨rfl, rfl⟩) | (go_at_call 108; refine (HS.out ()).mono ?_; rintro e w' ⟨rfl, rfl⟩) | (go_at_call 135; refine (HQ.out ()).mono ?_; rintro e w' ⟨rfl, rfl⟩))
          go_ret
          exact ⟨rfl, rfl⟩

end Go.Proofs.YtddnfbpgldchcaaGreatDoor

namespace Go.Proofs.YtddnfbpgldchcaaGreatDoor

open Go.RowKit Go.Shelf

/-- A tilt. -/
abbrev Tl := { x : Int // -64 ≤ x ∧ x ≤ 64 }

def tl (k : Nat) : Tl := ⟨((k % 129 : Nat) : Int) - 64, by omega⟩

theorem tl_val (k : Nat) (h : k < 129) : (tl k).1 = (k : Int) - 64 := by simp [tl, Nat.mod_eq_of_lt h]

def tls (k : Nat) : List Tl := (List.range k).map tl

theorem tls_succ (k : Nat) : tls (k + 1) = tls k ++ [tl k] := by simp [tls, List.range_succ]

@[simp] theorem tls_length (k : Nat) : (tls k).length = k := by simp [tls]

/-- One block stays as it is. -/
def KeepsAt (g : Nat) (A B : World) : Prop := ∀ o, A.heap[g]? = some o → B.heap[g]? = some o

theorem keepsAt_t {g : Nat} {A B C : World} (h : KeepsAt g A B) (k : KeepsAt g B C) : KeepsAt g A C := fun o ho => k o (h o ho)

theorem keepsAt_b {g : Nat} {w : World} (hg : g < w.heap.size) (W : World) (l : Nat) (o o' : Obj) (hl : w.heap.size ≤ l) (_ : W.heap[l]? = some o) (_ : o.isCells = false) (_ : o.isWalk = false) : KeepsAt g W (W.putObj l o') := by
  intro x hx
  rw [World.putObj_heap_other (by omega)]; exact hx

theorem grown_of_below {w w' : World} (h : Below w.heap.size w w') (row : Option Nat) : w.grownBy w' row := ⟨h.os, h.tape, h.output, h.size, fun k hk _ => h.block k hk⟩

set_option maxRecDepth 100000 in
set_option maxHeartbeats 1000000 in
theorem eachTilted_in (n : Int) (wd gp : Nat) (t : Int) (sh : Nat) (gb : Nat) (m : Nat) (l : Nat) (J Jx : List Tl → World → Prop)
    (hY : ∀ pre x W, J pre W → pre.length < 129 → YieldAt Fence.wide (m + 1) Tryz.prog l #[.agg (blindC n wd gp x.1 sh)] W fun e W' =>
      (e = .returned (.bool true) ∧ J (pre ++ [x]) W' ∧ KeepsAt gb W W') ∨ (e = .returned (.bool false) ∧ Jx (pre ++ [x]) W'))
    (W : World) (hJ : AbidesFrom W.heap.size J) (h0 : J [] W) (hg : W.heap[gb]? = some (.cells (blindC n wd gp t sh) 32 (0, 0))) :
    CallsIn Fence.wide (m + 2) Tryz.prog 189 #[.func (.yield l) #[] #[], .pointer (some ⟨gb, 0, none⟩)] W fun e W' => (∃ v, e = .returned v) ∧
      ((∃ xs, xs = tls 129 ∧ J xs W') ∨ (∃ pre, (∃ k, k ≤ 129 ∧ pre = tls k) ∧ Jx pre W')) := by
  refine callsIn_of_wp Tryz.func189 rfl trivial ?_ rfl
  simp only [Tryz.ntmps189, List.size_toArray, List.length_cons, List.length_nil, Nat.reduceAdd, Nat.reduceSub, Array.replicate_succ, Array.replicate_zero, List.push_toArray, List.append_toArray, List.nil_append, List.cons_append]
  gi_wp2
  gi_loopw [3] (fun i wr => ∃ k : Nat, k ≤ 129 ∧ i = .int .i64 ((k : Int) - 64) ∧ J (tls k) wr ∧ wr.heap[gb]? = some (.cells (blindC n wd gp t sh) 32 (0, 0))) (fun i _ => (65 - intOf i).toNat)
  case atStart => exact ⟨0, Nat.zero_le _, rfl, h0, hg⟩
  case round =>
    obtain ⟨k, hk, rfl, hJs, hgk⟩ := hrel
    by_cases hlt : k < 129
    · have HT := Lib.hid (fun w => tilted_any2 n wd gp t sh ((k : Int) - 64) (by omega) (by omega) w)
      have HGK := Lib.hid hgk
      have HJS := Lib.hid hJs
      clear hgk hJs
      obtain ⟨k0, k1, k2, k3, k4⟩ := blind_cells HGK.out
      have z0 : (-64 : Int) ≤ (k : Int) - 64 := by omega
      have z1 : (k : Int) - 64 ≤ 64 := by omega
      gi_wp2_with (refine ⟨trivial, (callsIn_wide.2 (HT.out _)).mono ?_⟩; rintro e W1 ⟨rfl, hb1⟩)
      obtain ⟨fn, tmps, assign, body, hy, hR⟩ := hY (tls k) (tl k) W1 (hJ (tls k) wr W1 none HJS.out (grown_of_below hb1 none) (fun r e => by cases e)) (by rw [tls_length]; exact hlt)
      rw [tl_val k hlt] at hy
      have HG1 := Lib.hid (below_row hb1 HGK.out)
      clear k0 k1 k2 k3 k4
      rw [hy]
      go_simp
      refine hR.mono ?_
      rintro e W3 (⟨rfl, hJ3, hk3⟩ | ⟨rfl, hJx3⟩)
      · gi_wp2
        go_roundw
        case rel => exact ⟨k + 1, by omega, by simp; omega, by rw [tls_succ]; exact hJ3, hk3 _ HG1.out⟩
        case measure => simp [intOf]; omega
      · gi_wp2
        refine bodyPost_ret (results_none rfl _ _ _) rfl ?_
        exact ⟨⟨_, rfl⟩, .inr ⟨_, ⟨k + 1, by omega, (tls_succ _).symm⟩, hJx3⟩⟩
    · obtain rfl : k = 129 := by omega
      gi_wp2
      go_end0
      exact ⟨⟨_, rfl⟩, .inl ⟨_, rfl, hJs⟩⟩

end Go.Proofs.YtddnfbpgldchcaaGreatDoor

namespace Go.Proofs.YtddnfbpgldchcaaGreatDoor

open Go.RowKit

/-- A slice of the call's own, from block number base on, that holds the elements xs. -/
def Own {α : Type} (w : World) (base : Nat) (E : TypeId) (mk : α → Value) (v : Value) (xs : List α) : Prop :=
  ∃ a cap, v = .slice a xs.length cap ∧ cap ≤ maxLen ∧ xs.length ≤ cap ∧
    ((a = none ∧ xs = []) ∨ ∃ g cur, a = some ⟨g, 0, none⟩ ∧ base ≤ g ∧ w.heap[g]? = some (.cells cur E (0, 0)) ∧ ∀ k, k < xs.length → cur[k]? = (xs[k]?).map mk)

theorem own_below {α : Type} {w w' : World} {base B : Nat} {E : TypeId} {mk : α → Value} {v : Value} {xs : List α} (h : Own w base E mk v xs) (hb : Below w.heap.size w w') (hB : B ≤ base) : Own w' B E mk v xs := by
  obtain ⟨a, cap, h1, h2, h3, h4⟩ := h
  refine ⟨a, cap, h1, h2, h3, h4.imp id ?_⟩
  rintro ⟨g, cur, e, hg, hc, hk⟩
  exact ⟨g, cur, e, by omega, below_row hb hc, hk⟩

end Go.Proofs.YtddnfbpgldchcaaGreatDoor

namespace Go.Proofs.YtddnfbpgldchcaaGreatDoor

open Go Go.RowKit

theorem list_roundL {P : Program} {l n : Nat} {ops : Array Oper} {Q : Exit → Act → World → Prop} (hlo : ¬ LetsOut Q) :
    ∀ (os : List Oper) (_ : ∀ o ∈ os, ∀ c, o.op ≠ .defer c) (a : Act) (w : World), wpList P ops Q os a w → wpListIn (Fence.wide.inRound l) n P ops Q os a w
  | [], _, _, _, h => h
  | o :: os, hd, a, w, h => by
    unfold wpList at h
    unfold wpListIn
    split
    · rename_i hw
      rw [if_pos hw] at h
      have h2 := h.resolve_right (fun h => hlo h.2)
      exact Oper.wpIn_mono (fun a w h => list_roundL hlo os (fun o ho => hd o (List.mem_cons_of_mem _ ho)) a w h) (op_round (hd o List.mem_cons_self) h2)
    · rename_i hw
      rw [if_neg hw] at h
      exact ⟨fun _ _ => trivial, list_roundL hlo os (fun o ho => hd o (List.mem_cons_of_mem _ ho)) _ w h⟩

/-- A region that draws no order, in a round: from the law outside. -/
theorem region_plain_round {P : Program} {l n id : Nat} {os : List Oper} {Q : Exit → Act → World → Prop} {a : Act} {w : World} (hd : os.all (fun o => match o.op with | .defer _ => false | _ => true) = true) (hlo : ¬ LetsOut Q)
    (h : wpList P os.toArray Q os a w) : (Code.region id os.toArray false).wpIn (Fence.wide.inRound l) n P Q a w :=
  wpIn_region_lit (list_roundL hlo os (fun o ho c hc => by
    have := List.all_eq_true.1 hd o ho
    rw [hc] at this
    cases this) a w h)

end Go.Proofs.YtddnfbpgldchcaaGreatDoor
