/-
  For every two lists, valid or not: how many numbers lie between bounds is what the model says, in memory of its own, and the lists are as they were. No conditions.
-/
import Derived.Test.YtjpnbcfdnolcjaaCbI
import Derived.Test.YtjpnbcfdnolcjaaCbS
import Derived.Test.YtjpnbcfdnolcjaaMarkF
import Derived.Deep.Cut
import Derived.Deep.DeepCutAuto
namespace Go.Proofs.Ytjpnbcfdnolcjaa
open Go.ChangeShapes Go.WideShapes Go.ChangeAt Go.RowKit Go.Deep Go.Joins

set_option maxRecDepth 100000 in
set_option maxHeartbeats 8000000 in
theorem lawCountBins_core (sv0 : Value) (zs0 : List Nat) (sv1 : Value) (zs1 : List Nat) (xs : List Int) (c : Int) (hn : xs.length ≤ 1000) (w : World) (hz0 : FloatsAt w sv0 zs0) (hz1 : FloatsAt w sv1 zs1)
    (hspec : ∀ w u0 u1, FloatsAt w u0 zs0 → FloatsAt w u1 zs1 → Calls Try.prog 42 #[u0, u1] w (RetList xs c w))
    (himpl : ∀ w u0 u1, FloatsAt w u0 zs0 → FloatsAt w u1 zs1 → Calls Try.prog 43 #[u0, u1] w (RetList xs c w)) :
    Calls Try.prog 14 #[sv0, sv1] w fun e w' => e = .returned (.bool true) ∧ Below w.heap.size w w' := by
  have HS := Lib.hid hspec
  have HI := Lib.hid himpl
  have HZ0 := Lib.hid hz0
  have HZ1 := Lib.hid hz1
  clear hspec himpl
  obtain ⟨aa0, cap0, esv0, -⟩ := hz0
  subst esv0
  obtain ⟨aa1, cap1, esv1, -⟩ := hz1
  subst esv1
  have hb : Below w.heap.size w w := Below.refl _ _
  by_cases hlen0 : zs0.length ≤ 1048576
  · have zl0 : ((zs0.length : Nat) : Int) ≤ 1048576 := by omega
    by_cases hlen1 : zs1.length ≤ 1048576
    · have zl1 : ((zs1.length : Nat) : Int) ≤ 1048576 := by omega
      have z0 : decide ((1 : Int) + (xs.length : Int) < 0) = false := by apply decide_eq_false; omega
      have z0' : decide ((1 : Int) + (zs0.length : Int) + (zs1.length : Int) < 0) = false := by apply decide_eq_false; omega
      have zc : (c != c) = false := by simp
      have zn : ((1 : Int) + (xs.length : Int) != 1 + (xs.length : Int)) = false := by simp
      go_enter Try.func14, Try.ntmps14
      go_upto_region 6 with (first | (go_at_call 16; (with_reducible refine (toFloat32S_own _ zs0 hlen0 _ (floats_below HZ0.out hb)).mono ?_); rintro e V1 ⟨⟨vHY0, rfl, hv⟩, hb1⟩; have HY0 := Lib.hid hv; clear hv; replace hb := hb.trans (hb1.mono hb.size); clear hb1) | (go_at_call 16; (with_reducible refine (toFloat32S_own _ zs1 hlen1 _ (floats_below HZ1.out hb)).mono ?_); rintro e V2 ⟨⟨vHY1, rfl, hv⟩, hb1⟩; have HY1 := Lib.hid hv; clear hv; replace HY0 := Lib.hid (own_below HY0.out hb1 (Nat.le_refl _)); replace hb := hb.trans (hb1.mono hb.size); clear hb1) | (go_at_call 42; refine (HS.out _ _ _ (own_floats HY0.out) (own_floats HY1.out)).mono ?_; rintro e V3 ⟨⟨f0, rfl, hv⟩, hb1⟩; have HF0 := Lib.hid hv; clear hv; replace HY0 := Lib.hid (own_below HY0.out hb1 (Nat.le_refl _)); replace HY1 := Lib.hid (own_below HY1.out hb1 (Nat.le_refl _)); replace hb := hb.trans (hb1.mono hb.size); clear hb1))
      clear HS HY0 HY1
      have hu0 := under_of HF0.out
      have hw1 := hb.size
      obtain ⟨B1, hB1⟩ : ∃ B1, B1 = V3.heap.size := ⟨_, rfl⟩
      rw [← hB1] at hu0 hw1
      go_upto_region 7 with (go_at_call 16; (with_reducible refine (toFloat32S_own _ zs0 hlen0 _ (floats_below HZ0.out hb)).mono ?_); rintro e V4 ⟨⟨vHX0, rfl, hv⟩, hb1⟩; rw [← hB1] at hv; have hs1 : B1 ≤ V4.heap.size := (by have := hb1.size; rw [← hB1] at this; exact this); have HX0 := Lib.hid hv; clear hv; replace HF0 := Lib.hid (own_below HF0.out hb1 (Nat.le_refl _)); replace hb := hb.trans (hb1.mono hb.size); clear hb1)
      clear hB1
      have hu1 := under_of HX0.out
      obtain ⟨B2, hB2⟩ : ∃ B2, B2 = V4.heap.size := ⟨_, rfl⟩
      rw [← hB2] at hu1 hs1
      have hle1 := hs1
      clear hs1
      go_upto_region 8 with (go_at_call 16; (with_reducible refine (toFloat32S_own _ zs1 hlen1 _ (floats_below HZ1.out hb)).mono ?_); rintro e V5 ⟨⟨vHX1, rfl, hv⟩, hb1⟩; rw [← hB2] at hv; have hs1 : B2 ≤ V5.heap.size := (by have := hb1.size; rw [← hB2] at this; exact this); have HX1 := Lib.hid hv; clear hv; replace HF0 := Lib.hid (own_below HF0.out hb1 (Nat.le_refl _)); replace HX0 := Lib.hid (own_below HX0.out hb1 (Nat.le_refl _)); replace hb := hb.trans (hb1.mono hb.size); clear hb1)
      clear hB2
      have hu2 := under_of HX1.out
      obtain ⟨B3, hB3⟩ : ∃ B3, B3 = V5.heap.size := ⟨_, rfl⟩
      rw [← hB3] at hu2 hs1
      have hle2 := hs1
      clear hs1
      go_upto_region 9 with (go_at_call 43; refine (HI.out _ _ _ (own_floats HX0.out) (own_floats HX1.out)).mono ?_; rintro e V6 ⟨⟨f2, rfl, hv⟩, hb1⟩; rw [← hB3] at hv; have HF2 := Lib.hid hv; clear hv; replace HF0 := Lib.hid (own_below HF0.out hb1 (Nat.le_refl _)); replace HX0 := Lib.hid (own_below HX0.out hb1 (Nat.le_refl _)); replace HX1 := Lib.hid (own_below HX1.out hb1 (Nat.le_refl _)); replace hb := hb.trans (hb1.mono hb.size); clear hb1)
      clear hB3
      go_upto_region 11 with (go_at_call 44; refine (eqI_same xs f2 f0 _ _ _ HF2.out HF0.out).mono ?_; rintro e V7 ⟨rfl, hb1⟩; replace HF0 := Lib.hid (own_below HF0.out hb1 (Nat.le_refl _)); replace HX0 := Lib.hid (own_below HX0.out hb1 (Nat.le_refl _)); replace HX1 := Lib.hid (own_below HX1.out hb1 (Nat.le_refl _)); replace HF2 := Lib.hid (own_below HF2.out hb1 (Nat.le_refl _)); replace hb := hb.trans (hb1.mono hb.size); clear hb1)
      go_upto_region 13 with (first | (go_at_call 16; (with_reducible refine (toFloat32S_own _ zs0 hlen0 _ (floats_below HZ0.out hb)).mono ?_); rintro e V8 ⟨⟨vHQ, rfl, hv⟩, hb1⟩; have HQ := Lib.hid hv; clear hv; replace HF0 := Lib.hid (own_below HF0.out hb1 (Nat.le_refl _)); replace HX0 := Lib.hid (own_below HX0.out hb1 (Nat.le_refl _)); replace HX1 := Lib.hid (own_below HX1.out hb1 (Nat.le_refl _)); replace HF2 := Lib.hid (own_below HF2.out hb1 (Nat.le_refl _)); replace hb := hb.trans (hb1.mono hb.size); clear hb1) | (go_at_call 18; refine (eqFloat32S_any _ _ zs0 _ (own_floats HX0.out) (own_floats HQ.out)).mono ?_; rintro e V9 ⟨rfl, hb1⟩; replace HF0 := Lib.hid (own_below HF0.out hb1 (Nat.le_refl _)); replace HX0 := Lib.hid (own_below HX0.out hb1 (Nat.le_refl _)); replace HX1 := Lib.hid (own_below HX1.out hb1 (Nat.le_refl _)); replace HF2 := Lib.hid (own_below HF2.out hb1 (Nat.le_refl _)); replace HQ := Lib.hid (own_below HQ.out hb1 (Nat.le_refl _)); replace hb := hb.trans (hb1.mono hb.size); clear hb1))
      clear HQ
      go_upto_region 16 with (first | (go_at_call 16; (with_reducible refine (toFloat32S_own _ zs1 hlen1 _ (floats_below HZ1.out hb)).mono ?_); rintro e V10 ⟨⟨vHQ, rfl, hv⟩, hb1⟩; have HQ := Lib.hid hv; clear hv; replace HF0 := Lib.hid (own_below HF0.out hb1 (Nat.le_refl _)); replace HX0 := Lib.hid (own_below HX0.out hb1 (Nat.le_refl _)); replace HX1 := Lib.hid (own_below HX1.out hb1 (Nat.le_refl _)); replace HF2 := Lib.hid (own_below HF2.out hb1 (Nat.le_refl _)); replace hb := hb.trans (hb1.mono hb.size); clear hb1) | (go_at_call 18; refine (eqFloat32S_any _ _ zs1 _ (own_floats HX1.out) (own_floats HQ.out)).mono ?_; rintro e V11 ⟨rfl, hb1⟩; replace HF0 := Lib.hid (own_below HF0.out hb1 (Nat.le_refl _)); replace HX0 := Lib.hid (own_below HX0.out hb1 (Nat.le_refl _)); replace HX1 := Lib.hid (own_below HX1.out hb1 (Nat.le_refl _)); replace HF2 := Lib.hid (own_below HF2.out hb1 (Nat.le_refl _)); replace HQ := Lib.hid (own_below HQ.out hb1 (Nat.le_refl _)); replace hb := hb.trans (hb1.mono hb.size); clear hb1))
      clear HQ
      go_upto_region 17 with (go_at_call 28; refine (markF_any 1 zs0 vHX0 B1 _ (by omega) (by omega) (by omega) HX0.out).mono ?_; intro e V12 hm; have hA := above_of HX0.out; replace HF0 := Lib.hid (own_markedF HF0.out (under_mono hu0 (by omega)) hA hm); replace HF2 := Lib.hid (own_markedAF HF2.out (above_of HF2.out) (under_mono hu1 (by omega)) hm); replace HX1 := Lib.hid (own_markedAF HX1.out (above_of HX1.out) (under_mono hu1 (by omega)) hm); replace hb := hb.trans (hm.2.2.1.mono (by omega)); obtain rfl := hm.1; clear hm hA)
      clear HX0
      go_upto_region 18 with (go_at_call 28; refine (markF_any ((1 : Int) + (zs0.length : Int)) zs1 vHX1 B2 _ (by omega) (by omega) (by omega) HX1.out).mono ?_; intro e V13 hm; have hA := above_of HX1.out; replace HF0 := Lib.hid (own_markedF HF0.out (under_mono hu0 (by omega)) hA hm); replace HF2 := Lib.hid (own_markedAF HF2.out (above_of HF2.out) (under_mono hu2 (by omega)) hm); replace hb := hb.trans (hm.2.2.1.mono (by omega)); obtain rfl := hm.1; clear hm hA)
      clear HX1
      go_upto_region 21 with (go_at_call 44; refine (eqI_same xs f2 f0 _ _ _ HF2.out HF0.out).mono ?_; rintro e V14 ⟨rfl, hb1⟩; replace HF0 := Lib.hid (own_below HF0.out hb1 (Nat.le_refl _)); replace HF2 := Lib.hid (own_below HF2.out hb1 (Nat.le_refl _)); replace hb := hb.trans (hb1.mono hb.size); clear hb1)
      go_upto_region 23 with (go_at_call 45; refine (markI_any 1 xs f2 B3 _ (by decide) (by decide) (by omega) HF2.out).mono ?_; intro e V15 hm; have hA := above_of HF2.out; replace HF0 := Lib.hid (own_marked HF0.out (under_mono hu0 (by omega)) hA hm); replace hb := hb.trans (hm.2.2.1.mono (by omega)); replace HF2 := Lib.hid hm.2.1; obtain rfl := hm.1; clear hm hA)
      go_upto_region 24 with (go_at_call 46; refine (heldI_same 1 xs.length f2 B3 _ (by decide) (by decide) (by omega) HF2.out).mono ?_; rintro e V16 ⟨rfl, hb1⟩; replace HF0 := Lib.hid (own_below HF0.out hb1 (Nat.le_refl _)); replace HF2 := Lib.hid (own_below HF2.out hb1 (Nat.le_refl _)); replace hb := hb.trans (hb1.mono hb.size); clear hb1)
      go_upto_region 28 with (fail)
      go_upto_region 29 with (first | (go_at_call 16; (with_reducible refine (toFloat32S_own _ zs0 hlen0 _ (floats_below HZ0.out hb)).mono ?_); rintro e V17 ⟨⟨vHY0, rfl, hv⟩, hb1⟩; have HY0 := Lib.hid hv; clear hv; replace HF0 := Lib.hid (own_below HF0.out hb1 (Nat.le_refl _)); replace HF2 := Lib.hid (own_below HF2.out hb1 (Nat.le_refl _)); replace hb := hb.trans (hb1.mono hb.size); clear hb1) | (go_at_call 16; (with_reducible refine (toFloat32S_own _ zs1 hlen1 _ (floats_below HZ1.out hb)).mono ?_); rintro e V18 ⟨⟨vHY1, rfl, hv⟩, hb1⟩; have HY1 := Lib.hid hv; clear hv; replace HF0 := Lib.hid (own_below HF0.out hb1 (Nat.le_refl _)); replace HF2 := Lib.hid (own_below HF2.out hb1 (Nat.le_refl _)); replace HY0 := Lib.hid (own_below HY0.out hb1 (Nat.le_refl _)); replace hb := hb.trans (hb1.mono hb.size); clear hb1) | (go_at_call 43; refine (HI.out _ _ _ (own_floats HY0.out) (own_floats HY1.out)).mono ?_; rintro e V19 ⟨⟨f4, rfl, hv⟩, hb1⟩; have HF4 := Lib.hid hv; clear hv; replace HF0 := Lib.hid (own_below HF0.out hb1 (Nat.le_refl _)); replace HF2 := Lib.hid (own_below HF2.out hb1 (Nat.le_refl _)); replace HY0 := Lib.hid (own_below HY0.out hb1 (Nat.le_refl _)); replace HY1 := Lib.hid (own_below HY1.out hb1 (Nat.le_refl _)); replace hb := hb.trans (hb1.mono hb.size); clear hb1))
      clear HI HY0 HY1
      go_upto_region 32 with (go_at_call 44; refine (eqI_same xs f4 f0 _ _ _ HF4.out HF0.out).mono ?_; rintro e V20 ⟨rfl, hb1⟩; replace HF0 := Lib.hid (own_below HF0.out hb1 (Nat.le_refl _)); replace HF2 := Lib.hid (own_below HF2.out hb1 (Nat.le_refl _)); replace HF4 := Lib.hid (own_below HF4.out hb1 (Nat.le_refl _)); replace hb := hb.trans (hb1.mono hb.size); clear hb1)
      clear HF4 HF0
      go_wp2_with (go_at_call 46; refine (heldI_same 1 xs.length f2 B3 _ (by decide) (by decide) (by omega) HF2.out).mono ?_; rintro e V21 ⟨rfl, hb1⟩; replace HF2 := Lib.hid (own_below HF2.out hb1 (Nat.le_refl _)); replace hb := hb.trans (hb1.mono hb.size); clear hb1)
      go_ret
      exact ⟨rfl, hb⟩
    · have zl1 : (1048576 : Int) < ((zs1.length : Nat) : Int) := by omega
      clear HS HI HZ0 HZ1
      go_enter Try.func14, Try.ntmps14
      go_wp2
      go_ret
      exact ⟨rfl, hb⟩
  · have zl0 : (1048576 : Int) < ((zs0.length : Nat) : Int) := by omega
    clear HS HI HZ0 HZ1
    go_enter Try.func14, Try.ntmps14
    go_wp2
    go_ret
    exact ⟨rfl, hb⟩

theorem lawCountBins_walk (sv0 : Value) (zs0 : List Nat) (hwf0 : ∀ z ∈ zs0, (Lit.float .f32 z).wf = true) (sv1 : Value) (zs1 : List Nat) (hwf1 : ∀ z ∈ zs1, (Lit.float .f32 z).wf = true) (w : World) (hz0 : FloatsAt w sv0 zs0) (hz1 : FloatsAt w sv1 zs1) :
    Calls Try.prog 14 #[sv0, sv1] w fun e w' => e = .returned (.bool true) ∧ Below w.heap.size w w' := by
  by_cases hc : codeCb zs0 zs1 = 0
  · obtain ⟨_, _, _, h16, _⟩ := codeCb_zero hwf0 hwf1 hc
    exact lawCountBins_core sv0 zs0 sv1 zs1 (ansL zs1 zs0) 0 (by rw [ansL_len]; omega) w hz0 hz1 (fun w u v hu hv => sCountBins_yes u v zs0 zs1 hwf0 hwf1 hc w hu hv) (fun w u v hu hv => iCountBins_yes u v zs0 zs1 hwf0 hwf1 hc w hu hv)
  · exact lawCountBins_core sv0 zs0 sv1 zs1 [] (codeCb zs0 zs1) (by decide) w hz0 hz1 (fun w u v hu hv => sCountBins_no u v zs0 zs1 hwf0 hwf1 _ rfl hc w hu hv) (fun w u v hu hv => iCountBins_no u v zs0 zs1 hwf0 hwf1 _ rfl hc w hu hv)

set_option maxRecDepth 100000 in
theorem FnExactCountBins_holds : Rows.FnExactCountBinsSaid :=
  OpenClaim.holds_of_wide 14 Try.f14 rfl rfl rfl rfl rfl rfl rfl ⟨rfl, rfl, rfl, rfl, rfl⟩ rfl rfl rfl rfl rfl (by kernel_rfl) Try.func14 (by kernel_rfl)
    (of_decide_eq_true (by kernel_rfl)) (by unfold Func.isWrapper; first | (rw [if_pos (by decide +kernel)]; kernel_rfl) | (rw [if_neg (by decide +kernel)]; exact ⟨rfl, rfl⟩))
    (fun os started H enc _ => law_lifted 14 Try.f14 Rows.fnExactCountBinsSpec Rows.fnExactCountBinsRow.domain os started H enc (by kernel_rfl) Try.func14 rfl rfl
      (by rw [Try.params14]; intro t ht; simp only [List.mem_cons, List.not_mem_nil, or_false] at ht; rcases ht with rfl | rfl <;> exact ⟨by kernel_rfl, of_decide_eq_true (by kernel_rfl)⟩)
      (fun ds hl => by
        match ds, hl with
        | [d0, d1], _ => rfl)
      (ChangeSpec.witness6 (enc := enc) (C := Try.checked) false ⟨#[], #[.slice none 0 0, .slice none 0 0], []⟩ 8 (by kernel_rfl) (by kernel_rfl) (by kernel_rfl) (by kernel_rfl))
      (fun W base args ds p hval hA => by
        rw [Try.params14] at hA hval
        obtain ⟨v0, vs0, d0, ds0, p0, q0, hargs, rfl, rfl, h0, r0⟩ := trodAll_cons hA
        obtain ⟨v1, vs1, d1, ds1, p1, q1, rfl, rfl, rfl, h1, r1⟩ := trodAll_cons r0
        obtain ⟨rfl, rfl, rfl⟩ := trodAll_nil r1
        obtain rfl : args = #[v0, v1] := by cases args; simp_all
        obtain ⟨zs0, hz0, zw0⟩ := open_floatS (hval 0 22 v0 rfl rfl) h0
        obtain ⟨zs1, hz1, zw1⟩ := open_floatS (hval 1 22 v1 rfl rfl) h1
        exact lawCountBins_walk v0 zs0 zw0 v1 zs1 zw1 W hz0 hz1))
#print axioms FnExactCountBins_holds

end Go.Proofs.Ytjpnbcfdnolcjaa
