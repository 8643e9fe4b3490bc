/-
  For every two lists, valid or not: the sum of their products is what the model says, and both lists are as they were. No conditions.
-/
import Derived.Test.YtjpnbcfdnolcjaaDtL
import Derived.Deep.Cut
import Derived.Deep.DeepCutAuto
namespace Go.Proofs.Ytjpnbcfdnolcjaa
open Go.ChangeShapes Go.WideShapes Go.ChangeAt Go.RowKit Go.Deep Go.Joins

set_option maxRecDepth 100000 in
set_option maxHeartbeats 4000000 in
theorem lawDotOf_core (sv0 : Value) (zs0 : List Nat) (sv1 : Value) (zs1 : List Nat) (v : Nat) (c : Int) (hv : fin32 v = true) (w : World) (hz0 : FloatsAt w sv0 zs0) (hz1 : FloatsAt w sv1 zs1)
    (hspec : ∀ w u0 u1, FloatsAt w u0 zs0 → FloatsAt w u1 zs1 → Calls Try.prog 36 #[u0, u1] w fun e w' => e = .returned (.tuple #[.float .f32 v, .int .i64 c]) ∧ Below w.heap.size w w')
    (himpl : ∀ w u0 u1, FloatsAt w u0 zs0 → FloatsAt w u1 zs1 → Calls Try.prog 37 #[u0, u1] w fun e w' => e = .returned (.tuple #[.float .f32 v, .int .i64 c]) ∧ Below w.heap.size w w') :
    Calls Try.prog 11 #[sv0, sv1] w fun e w' => e = .returned (.bool true) ∧ Below w.heap.size w w' := by
  have HS := Lib.hid hspec
  have HI := Lib.hid himpl
  have HA0 := Lib.hid hz0
  have HA1 := Lib.hid hz1
  have hw0 := run_wide _ hv
  have Hv0 := Lib.hid hv
  have zc : (c != c) = false := by simp
  clear hv
  have hb : Below w.heap.size w w := Below.refl _ _
  clear hspec himpl
  have esv0 : ∃ a cap, sv0 = .slice a zs0.length cap := by obtain ⟨a, cap, e, _⟩ := hz0; exact ⟨a, cap, e⟩
  have esv1 : ∃ a cap, sv1 = .slice a zs1.length cap := by obtain ⟨a, cap, e, _⟩ := hz1; exact ⟨a, cap, e⟩
  clear hz0 hz1
  obtain ⟨aa0, cap0, esv0⟩ := esv0
  subst esv0
  obtain ⟨aa1, cap1, esv1⟩ := esv1
  subst esv1
  by_cases hlen0 : zs0.length ≤ 1048576
  · have zl0 : ((zs0.length : Nat) : Int) ≤ 1048576 := by omega
    by_cases hlen1 : zs1.length ≤ 1048576
    · have zl1 : ((zs1.length : Nat) : Int) ≤ 1048576 := by omega
      go_enter Try.func11, Try.ntmps11
      go_upto_region 6 with (first | (go_at_call 16; (with_reducible refine (toFloat32S_any _ zs0 hlen0 _ HA0.out).mono ?_); rintro e W1 ⟨⟨vHV0, rfl, hv⟩, hb1⟩; have HV0 := Lib.hid hv; clear hv; replace HA0 := Lib.hid (floats_below HA0.out hb1); replace HA1 := Lib.hid (floats_below HA1.out hb1); replace hb := hb.trans (hb1.mono hb.size); clear hb1) | (go_at_call 16; (with_reducible refine (toFloat32S_any _ zs1 hlen1 _ HA1.out).mono ?_); rintro e W2 ⟨⟨vHV1, rfl, hv⟩, hb1⟩; have HV1 := Lib.hid hv; clear hv; replace HA0 := Lib.hid (floats_below HA0.out hb1); replace HA1 := Lib.hid (floats_below HA1.out hb1); replace HV0 := Lib.hid (floats_below HV0.out hb1); replace hb := hb.trans (hb1.mono hb.size); clear hb1) | (go_at_call 36; refine (HS.out _ _ _ HV0.out HV1.out).mono ?_; rintro e W3 ⟨rfl, hb1⟩; replace HA0 := Lib.hid (floats_below HA0.out hb1); replace HA1 := Lib.hid (floats_below HA1.out hb1); replace HV0 := Lib.hid (floats_below HV0.out hb1); replace HV1 := Lib.hid (floats_below HV1.out hb1); replace hb := hb.trans (hb1.mono hb.size); clear hb1))
      clear HV0 HV1
      go_upto_region 7 with (go_at_call 16; (with_reducible refine (toFloat32S_any _ zs0 hlen0 _ HA0.out).mono ?_); rintro e W4 ⟨⟨vHX0, rfl, hv⟩, hb1⟩; have HX0 := Lib.hid hv; clear hv; replace HA0 := Lib.hid (floats_below HA0.out hb1); replace HA1 := Lib.hid (floats_below HA1.out hb1); replace hb := hb.trans (hb1.mono hb.size); clear hb1)
      go_upto_region 8 with (go_at_call 16; (with_reducible refine (toFloat32S_any _ zs1 hlen1 _ HA1.out).mono ?_); rintro e W5 ⟨⟨vHX1, rfl, hv⟩, hb1⟩; have HX1 := Lib.hid hv; clear hv; replace HA0 := Lib.hid (floats_below HA0.out hb1); replace HA1 := Lib.hid (floats_below HA1.out hb1); replace HX0 := Lib.hid (floats_below HX0.out hb1); replace hb := hb.trans (hb1.mono hb.size); clear hb1)
      go_upto_region 9 with (go_at_call 37; refine (HI.out _ _ _ HX0.out HX1.out).mono ?_; rintro e W6 ⟨rfl, hb1⟩; replace HA0 := Lib.hid (floats_below HA0.out hb1); replace HA1 := Lib.hid (floats_below HA1.out hb1); replace HX0 := Lib.hid (floats_below HX0.out hb1); replace HX1 := Lib.hid (floats_below HX1.out hb1); replace hb := hb.trans (hb1.mono hb.size); clear hb1)
      go_upto_region 11 with (go_at_call 25; refine (same_wide _ Hv0.out _).mono ?_; rintro e u1 ⟨rfl, rfl⟩)
      go_upto_region 13 with (first | (go_at_call 16; (with_reducible refine (toFloat32S_any _ zs0 hlen0 _ HA0.out).mono ?_); rintro e W8 ⟨⟨vHF0, rfl, hv⟩, hb1⟩; have HF0 := Lib.hid hv; clear hv; replace HA0 := Lib.hid (floats_below HA0.out hb1); replace HA1 := Lib.hid (floats_below HA1.out hb1); replace HX0 := Lib.hid (floats_below HX0.out hb1); replace HX1 := Lib.hid (floats_below HX1.out hb1); replace hb := hb.trans (hb1.mono hb.size); clear hb1) | (go_at_call 18; refine (eqFloat32S_any _ _ zs0 _ HX0.out HF0.out).mono ?_; rintro e W9 ⟨rfl, hb1⟩; replace HA0 := Lib.hid (floats_below HA0.out hb1); replace HA1 := Lib.hid (floats_below HA1.out hb1); replace HX0 := Lib.hid (floats_below HX0.out hb1); replace HX1 := Lib.hid (floats_below HX1.out hb1); replace HF0 := Lib.hid (floats_below HF0.out hb1); replace hb := hb.trans (hb1.mono hb.size); clear hb1))
      clear HF0 HX0
      go_wp2_with (first | (go_at_call 16; (with_reducible refine (toFloat32S_any _ zs1 hlen1 _ HA1.out).mono ?_); rintro e W10 ⟨⟨vHF1, rfl, hv⟩, hb1⟩; have HF1 := Lib.hid hv; clear hv; replace HA0 := Lib.hid (floats_below HA0.out hb1); replace HA1 := Lib.hid (floats_below HA1.out hb1); replace HX1 := Lib.hid (floats_below HX1.out hb1); replace hb := hb.trans (hb1.mono hb.size); clear hb1) | (go_at_call 18; refine (eqFloat32S_any _ _ zs1 _ HX1.out HF1.out).mono ?_; rintro e W11 ⟨rfl, hb1⟩; replace HA0 := Lib.hid (floats_below HA0.out hb1); replace HA1 := Lib.hid (floats_below HA1.out hb1); replace HX1 := Lib.hid (floats_below HX1.out hb1); replace HF1 := Lib.hid (floats_below HF1.out hb1); replace hb := hb.trans (hb1.mono hb.size); clear hb1))
      go_ret
      exact ⟨rfl, hb⟩
    · have zl1 : (1048576 : Int) < ((zs1.length : Nat) : Int) := by omega
      clear HS HI HA0 HA1
      go_enter Try.func11, Try.ntmps11
      go_wp2
      go_ret
      exact ⟨rfl, hb⟩
  · have zl0 : (1048576 : Int) < ((zs0.length : Nat) : Int) := by omega
    clear HS HI HA0 HA1
    go_enter Try.func11, Try.ntmps11
    go_wp2
    go_ret
    exact ⟨rfl, hb⟩
theorem lawDotOf_walk (sv0 : Value) (zs0 : List Nat) (hwf0 : ∀ z ∈ zs0, (Lit.float .f32 z).wf = true) (sv1 : Value) (zs1 : List Nat) (hwf1 : ∀ z ∈ zs1, (Lit.float .f32 z).wf = true) (w : World) (hz0 : FloatsAt w sv0 zs0) (hz1 : FloatsAt w sv1 zs1) :
    Calls Try.prog 11 #[sv0, sv1] w fun e w' => e = .returned (.bool true) ∧ Below w.heap.size w w' := by
  by_cases hc : codeDt zs0 zs1 = 0
  · obtain ⟨_, _, hl, he, hx, hy⟩ := codeDt_zero hwf0 hwf1 hc
    exact lawDotOf_core sv0 zs0 sv1 zs1 (dotK zs0 zs1 zs0.length) 0 (num_finN (dot_ok (D := 1233125376) (by decide) (by decide +kernel) capD_plain hx hy hl he _ (Nat.le_refl _)).1) w hz0 hz1 (fun w u v hu hv => sDotOf_yes u v zs0 zs1 hc hwf0 hwf1 w hu hv) (fun w u v hu hv => iDotOf_yes u v zs0 zs1 hc hwf0 hwf1 w hu hv)
  · exact lawDotOf_core sv0 zs0 sv1 zs1 0 (codeDt zs0 zs1) zero_fin w hz0 hz1 (fun w u v hu hv => sDotOf_no u v zs0 zs1 _ rfl hc w hu hv) (fun w u v hu hv => iDotOf_no u v zs0 zs1 _ rfl hc w hu hv)

set_option maxRecDepth 100000 in
theorem FnExactDotOf_holds : Rows.FnExactDotOfSaid :=
  OpenClaim.holds_of_wide 11 Try.f11 rfl rfl rfl rfl rfl rfl rfl ⟨rfl, rfl, rfl, rfl, rfl⟩ rfl rfl rfl rfl rfl (by kernel_rfl) Try.func11 (by kernel_rfl)
    (of_decide_eq_true (by kernel_rfl)) (by unfold Func.isWrapper; first | (rw [if_pos (by decide +kernel)]; kernel_rfl) | (rw [if_neg (by decide +kernel)]; exact ⟨rfl, rfl⟩))
    (fun os started H enc _ => law_lifted 11 Try.f11 Rows.fnExactDotOfSpec Rows.fnExactDotOfRow.domain os started H enc (by kernel_rfl) Try.func11 rfl rfl
      (by rw [Try.params11]; intro t ht; simp only [List.mem_cons, List.not_mem_nil, or_false] at ht; rcases ht with rfl | rfl <;> exact ⟨by kernel_rfl, of_decide_eq_true (by kernel_rfl)⟩)
      (fun ds hl => by
        match ds, hl with
        | [d0, d1], _ => rfl)
      (ChangeSpec.witness6 (enc := enc) (C := Try.checked) false ⟨#[], #[.slice none 0 0, .slice none 0 0], []⟩ 8 (by kernel_rfl) (by kernel_rfl) (by kernel_rfl) (by kernel_rfl))
      (fun W base args ds p hval hA => by
        rw [Try.params11] at hA hval
        obtain ⟨v0, vs0, d0, ds0, p0, q0, hargs, rfl, rfl, h0, r0⟩ := trodAll_cons hA
        obtain ⟨v1, vs1, d1, ds1, p1, q1, rfl, rfl, rfl, h1, r1⟩ := trodAll_cons r0
        obtain ⟨rfl, rfl, rfl⟩ := trodAll_nil r1
        obtain rfl : args = #[v0, v1] := by cases args; simp_all
        obtain ⟨zs0, hz0, zw0⟩ := open_floatS (hval 0 22 v0 rfl rfl) h0
        obtain ⟨zs1, hz1, zw1⟩ := open_floatS (hval 1 22 v1 rfl rfl) h1
        exact lawDotOf_walk v0 zs0 zw0 v1 zs1 zw1 W hz0 hz1))
#print axioms FnExactDotOf_holds

end Go.Proofs.Ytjpnbcfdnolcjaa
