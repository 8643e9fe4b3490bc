/-
  For every list, valid or not, and every bound: which numbers are greater is what the model says, and the list is as it was. No conditions.
-/
import Derived.Test.YtjpnbcfdnolcjaaPkA
import Derived.Deep.Cut
import Derived.Deep.DeepCutAuto
namespace Go.Proofs.Ytjpnbcfdnolcjaa
open Go.ChangeShapes Go.WideShapes Go.ChangeAt Go.RowKit Go.Deep Go.Joins

theorem pureB {fn : Nat} {args : Array Value} {w : World} {v : Value} (h : Calls Try.prog fn args w fun e w' => e = .returned v ∧ w = w') : Calls Try.prog fn args w fun e w' => e = .returned v ∧ Below w.heap.size w w' := by
  refine h.mono ?_
  rintro e w' ⟨rfl, rfl⟩
  exact ⟨rfl, Below.refl _ _⟩
set_option maxRecDepth 100000 in
set_option maxHeartbeats 4000000 in
theorem lawPackAbove_core (sv0 : Value) (zs0 : List Nat) (a1 : Nat) (v : Int) (c : Int) (w : World) (hz0 : FloatsAt w sv0 zs0)
    (hspec : ∀ w u0, FloatsAt w u0 zs0 → Calls Try.prog 40 #[u0, .float .f32 a1] w fun e w' => e = .returned (.tuple #[.int .u64 v, .int .i64 c]) ∧ Below w.heap.size w w')
    (himpl : ∀ w u0, FloatsAt w u0 zs0 → Calls Try.prog 41 #[u0, .float .f32 a1] w fun e w' => e = .returned (.tuple #[.int .u64 v, .int .i64 c]) ∧ Below w.heap.size w w') :
    Calls Try.prog 13 #[sv0, .float .f32 a1] w fun e w' => e = .returned (.bool true) ∧ Below w.heap.size w w' := by
  have HS := Lib.hid hspec
  have HI := Lib.hid himpl
  have HA0 := Lib.hid hz0
  have zc : (c != c) = false := by simp
  have zv : (v != v) = false := by simp
  have hb : Below w.heap.size w w := Below.refl _ _
  clear hspec himpl
  have esv0 : ∃ a cap, sv0 = .slice a zs0.length cap := by obtain ⟨a, cap, e, _⟩ := hz0; exact ⟨a, cap, e⟩
  clear hz0
  obtain ⟨aa0, cap0, esv0⟩ := esv0
  subst esv0
  by_cases hlen0 : zs0.length ≤ 1048576
  · have zl0 : ((zs0.length : Nat) : Int) ≤ 1048576 := by omega
    go_enter Try.func13, Try.ntmps13
    go_upto_region 4 with (first | (go_at_call 16; (with_reducible refine (toFloat32S_any _ zs0 hlen0 _ HA0.out).mono ?_); rintro e W1 ⟨⟨vHV0, rfl, hv⟩, hb1⟩; have HV0 := Lib.hid hv; clear hv; replace HA0 := Lib.hid (floats_below HA0.out hb1); replace hb := hb.trans (hb1.mono hb.size); clear hb1) | (go_at_call 40; refine (HS.out _ _ HV0.out).mono ?_; rintro e W2 ⟨rfl, hb1⟩; replace HA0 := Lib.hid (floats_below HA0.out hb1); replace HV0 := Lib.hid (floats_below HV0.out hb1); replace hb := hb.trans (hb1.mono hb.size); clear hb1))
    clear HV0
    go_upto_region 5 with (go_at_call 16; (with_reducible refine (toFloat32S_any _ zs0 hlen0 _ HA0.out).mono ?_); rintro e W3 ⟨⟨vHX0, rfl, hv⟩, hb1⟩; have HX0 := Lib.hid hv; clear hv; replace HA0 := Lib.hid (floats_below HA0.out hb1); replace hb := hb.trans (hb1.mono hb.size); clear hb1)
    go_upto_region 8 with (go_at_call 41; refine (HI.out _ _ HX0.out).mono ?_; rintro e W4 ⟨rfl, hb1⟩; replace HA0 := Lib.hid (floats_below HA0.out hb1); replace HX0 := Lib.hid (floats_below HX0.out hb1); replace hb := hb.trans (hb1.mono hb.size); clear hb1)
    go_wp2_with (first | (go_at_call 16; (with_reducible refine (toFloat32S_any _ zs0 hlen0 _ HA0.out).mono ?_); rintro e W5 ⟨⟨vHF0, rfl, hv⟩, hb1⟩; have HF0 := Lib.hid hv; clear hv; replace HA0 := Lib.hid (floats_below HA0.out hb1); replace HX0 := Lib.hid (floats_below HX0.out hb1); replace hb := hb.trans (hb1.mono hb.size); clear hb1) | (go_at_call 18; refine (eqFloat32S_any _ _ zs0 _ HX0.out HF0.out).mono ?_; rintro e W6 ⟨rfl, hb1⟩; replace HA0 := Lib.hid (floats_below HA0.out hb1); replace HX0 := Lib.hid (floats_below HX0.out hb1); replace HF0 := Lib.hid (floats_below HF0.out hb1); replace hb := hb.trans (hb1.mono hb.size); clear hb1))
    go_ret
    exact ⟨rfl, hb⟩
  · have zl0 : (1048576 : Int) < ((zs0.length : Nat) : Int) := by omega
    clear HS HI HA0
    go_enter Try.func13, Try.ntmps13
    go_wp2
    go_ret
    exact ⟨rfl, hb⟩
theorem lawPackAbove_walk (sv0 : Value) (zs0 : List Nat) (hwf0 : ∀ z ∈ zs0, (Lit.float .f32 z).wf = true) (a1 : Nat) (_hwf1 : (Lit.float .f32 a1).wf = true) (w : World) (hz0 : FloatsAt w sv0 zs0) :
    Calls Try.prog 13 #[sv0, .float .f32 a1] w fun e w' => e = .returned (.bool true) ∧ Below w.heap.size w w' := by
  by_cases hc : codePk zs0 a1 = 0
  · exact lawPackAbove_core sv0 zs0 a1 (packK zs0 a1 zs0.length : Int) 0 w hz0 (fun w u hu => pureB (sPackAbove_yes u zs0 a1 hc hwf0 w hu)) (fun w u hu => pureB (iPackAbove_yes u zs0 a1 hc hwf0 w hu))
  · exact lawPackAbove_core sv0 zs0 a1 0 (codePk zs0 a1) w hz0 (fun w u hu => pureB (sPackAbove_no u zs0 a1 _ rfl hc w hu)) (fun w u hu => pureB (iPackAbove_no u zs0 a1 _ rfl hc w hu))

set_option maxRecDepth 100000 in
theorem FnExactPackAbove_holds : Rows.FnExactPackAboveSaid :=
  OpenClaim.holds_of_wide 13 Try.f13 rfl rfl rfl rfl rfl rfl rfl ⟨rfl, rfl, rfl, rfl, rfl⟩ rfl rfl rfl rfl rfl (by kernel_rfl) Try.func13 (by kernel_rfl)
    (of_decide_eq_true (by kernel_rfl)) (by unfold Func.isWrapper; first | (rw [if_pos (by decide +kernel)]; kernel_rfl) | (rw [if_neg (by decide +kernel)]; exact ⟨rfl, rfl⟩))
    (fun os started H enc _ => law_lifted 13 Try.f13 Rows.fnExactPackAboveSpec Rows.fnExactPackAboveRow.domain os started H enc (by kernel_rfl) Try.func13 rfl rfl
      (by rw [Try.params13]; intro t ht; simp only [List.mem_cons, List.not_mem_nil, or_false] at ht; rcases ht with rfl | rfl <;> exact ⟨by kernel_rfl, of_decide_eq_true (by kernel_rfl)⟩)
      (fun ds hl => by
        match ds, hl with
        | [d0, d1], _ => rfl)
      (ChangeSpec.witness6 (enc := enc) (C := Try.checked) false ⟨#[], #[.slice none 0 0, .float .f32 0], []⟩ 8 (by kernel_rfl) (by kernel_rfl) (by kernel_rfl) (by kernel_rfl))
      (fun W base args ds p hval hA => by
        rw [Try.params13] at hA hval
        obtain ⟨v0, vs0, d0, ds0, p0, q0, hargs, rfl, rfl, h0, r0⟩ := trodAll_cons hA
        obtain ⟨v1, vs1, d1, ds1, p1, q1, rfl, rfl, rfl, h1, r1⟩ := trodAll_cons r0
        obtain ⟨rfl, rfl, rfl⟩ := trodAll_nil r1
        obtain rfl : args = #[v0, v1] := by cases args; simp_all
        obtain ⟨zs0, hz0, zw0⟩ := open_floatS (hval 0 22 v0 rfl rfl) h0
        obtain ⟨a1, rfl, rfl, rfl, w1⟩ := open_float Try.underlying26 (hval 1 26 v1 rfl rfl) h1
        exact lawPackAbove_walk v0 zs0 zw0 a1 w1 W hz0))
#print axioms FnExactPackAbove_holds

end Go.Proofs.Ytjpnbcfdnolcjaa
