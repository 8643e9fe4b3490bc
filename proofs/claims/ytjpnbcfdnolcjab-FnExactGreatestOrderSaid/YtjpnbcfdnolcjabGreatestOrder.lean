/-
  For every list, valid or not: the order with the greatest sum and the sum are what the model says, in memory of their own, and the list is as it was. No conditions.
-/
import Derived.Test.YtjpnbcfdnolcjabGoM
import Derived.Test.YtjpnbcfdnolcjabMarkF
import Derived.Deep.Cut
import Derived.Deep.DeepCutAuto
namespace Go.Proofs.Ytjpnbcfdnolcjab
open Go.ChangeShapes Go.WideShapes Go.ChangeAt Go.RowKit Go.Deep Go.Joins

set_option maxRecDepth 100000 in
set_option maxHeartbeats 8000000 in
theorem lawGreatestOrder_core (sv0 : Value) (zs0 : List Nat) (xs : List Int) (mv : Nat) (c : Int) (hvm : fin32 mv = true) (hn : xs.length ≤ 1000) (w : World) (hz0 : FloatsAt w sv0 zs0)
    (hspec : ∀ w u0, FloatsAt w u0 zs0 → Calls Try.prog 30 #[u0] w (Ret3 xs mv c w))
    (himpl : ∀ w u0, FloatsAt w u0 zs0 → Calls Try.prog 31 #[u0] w (Ret3 xs mv c w)) :
    Calls Try.prog 10 #[sv0] w fun e w' => e = .returned (.bool true) ∧ Below w.heap.size w w' := by
  have HS := Lib.hid hspec
  have HI := Lib.hid himpl
  have hw0 := run_wide _ hvm
  have Hv0 := Lib.hid hvm
  clear hvm
  have HZ0 := Lib.hid hz0
  clear hspec himpl
  obtain ⟨aa0, cap0, esv0, -⟩ := hz0
  subst esv0
  have hb : Below w.heap.size w w := Below.refl _ _
  by_cases hlen0 : zs0.length ≤ 1048576
  · have zl0 : ((zs0.length : Nat) : Int) ≤ 1048576 := by omega
    have z0 : decide ((1 : Int) + (xs.length : Int) < 0) = false := by apply decide_eq_false; omega
    have z0' : decide ((1 : Int) + (zs0.length : Int) < 0) = false := by apply decide_eq_false; omega
    have zc : (c != c) = false := by simp
    have zn : ((1 : Int) + (xs.length : Int) != 1 + (xs.length : Int)) = false := by simp
    go_enter Try.func10, Try.ntmps10
    go_upto_region 4 with (first | (go_at_call 14; (with_reducible refine (toFloat32S_own _ zs0 hlen0 _ (floats_below HZ0.out hb)).mono ?_); rintro e V1 ⟨⟨vHY0, rfl, hv⟩, hb1⟩; have HY0 := Lib.hid hv; clear hv; replace hb := hb.trans (hb1.mono hb.size); clear hb1) | (go_at_call 30; refine (HS.out _ _ (own_floats HY0.out)).mono ?_; rintro e V2 ⟨⟨f0, rfl, hv⟩, hb1⟩; have HF0 := Lib.hid hv; clear hv; replace HY0 := Lib.hid (own_below HY0.out hb1 (Nat.le_refl _)); replace hb := hb.trans (hb1.mono hb.size); clear hb1))
    clear HS HY0
    have hu0 := under_of HF0.out
    have hw1 := hb.size
    obtain ⟨B1, hB1⟩ : ∃ B1, B1 = V2.heap.size := ⟨_, rfl⟩
    rw [← hB1] at hu0 hw1
    go_upto_region 5 with (go_at_call 14; (with_reducible refine (toFloat32S_own _ zs0 hlen0 _ (floats_below HZ0.out hb)).mono ?_); rintro e V3 ⟨⟨vHX0, rfl, hv⟩, hb1⟩; rw [← hB1] at hv; have hs1 : B1 ≤ V3.heap.size := (by have := hb1.size; rw [← hB1] at this; exact this); have HX0 := Lib.hid hv; clear hv; replace HF0 := Lib.hid (own_below HF0.out hb1 (Nat.le_refl _)); replace hb := hb.trans (hb1.mono hb.size); clear hb1)
    clear hB1
    have hu1 := under_of HX0.out
    obtain ⟨B2, hB2⟩ : ∃ B2, B2 = V3.heap.size := ⟨_, rfl⟩
    rw [← hB2] at hu1 hs1
    have hle1 := hs1
    clear hs1
    go_upto_region 6 with (go_at_call 31; refine (HI.out _ _ (own_floats HX0.out)).mono ?_; rintro e V4 ⟨⟨f2, rfl, hv⟩, hb1⟩; rw [← hB2] at hv; have HF2 := Lib.hid hv; clear hv; replace HF0 := Lib.hid (own_below HF0.out hb1 (Nat.le_refl _)); replace HX0 := Lib.hid (own_below HX0.out hb1 (Nat.le_refl _)); replace hb := hb.trans (hb1.mono hb.size); clear hb1)
    clear hB2
    go_upto_region 8 with (first | (go_at_call 32; refine (eqI_same xs f2 f0 _ _ _ HF2.out HF0.out).mono ?_; rintro e V5 ⟨rfl, hb1⟩; replace HF0 := Lib.hid (own_below HF0.out hb1 (Nat.le_refl _)); replace HX0 := Lib.hid (own_below HX0.out hb1 (Nat.le_refl _)); replace HF2 := Lib.hid (own_below HF2.out hb1 (Nat.le_refl _)); replace hb := hb.trans (hb1.mono hb.size); clear hb1) | (go_at_call 16; refine (same_wide _ Hv0.out _).mono ?_; rintro e u1 ⟨rfl, rfl⟩))
    go_upto_region 11 with (first | (go_at_call 14; (with_reducible refine (toFloat32S_own _ zs0 hlen0 _ (floats_below HZ0.out hb)).mono ?_); rintro e V6 ⟨⟨vHQ, rfl, hv⟩, hb1⟩; have HQ := Lib.hid hv; clear hv; replace HF0 := Lib.hid (own_below HF0.out hb1 (Nat.le_refl _)); replace HX0 := Lib.hid (own_below HX0.out hb1 (Nat.le_refl _)); replace HF2 := Lib.hid (own_below HF2.out hb1 (Nat.le_refl _)); replace hb := hb.trans (hb1.mono hb.size); clear hb1) | (go_at_call 17; refine (eqFloat32S_any _ _ zs0 _ (own_floats HX0.out) (own_floats HQ.out)).mono ?_; rintro e V7 ⟨rfl, hb1⟩; replace HF0 := Lib.hid (own_below HF0.out hb1 (Nat.le_refl _)); replace HX0 := Lib.hid (own_below HX0.out hb1 (Nat.le_refl _)); replace HF2 := Lib.hid (own_below HF2.out hb1 (Nat.le_refl _)); replace HQ := Lib.hid (own_below HQ.out hb1 (Nat.le_refl _)); replace hb := hb.trans (hb1.mono hb.size); clear hb1))
    clear HQ
    go_upto_region 12 with (go_at_call 33; refine (markF_any 1 zs0 vHX0 B1 _ (by omega) (by omega) (by omega) HX0.out).mono ?_; intro e V8 hm; have hA := above_of HX0.out; replace HF0 := Lib.hid (own_markedF HF0.out (under_mono hu0 (by omega)) hA hm); replace HF2 := Lib.hid (own_markedAF HF2.out (above_of HF2.out) (under_mono hu1 (by omega)) hm); replace hb := hb.trans (hm.2.2.1.mono (by omega)); obtain rfl := hm.1; clear hm hA)
    clear HX0
    go_upto_region 15 with (first | (go_at_call 32; refine (eqI_same xs f2 f0 _ _ _ HF2.out HF0.out).mono ?_; rintro e V9 ⟨rfl, hb1⟩; replace HF0 := Lib.hid (own_below HF0.out hb1 (Nat.le_refl _)); replace HF2 := Lib.hid (own_below HF2.out hb1 (Nat.le_refl _)); replace hb := hb.trans (hb1.mono hb.size); clear hb1) | (go_at_call 16; refine (same_wide _ Hv0.out _).mono ?_; rintro e u1 ⟨rfl, rfl⟩))
    go_upto_region 17 with (go_at_call 34; refine (markI_any 1 xs f2 B2 _ (by decide) (by decide) (by omega) HF2.out).mono ?_; intro e V10 hm; have hA := above_of HF2.out; replace HF0 := Lib.hid (own_marked HF0.out (under_mono hu0 (by omega)) hA hm); replace hb := hb.trans (hm.2.2.1.mono (by omega)); replace HF2 := Lib.hid hm.2.1; obtain rfl := hm.1; clear hm hA)
    go_upto_region 18 with (go_at_call 35; refine (heldI_same 1 xs.length f2 B2 _ (by decide) (by decide) (by omega) HF2.out).mono ?_; rintro e V11 ⟨rfl, hb1⟩; replace HF0 := Lib.hid (own_below HF0.out hb1 (Nat.le_refl _)); replace HF2 := Lib.hid (own_below HF2.out hb1 (Nat.le_refl _)); replace hb := hb.trans (hb1.mono hb.size); clear hb1)
    go_upto_region 22 with (fail)
    go_upto_region 23 with (first | (go_at_call 14; (with_reducible refine (toFloat32S_own _ zs0 hlen0 _ (floats_below HZ0.out hb)).mono ?_); rintro e V12 ⟨⟨vHY0, rfl, hv⟩, hb1⟩; have HY0 := Lib.hid hv; clear hv; replace HF0 := Lib.hid (own_below HF0.out hb1 (Nat.le_refl _)); replace HF2 := Lib.hid (own_below HF2.out hb1 (Nat.le_refl _)); replace hb := hb.trans (hb1.mono hb.size); clear hb1) | (go_at_call 31; refine (HI.out _ _ (own_floats HY0.out)).mono ?_; rintro e V13 ⟨⟨f4, rfl, hv⟩, hb1⟩; have HF4 := Lib.hid hv; clear hv; replace HF0 := Lib.hid (own_below HF0.out hb1 (Nat.le_refl _)); replace HF2 := Lib.hid (own_below HF2.out hb1 (Nat.le_refl _)); replace HY0 := Lib.hid (own_below HY0.out hb1 (Nat.le_refl _)); replace hb := hb.trans (hb1.mono hb.size); clear hb1))
    clear HI HY0
    go_upto_region 26 with (first | (go_at_call 32; refine (eqI_same xs f4 f0 _ _ _ HF4.out HF0.out).mono ?_; rintro e V14 ⟨rfl, hb1⟩; replace HF0 := Lib.hid (own_below HF0.out hb1 (Nat.le_refl _)); replace HF2 := Lib.hid (own_below HF2.out hb1 (Nat.le_refl _)); replace HF4 := Lib.hid (own_below HF4.out hb1 (Nat.le_refl _)); replace hb := hb.trans (hb1.mono hb.size); clear hb1) | (go_at_call 16; refine (same_wide _ Hv0.out _).mono ?_; rintro e u1 ⟨rfl, rfl⟩))
    clear HF4 HF0
    go_wp2_with (go_at_call 35; refine (heldI_same 1 xs.length f2 B2 _ (by decide) (by decide) (by omega) HF2.out).mono ?_; rintro e V15 ⟨rfl, hb1⟩; replace HF2 := Lib.hid (own_below HF2.out hb1 (Nat.le_refl _)); replace hb := hb.trans (hb1.mono hb.size); clear hb1)
    go_ret
    exact ⟨rfl, hb⟩
  · have zl0 : (1048576 : Int) < ((zs0.length : Nat) : Int) := by omega
    clear HS HI HZ0
    go_enter Try.func10, Try.ntmps10
    go_wp2
    go_ret
    exact ⟨rfl, hb⟩

theorem lawGreatestOrder_walk (sv0 : Value) (zs0 : List Nat) (hwf0 : ∀ z ∈ zs0, (Lit.float .f32 z).wf = true) (w : World) (hz0 : FloatsAt w sv0 zs0) :
    Calls Try.prog 10 #[sv0] w fun e w' => e = .returned (.bool true) ∧ Below w.heap.size w w' := by
  cases ho : okLs zs0 with
  | true =>
    by_cases h7 : zs0.length < 7
    · obtain ⟨h48, hq⟩ := okLs_get hwf0 ho
      have hf := st_facts (perms_ok h7) hq rfl h7 ((permsL zs0.length).length - 1) (by have := (perms_ok h7).pos; omega)
      exact lawGreatestOrder_core sv0 zs0 _ _ 0 (num_finN hf.2) (by rw [List.length_map, hf.1]; omega) w hz0 (fun w u hu => sGreatestOrder_yes u zs0 ho h7 hwf0 w hu) (fun w u hu => iGreatestOrder_yes u zs0 ho h7 hwf0 w hu)
    · exact lawGreatestOrder_core sv0 zs0 [] 0 3 zero_fin (by decide) w hz0 (fun w u hu => sGreatestOrder_no u zs0 3 (.inr ⟨rfl, ho, by omega⟩) w hu) (fun w u hu => iGreatestOrder_no u zs0 3 (.inr ⟨rfl, ho, by omega⟩) w hu)
  | false => exact lawGreatestOrder_core sv0 zs0 [] 0 1 zero_fin (by decide) w hz0 (fun w u hu => sGreatestOrder_no u zs0 1 (.inl ⟨rfl, ho⟩) w hu) (fun w u hu => iGreatestOrder_no u zs0 1 (.inl ⟨rfl, ho⟩) w hu)

set_option maxRecDepth 100000 in
theorem FnExactGreatestOrder_holds : Rows.FnExactGreatestOrderSaid :=
  OpenClaim.holds_of_wide 10 Try.f10 rfl rfl rfl rfl rfl rfl rfl ⟨rfl, rfl, rfl, rfl, rfl⟩ rfl rfl rfl rfl rfl (by kernel_rfl) Try.func10 (by kernel_rfl)
    (of_decide_eq_true (by kernel_rfl)) (by unfold Func.isWrapper; first | (rw [if_pos (by decide +kernel)]; kernel_rfl) | (rw [if_neg (by decide +kernel)]; exact ⟨rfl, rfl⟩))
    (fun os started H enc _ => law_lifted 10 Try.f10 Rows.fnExactGreatestOrderSpec Rows.fnExactGreatestOrderRow.domain os started H enc (by kernel_rfl) Try.func10 rfl rfl
      (by rw [Try.params10]; intro t ht; simp only [List.mem_cons, List.not_mem_nil, or_false] at ht; subst ht <;> exact ⟨by kernel_rfl, of_decide_eq_true (by kernel_rfl)⟩)
      (fun ds hl => by
        match ds, hl with
        | [d0], _ => rfl)
      (ChangeSpec.witness6 (enc := enc) (C := Try.checked) false ⟨#[], #[.slice none 0 0], []⟩ 8 (by kernel_rfl) (by kernel_rfl) (by kernel_rfl) (by kernel_rfl))
      (fun W base args ds p hval hA => by
        rw [Try.params10] at hA hval
        obtain ⟨v0, vs0, d0, ds0, p0, q0, hargs, rfl, rfl, h0, r0⟩ := trodAll_cons hA
        obtain ⟨rfl, rfl, rfl⟩ := trodAll_nil r0
        obtain rfl : args = #[v0] := by cases args; simp_all
        obtain ⟨zs0, hz0, zw0⟩ := open_floatS (hval 0 22 v0 rfl rfl) h0
        exact lawGreatestOrder_walk v0 zs0 zw0 W hz0))
#print axioms FnExactGreatestOrder_holds

end Go.Proofs.Ytjpnbcfdnolcjab
