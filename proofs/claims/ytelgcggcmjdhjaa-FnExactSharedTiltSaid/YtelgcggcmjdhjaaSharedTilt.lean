/-
  For every list of blinds, height and wanted light, valid or not: the tilt that is nearest, and the sum of the differences, are what the model says, and the list is as it was. No conditions.
-/
import Derived.Test.YtelgcggcmjdhjaaSdS
namespace Go.Proofs.Ytelgcggcmjdhjaa
open Go.ChangeShapes Go.WideShapes Go.ChangeAt Go.RowKit Go.Deep Go.Joins

set_option maxRecDepth 100000 in
set_option maxHeartbeats 8000000 in
theorem FnExactSharedTilt_core (sv : Value) (ws : List Bd) (h : Int) (want : Nat) (b : Int) (v : Nat) (c : Int) (hv : fin32 v = true) (w : World) (hzs : BdsAt w sv ws)
    (hspec : ∀ w u, BdsAt w u ws → Calls Try.prog 46 #[u, .int .i64 h, .float .f32 want] w fun e w' => e = .returned (.tuple #[.int .i64 b, .float .f32 v, .int .i64 c]) ∧ Below w.heap.size w w')
    (himpl : ∀ w u, BdsAt w u ws → Calls Try.prog 48 #[u, .int .i64 h, .float .f32 want] w fun e w' => e = .returned (.tuple #[.int .i64 b, .float .f32 v, .int .i64 c]) ∧ Below w.heap.size w w') :
    Calls Try.prog 14 #[sv, .int .i64 h, .float .f32 want] w fun e w' => e = .returned (.bool true) ∧ Below w.heap.size w w' := by
  have HS := Lib.hid hspec
  have HI := Lib.hid himpl
  have HA := Lib.hid hzs
  have hw0 := run_wide _ hv
  have Hv0 := Lib.hid hv
  have zc : (c != c) = false := by simp
  have zb : (b != b) = false := by simp
  have hb : Below w.heap.size w w := Below.refl _ _
  clear hspec himpl hv
  obtain ⟨a0, cap0, rfl, hl1, hl2, _⟩ := hzs
  unfold maxLen at hl2
  have HSZ := Lib.hid (fun w => szBlindS_any a0 ws.length cap0 1048576 (by omega) (by decide) (by decide) w)
  have hlr : (leftI ws.length 1048576 < 0 ∧ 1048576 < ws.length) ∨ (0 ≤ leftI ws.length 1048576 ∧ ws.length ≤ 1048576) := by unfold leftI; split <;> omega
  generalize leftI (ws.length : Int) 1048576 = lf at *
  clear hl1 hl2
  go_enter Try.func14, Try.ntmps14
  rcases hlr with ⟨hlf, _⟩ | ⟨hlf, hlen⟩
  · clear HS HI HA
    go_wp2_with (go_at_call 45; refine (HSZ.out _).mono ?_; rintro e w1 ⟨rfl, rfl⟩)
    go_ret
    exact ⟨rfl, hb⟩
  · go_upto_region 6 with (first | (go_at_call 45; refine (HSZ.out _).mono ?_; rintro e w1 ⟨rfl, rfl⟩) | (go_at_call 47; refine (toBlindS_any _ ws hlen _ HA.out).mono ?_; rintro e W0 ⟨⟨v0, rfl, hv⟩, hb1⟩; have HV0 := Lib.hid hv; clear hv; replace HA := Lib.hid (bds_below HA.out hb1); replace hb := hb.trans (hb1.mono hb.size); clear hb1) | (go_at_call 46; refine (HS.out _ _ HV0.out).mono ?_; rintro e W2 ⟨rfl, hb1⟩; replace HA := Lib.hid (bds_below HA.out hb1); replace hb := hb.trans (hb1.mono hb.size); clear hb1))
    clear HV0 HS
    go_upto_region 7 with (go_at_call 47; refine (toBlindS_any _ ws hlen _ HA.out).mono ?_; rintro e W1 ⟨⟨v1, rfl, hv⟩, hb1⟩; have HV1 := Lib.hid hv; clear hv; replace HA := Lib.hid (bds_below HA.out hb1); replace hb := hb.trans (hb1.mono hb.size); clear hb1)
    go_upto_region 8 with (go_at_call 48; refine (HI.out _ _ HV1.out).mono ?_; rintro e W4 ⟨rfl, hb1⟩; replace HA := Lib.hid (bds_below HA.out hb1); replace HV1 := Lib.hid (bds_below HV1.out hb1); replace hb := hb.trans (hb1.mono hb.size); clear hb1)
    clear HI
    go_wp2_with (first | (go_at_call 29; refine (same_wide _ Hv0.out _).mono ?_; rintro e u1 ⟨rfl, rfl⟩) | (go_at_call 47; refine (toBlindS_any _ ws hlen _ HA.out).mono ?_; rintro e W5 ⟨⟨v5, rfl, hv⟩, hb1⟩; have HV5 := Lib.hid hv; clear hv; replace HA := Lib.hid (bds_below HA.out hb1); replace HV1 := Lib.hid (bds_below HV1.out hb1); replace hb := hb.trans (hb1.mono hb.size); clear hb1) | (go_at_call 49; refine (eqBlindS_any _ _ ws _ HV1.out HV5.out).mono ?_; rintro e W6 ⟨rfl, hb1⟩; replace hb := hb.trans (hb1.mono hb.size); clear hb1))
    go_ret
    exact ⟨rfl, hb⟩

theorem lawSharedTilt_walk (sv : Value) (ws : List Bd) (hwf : ∀ x ∈ ws, BdWf x) (h : Int) (want : Nat) (hww : (Lit.float .f32 want).wf = true) (w : World) (hzs : BdsAt w sv ws) :
    Calls Try.prog 14 #[sv, .int .i64 h, .float .f32 want] w fun e w' => e = .returned (.bool true) ∧ Below w.heap.size w w' := by
  by_cases hc : codeS ws h want = 0
  · obtain ⟨ha, hl, hi, hp⟩ := codeS_ok hc
    have l12 : ws.length ≤ 12 := by have := (inI_get hl).2; omega
    exact FnExactSharedTilt_core sv ws h want _ _ 0 (fin_of_lt (dS_lt h (all_ok hwf ha) (part_get hww hp) l12 _)) w hzs (fun w u hu => sSD_yes u ws hwf h want w hu ha hl hi hp hww _ _ rfl rfl) (fun w u hu => iSD_yes u ws hwf h want hww w hu hc _ _ rfl rfl)
  · exact FnExactSharedTilt_core sv ws h want 0 0 _ zero_fin w hzs (fun w u hu => sSD_no u ws hwf h want w hu hc) (fun w u hu => iSD_no u ws hwf h want w hu hc)

set_option maxRecDepth 100000 in
theorem FnExactSharedTilt_holds : Rows.FnExactSharedTiltSaid :=
  OpenClaim.holds_of_wide 14 Try.f14 rfl rfl rfl rfl rfl rfl rfl ⟨rfl, rfl, rfl, rfl, rfl⟩ rfl rfl rfl rfl rfl (by kernel_rfl) Try.func14 (by kernel_rfl)
    (of_decide_eq_true (by kernel_rfl)) (by unfold Func.isWrapper; first | (rw [if_pos (by decide +kernel)]; kernel_rfl) | (rw [if_neg (by decide +kernel)]; exact ⟨rfl, rfl⟩))
    (fun os started H enc _ => law_lifted 14 Try.f14 Rows.fnExactSharedTiltSpec Rows.fnExactSharedTiltRow.domain os started H enc (by kernel_rfl) Try.func14 rfl rfl
      (by rw [Try.params14]; intro t ht; simp only [List.mem_cons, List.not_mem_nil, or_false] at ht; rcases ht with rfl | rfl | rfl <;> exact ⟨by kernel_rfl, of_decide_eq_true (by kernel_rfl)⟩)
      (fun ds hl => by
        match ds, hl with
        | [d0, d1, d2], _ => rfl)
      (ChangeSpec.witness6 (enc := enc) (C := Try.checked) false ⟨#[], #[.slice none 0 0, .int .i64 0, .float .f32 0], []⟩ 8 (by kernel_rfl) (by kernel_rfl) (by kernel_rfl) (by kernel_rfl))
      (fun W base args ds p hval hA => by
        rw [Try.params14] at hA hval
        obtain ⟨v0, vs0, d0, ds0, p0, q0, hargs, rfl, rfl, h0, r0⟩ := trodAll_cons hA
        obtain ⟨v1, vs1, d1, ds1, p1, q1, rfl, rfl, rfl, h1, r1⟩ := trodAll_cons r0
        obtain ⟨v2, vs2, d2, ds2, p2, q2, rfl, rfl, rfl, h2, r2⟩ := trodAll_cons r1
        obtain ⟨rfl, rfl, rfl⟩ := trodAll_nil r2
        obtain rfl : args = #[v0, v1, v2] := by cases args; simp_all
        obtain ⟨ls0, hl0, lw0⟩ := open_blinds (hval 0 69 v0 rfl rfl) h0
        obtain ⟨a1, rfl, rfl, rfl, w1⟩ := open_int Try.underlying2 (hval 1 2 v1 rfl rfl) h1
        obtain ⟨a2, rfl, rfl, rfl, w2⟩ := open_float Try.underlying22 (hval 2 22 v2 rfl rfl) h2
        exact lawSharedTilt_walk v0 ls0 lw0 a1 a2 w2 W hl0))
#print axioms FnExactSharedTilt_holds

end Go.Proofs.Ytelgcggcmjdhjaa
