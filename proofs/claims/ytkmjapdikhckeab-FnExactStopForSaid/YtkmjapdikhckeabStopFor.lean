/-
  For every cord, valid or not, every load and every number: the stop whose place is nearest, and this place, are what the model says. No conditions.
-/
import Derived.Test.YtkmjapdikhckeabStopI
namespace Go.Proofs.Ytkmjapdikhckeab
open Go.ChangeShapes Go.WideShapes Go.ChangeAt Go.RowKit Go.Deep Go.Joins

set_option maxRecDepth 100000 in
set_option maxHeartbeats 1000000 in
theorem FnExactStopFor_core (ln st : Nat) (sp : Int) (load wanted : Nat) (v0 : Int) (v1 : Nat) (v2 : Int) (hv1 : fin32 v1 = true)
    (hspec : ∀ w, Calls Try.prog 9 #[.agg (cordC ln st sp), .float .f32 load, .float .f32 wanted] w fun e w' => e = .returned (.tuple #[.int .i64 v0, .float .f32 v1, .int .i64 v2]) ∧ Below w.heap.size w w')
    (himpl : ∀ w, Calls Try.prog 11 #[.agg (cordC ln st sp), .float .f32 load, .float .f32 wanted] w fun e w' => e = .returned (.tuple #[.int .i64 v0, .float .f32 v1, .int .i64 v2]) ∧ Below w.heap.size w w') (w : World) :
    Calls Try.prog 3 #[.agg (cordC ln st sp), .float .f32 load, .float .f32 wanted] w fun e w' => e = .returned (.bool true) ∧ Below w.heap.size w w' := by
  have HS := Lib.hid hspec
  have HI := Lib.hid himpl
  clear hspec himpl
  have hw1 := run_wide _ hv1
  have Hv1 := Lib.hid hv1
  clear hv1
  go_enter Try.func3, Try.ntmps3
  go_upto_region 1 with (fail)
  refine abs_world (fun W => Below w.heap.size w W ∧ W.heap[w.heap.size]? = some (.cells (cordC ln st sp) 25 (0, 0))) ⟨(Below.refl _ _).alloc (Nat.le_refl _) _, heap_alloc_new _ _⟩ ?_
  rintro W ⟨hb, h0⟩
  have H0 := Lib.hid h0
  clear h0
  go_wp2_with (first | (refine wpList_load_part rfl 25 _ rfl w.heap.size 0 3 rfl 25 (cordC ln st sp) (0, 0) _ H0.out Try.underlying25 rfl info_cordL (cord_fits _ _ _) _ (cord_all _ _ _) ?_) | (go_at_call 10; refine (toCord_any _ _ _ _).mono ?_; rintro e W1 ⟨rfl, hb1⟩; replace H0 := Lib.hid (below_row hb1 H0.out); replace hb := hb.trans (hb1.mono hb.size); clear hb1) | (go_at_call 9; refine (HS.out _).mono ?_; rintro e W1 ⟨rfl, hb1⟩; replace H0 := Lib.hid (below_row hb1 H0.out); replace hb := hb.trans (hb1.mono hb.size); clear hb1) | (go_at_call 11; refine (HI.out _).mono ?_; rintro e W1 ⟨rfl, hb1⟩; replace H0 := Lib.hid (below_row hb1 H0.out); replace hb := hb.trans (hb1.mono hb.size); clear hb1) | (go_at_call 12; refine (same_wide _ Hv1.out _).mono ?_; rintro e w1 ⟨rfl, rfl⟩))
  go_ret
  exact ⟨rfl, hb⟩

theorem lawStopFor_walk (ln st : Nat) (sp : Int) (cw : CoWf ln st sp) (load : Nat) (hw : (Lit.float .f32 load).wf = true) (wanted : Nat) (hww : (Lit.float .f32 wanted).wf = true) (w : World) :
    Calls Try.prog 3 #[.agg (cordC ln st sp), .float .f32 load, .float .f32 wanted] w fun e w' => e = .returned (.bool true) ∧ Below w.heap.size w w' := by
  cases hp : partB load with
  | false => exact FnExactStopFor_core ln st sp load wanted _ _ _ zero_fin (fun w => specStopFor_p ln st sp cw load wanted hp w) (fun w => implStopFor_p ln st sp cw load wanted hp w) w
  | true =>
    cases hq : plainB wanted with
    | false => exact FnExactStopFor_core ln st sp load wanted _ _ _ zero_fin (fun w => specStopFor_q ln st sp cw load wanted hp hq w) (fun w => implStopFor_q ln st sp cw load wanted hp hq w) w
    | true =>
      cases hk : okCo ln st sp with
      | false => exact FnExactStopFor_core ln st sp load wanted _ _ _ zero_fin (fun w => specStopFor_k ln st sp cw load wanted hp hq hk w) (fun w => implStopFor_k ln st sp cw load wanted hp hq hk w) w
      | true =>
        have OK := cook_of cw hk
        obtain ⟨s, rfl⟩ := Int.eq_ofNat_of_zero_le (Int.le_trans (by decide) OK.2.2.2.1)
        have hj : bestS ln st load s wanted ≤ s := firstMin_le _ _
        have hs1 := OK.2.2.2.2
        have LP := betw_zero hw (by decide) hp
        exact FnExactStopFor_core ln st (s : Int) load wanted _ _ _ (fin_of_lt (Nat.lt_of_le_of_lt (plc_le OK.1 OK.2.1 OK.2.2.1 LP (by omega) (by omega) OK.2.2.2.1 hs1) (by decide))) (fun w => specStopFor_y ln st s cw load wanted hk hp hw hq hww w) (fun w => implStopFor_y ln st s cw load wanted hk hp hw hq hww w) w

set_option maxRecDepth 100000 in
theorem FnExactStopFor_holds : Rows.FnExactStopForSaid :=
  OpenClaim.holds_of_wide 3 Try.f3 rfl rfl rfl rfl rfl rfl rfl ⟨rfl, rfl, rfl, rfl, rfl⟩ rfl rfl rfl rfl rfl (by kernel_rfl) Try.func3 (by kernel_rfl)
    (of_decide_eq_true (by kernel_rfl)) (by unfold Func.isWrapper; first | (rw [if_pos (by decide +kernel)]; kernel_rfl) | (rw [if_neg (by decide +kernel)]; exact ⟨rfl, rfl⟩))
    (fun os started H enc _ => law_lifted 3 Try.f3 Rows.fnExactStopForSpec Rows.fnExactStopForRow.domain os started H enc (by kernel_rfl) Try.func3 rfl rfl
      (by rw [Try.params3]; intro t ht; simp only [List.mem_cons, List.not_mem_nil, or_false] at ht; rcases ht with rfl | rfl | rfl <;> exact ⟨by kernel_rfl, of_decide_eq_true (by kernel_rfl)⟩)
      (fun ds hl => by
        match ds, hl with
        | [d0, d1, d2], _ => rfl)
      (ChangeSpec.witness6 (enc := enc) (C := Try.checked) false ⟨#[], #[.agg #[.float .f32 0, .float .f32 0, .int .i8 0], .float .f32 0, .float .f32 0], []⟩ 8 (by kernel_rfl) (by kernel_rfl) (by kernel_rfl) (by kernel_rfl))
      (fun W base args ds p hval hA => by
        rw [Try.params3] at hA hval
        obtain ⟨v0, vs0, d0, ds0, p0, q0, hargs, rfl, rfl, h0, r0⟩ := trodAll_cons hA
        obtain ⟨v1, vs1, d1, ds1, p1, q1, rfl, rfl, rfl, h1, r1⟩ := trodAll_cons r0
        obtain ⟨v2, vs2, d2, ds2, p2, q2, rfl, rfl, rfl, h2, r2⟩ := trodAll_cons r1
        obtain ⟨rfl, rfl, rfl⟩ := trodAll_nil r2
        obtain rfl : args = #[v0, v1, v2] := by cases args; simp_all
        obtain ⟨ln0, st0, sp0, cw0, rfl⟩ := open_cord (hval 0 25 v0 rfl rfl) h0
        obtain ⟨a1, rfl, rfl, rfl, w1⟩ := open_float Try.underlying22 (hval 1 22 v1 rfl rfl) h1
        obtain ⟨a2, rfl, rfl, rfl, w2⟩ := open_float Try.underlying22 (hval 2 22 v2 rfl rfl) h2
        exact lawStopFor_walk ln0 st0 sp0 cw0 a1 w1 a2 w2 W ))
#print axioms FnExactStopFor_holds

end Go.Proofs.Ytkmjapdikhckeab
