/-
  For every cord, valid or not: whether it is valid is what the model says. No conditions.
-/
import Derived.Test.YteagbfobnjfhcabCord
namespace Go.Proofs.Yteagbfobnjfhcab
open Go.ChangeShapes Go.WideShapes Go.ChangeAt Go.RowKit Go.Deep Go.Joins

set_option maxRecDepth 100000 in
set_option maxHeartbeats 1000000 in
theorem specValidCord_any (ln st : Nat) (sp : Int) (cw : CoWf ln st sp) (w : World) :
    Calls Try.prog 14 #[.agg (cordC ln st sp)] w fun e w' => e = .returned (.bool (okCo ln st sp)) ∧ Below w.heap.size w w' := by
  obtain ⟨s0, s1⟩ := cowf_s cw
  go_enter Try.func14, Try.ntmps14
  go_wp2_with (go_at_call 57; refine (l02Cord_any ln st sp s0 s1 w.heap.size _ _ _ (heap_alloc_new _ _)).mono ?_; rintro e w' ⟨rfl, rfl⟩)
  go_ret
  exact ⟨rfl, (Below.refl _ _).alloc (Nat.le_refl _) _⟩

set_option maxRecDepth 100000 in
set_option maxHeartbeats 1000000 in
theorem FnExactValidCord_core (ln st : Nat) (sp : Int) (v0 : Bool) 
    (hspec : ∀ w, Calls Try.prog 14 #[.agg (cordC ln st sp)] w fun e w' => e = .returned (.bool v0) ∧ Below w.heap.size w w')
    (himpl : ∀ w, Calls Try.prog 16 #[.agg (cordC ln st sp)] w fun e w' => e = .returned (.bool v0) ∧ Below w.heap.size w w') (w : World) :
    Calls Try.prog 3 #[.agg (cordC ln st sp)] w fun e w' => e = .returned (.bool true) ∧ Below w.heap.size w w' := by
  have HS := Lib.hid hspec
  have HI := Lib.hid himpl
  clear hspec himpl
  go_enter Try.func3, Try.ntmps3
  go_upto_region 1 with (fail)
  refine abs_world (fun W => Below w.heap.size w W ∧ W.heap[w.heap.size]? = some (.cells (cordC ln st sp) 25 (0, 0))) ⟨(Below.refl _ _).alloc (Nat.le_refl _) _, heap_alloc_new _ _⟩ ?_
  rintro W ⟨hb, h0⟩
  have H0 := Lib.hid h0
  clear h0
  go_wp2_with (first | (refine wpList_load_part rfl 25 _ rfl w.heap.size 0 3 rfl 25 (cordC ln st sp) (0, 0) _ H0.out Try.underlying25 rfl info_cordL (cord_fits _ _ _) _ (cord_all _ _ _) ?_) | (go_at_call 15; refine (toCord_any _ _ _ _).mono ?_; rintro e W1 ⟨rfl, hb1⟩; replace H0 := Lib.hid (below_row hb1 H0.out); replace hb := hb.trans (hb1.mono hb.size); clear hb1) | (go_at_call 14; refine (HS.out _).mono ?_; rintro e W1 ⟨rfl, hb1⟩; replace H0 := Lib.hid (below_row hb1 H0.out); replace hb := hb.trans (hb1.mono hb.size); clear hb1) | (go_at_call 16; refine (HI.out _).mono ?_; rintro e W1 ⟨rfl, hb1⟩; replace H0 := Lib.hid (below_row hb1 H0.out); replace hb := hb.trans (hb1.mono hb.size); clear hb1))
  go_ret
  exact ⟨rfl, hb⟩

theorem lawValidCord_walk (ln st : Nat) (sp : Int) (cw : CoWf ln st sp) (w : World) :
    Calls Try.prog 3 #[.agg (cordC ln st sp)] w fun e w' => e = .returned (.bool true) ∧ Below w.heap.size w w' :=
  FnExactValidCord_core _ _ _ _ (fun w => specValidCord_any _ _ _ cw w) (fun w => ValidCord_any _ _ _ w) w

set_option maxRecDepth 100000 in
theorem FnExactValidCord_holds : Rows.FnExactValidCordSaid :=
  OpenClaim.holds_of_wide 3 Try.f3 rfl rfl rfl rfl rfl rfl rfl ⟨rfl, rfl, rfl, rfl, rfl⟩ rfl rfl rfl rfl rfl (by kernel_rfl) Try.func3 (by kernel_rfl)
    (of_decide_eq_true (by kernel_rfl)) (by unfold Func.isWrapper; first | (rw [if_pos (by decide +kernel)]; kernel_rfl) | (rw [if_neg (by decide +kernel)]; exact ⟨rfl, rfl⟩))
    (fun os started H enc _ => law_lifted 3 Try.f3 Rows.fnExactValidCordSpec Rows.fnExactValidCordRow.domain os started H enc (by kernel_rfl) Try.func3 rfl rfl
      (by rw [Try.params3]; intro t ht; simp only [List.mem_cons, List.not_mem_nil, or_false] at ht; subst ht <;> exact ⟨by kernel_rfl, of_decide_eq_true (by kernel_rfl)⟩)
      (fun ds hl => by
        match ds, hl with
        | [d0], _ => rfl)
      (ChangeSpec.witness6 (enc := enc) (C := Try.checked) false ⟨#[], #[.agg #[.float .f32 0, .float .f32 0, .int .i8 0]], []⟩ 8 (by kernel_rfl) (by kernel_rfl) (by kernel_rfl) (by kernel_rfl))
      (fun W base args ds p hval hA => by
        rw [Try.params3] at hA hval
        obtain ⟨v0, vs0, d0, ds0, p0, q0, hargs, rfl, rfl, h0, r0⟩ := trodAll_cons hA
        obtain ⟨rfl, rfl, rfl⟩ := trodAll_nil r0
        obtain rfl : args = #[v0] := by cases args; simp_all
        obtain ⟨ln0, st0, sp0, cw0, rfl⟩ := open_cord (hval 0 25 v0 rfl rfl) h0
        exact lawValidCord_walk ln0 st0 sp0 cw0 W))
#print axioms FnExactValidCord_holds

end Go.Proofs.Yteagbfobnjfhcab
