/-
  For every control: whether it is valid is what the model says. No conditions.
-/
import Derived.Test.YtelgcggcmjdhjaaCtOk
namespace Go.Proofs.Ytelgcggcmjdhjaa
open Go.ChangeShapes Go.WideShapes Go.ChangeAt Go.RowKit Go.Deep Go.Joins

set_option maxRecDepth 100000 in
set_option maxHeartbeats 1000000 in
theorem FnExactValidControl_core (lo : Nat) (hi : Nat) (wi : Nat) (st : Int) (de : Int) (ca : Int) (v0 : Bool)
    (hspec : ∀ w, Calls Try.prog 15 #[.agg (ctC lo hi wi st de ca)] w fun e w' => e = .returned (.bool v0) ∧ Below w.heap.size w w')
    (himpl : ∀ w, Calls Try.prog 17 #[.agg (ctC lo hi wi st de ca)] w fun e w' => e = .returned (.bool v0) ∧ Below w.heap.size w w') (w : World) :
    Calls Try.prog 3 #[.agg (ctC lo hi wi st de ca)] w fun e w' => e = .returned (.bool true) ∧ Below w.heap.size w w' := by
  have HS := Lib.hid hspec
  have HI := Lib.hid himpl
  clear hspec himpl
  go_enter Try.func3, Try.ntmps3
  go_upto_region 1 with (fail)
  refine abs_world (fun W => Below w.heap.size w W ∧ W.heap[w.heap.size]? = some (.cells (ctC lo hi wi st de ca) 25 (0, 0))) ⟨(Below.refl _ _).alloc (Nat.le_refl _) _, heap_alloc_new _ _⟩ ?_
  rintro W ⟨hb, h0⟩
  have H0 := Lib.hid h0
  clear h0
  go_wp2_with (first | (refine wpList_load_part rfl 25 _ rfl w.heap.size 0 6 rfl 25 (ctC lo hi wi st de ca) (0, 0) _ H0.out Try.underlying25 rfl info_ctL (ct_fits _ _ _ _ _ _) _ (ct_all _ _ _ _ _ _) ?_) | (go_at_call 16; refine (toControl_any _ _ _ _ _ _ _).mono ?_; rintro e W1 ⟨rfl, hb1⟩; replace H0 := Lib.hid (below_row hb1 H0.out); replace hb := hb.trans (hb1.mono hb.size); clear hb1) | (go_at_call 15; refine (HS.out _).mono ?_; rintro e W1 ⟨rfl, hb1⟩; replace H0 := Lib.hid (below_row hb1 H0.out); replace hb := hb.trans (hb1.mono hb.size); clear hb1) | (go_at_call 17; refine (HI.out _).mono ?_; rintro e W1 ⟨rfl, hb1⟩; replace H0 := Lib.hid (below_row hb1 H0.out); replace hb := hb.trans (hb1.mono hb.size); clear hb1))
  go_ret
  exact ⟨rfl, hb⟩

theorem lawControlValid_walk (lo : Nat) (hi : Nat) (wi : Nat) (st : Int) (de : Int) (ca : Int) (hw : CtWf lo hi wi st de ca) (w : World) :
    Calls Try.prog 3 #[.agg (ctC lo hi wi st de ca)] w fun e w' => e = .returned (.bool true) ∧ Below w.heap.size w w' :=
  FnExactValidControl_core lo hi wi st de ca _ (fun w => specValidControl_any lo hi wi st de ca hw w) (fun w => implValidControl_any lo hi wi st de ca hw w) w

set_option maxRecDepth 100000 in
theorem FnExactValidControl_holds : Rows.FnExactValidControlSaid :=
  OpenClaim.holds_of_wide 3 Try.f3 rfl rfl rfl rfl rfl rfl rfl ⟨rfl, rfl, rfl, rfl, rfl⟩ rfl rfl rfl rfl rfl (by kernel_rfl) Try.func3 (by kernel_rfl)
    (of_decide_eq_true (by kernel_rfl)) (by unfold Func.isWrapper; first | (rw [if_pos (by decide +kernel)]; kernel_rfl) | (rw [if_neg (by decide +kernel)]; exact ⟨rfl, rfl⟩))
    (fun os started H enc _ => law_lifted 3 Try.f3 Rows.fnExactValidControlSpec Rows.fnExactValidControlRow.domain os started H enc (by kernel_rfl) Try.func3 rfl rfl
      (by rw [Try.params3]; intro t ht; simp only [List.mem_cons, List.not_mem_nil, or_false] at ht; subst ht <;> exact ⟨by kernel_rfl, of_decide_eq_true (by kernel_rfl)⟩)
      (fun ds hl => by
        match ds, hl with
        | [d0], _ => rfl)
      (ChangeSpec.witness6 (enc := enc) (C := Try.checked) false ⟨#[], #[.agg #[.float .f32 0, .float .f32 0, .float .f32 0, .int .i8 0, .int .i8 0, .int .i8 0]], []⟩ 8 (by kernel_rfl) (by kernel_rfl) (by kernel_rfl) (by kernel_rfl))
      (fun W base args ds p hval hA => by
        rw [Try.params3] at hA hval
        obtain ⟨v0, vs0, d0, ds0, p0, q0, hargs, rfl, rfl, h0, r0⟩ := trodAll_cons hA
        obtain ⟨rfl, rfl, rfl⟩ := trodAll_nil r0
        obtain rfl : args = #[v0] := by cases args; simp_all
        obtain ⟨clo0, chi0, cwi0, cst0, cde0, cca0, cwf0, rfl⟩ := open_ct (hval 0 25 v0 rfl rfl) h0
        exact lawControlValid_walk clo0 chi0 cwi0 cst0 cde0 cca0 cwf0 W ))
#print axioms FnExactValidControl_holds

end Go.Proofs.Ytelgcggcmjdhjaa
