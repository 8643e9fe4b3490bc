/-
  For every tick: whether it is valid is what the model says. No conditions.
-/
import Derived.Test.YtelgcggcmjdhjaaCtOk
namespace Go.Proofs.Ytelgcggcmjdhjaa
open Go.ChangeShapes Go.WideShapes Go.ChangeAt Go.RowKit Go.Deep Go.Joins

set_option maxRecDepth 100000 in
set_option maxHeartbeats 1000000 in
theorem FnExactValidTick_core (lg : Nat) (gu : Nat) (hg : Int) (v0 : Bool)
    (hspec : ∀ w, Calls Try.prog 21 #[.agg (tkC lg gu hg)] w fun e w' => e = .returned (.bool v0) ∧ Below w.heap.size w w')
    (himpl : ∀ w, Calls Try.prog 23 #[.agg (tkC lg gu hg)] w fun e w' => e = .returned (.bool v0) ∧ Below w.heap.size w w') (w : World) :
    Calls Try.prog 5 #[.agg (tkC lg gu hg)] w fun e w' => e = .returned (.bool true) ∧ Below w.heap.size w w' := by
  have HS := Lib.hid hspec
  have HI := Lib.hid himpl
  clear hspec himpl
  go_enter Try.func5, Try.ntmps5
  go_upto_region 1 with (fail)
  refine abs_world (fun W => Below w.heap.size w W ∧ W.heap[w.heap.size]? = some (.cells (tkC lg gu hg) 38 (0, 0))) ⟨(Below.refl _ _).alloc (Nat.le_refl _) _, heap_alloc_new _ _⟩ ?_
  rintro W ⟨hb, h0⟩
  have H0 := Lib.hid h0
  clear h0
  go_wp2_with (first | (refine wpList_load_part rfl 38 _ rfl w.heap.size 0 3 rfl 38 (tkC lg gu hg) (0, 0) _ H0.out Try.underlying38 rfl info_tkL (tk_fits _ _ _) _ (tk_all _ _ _) ?_) | (go_at_call 22; refine (toTick_any _ _ _ _).mono ?_; rintro e W1 ⟨rfl, hb1⟩; replace H0 := Lib.hid (below_row hb1 H0.out); replace hb := hb.trans (hb1.mono hb.size); clear hb1) | (go_at_call 21; refine (HS.out _).mono ?_; rintro e W1 ⟨rfl, hb1⟩; replace H0 := Lib.hid (below_row hb1 H0.out); replace hb := hb.trans (hb1.mono hb.size); clear hb1) | (go_at_call 23; refine (HI.out _).mono ?_; rintro e W1 ⟨rfl, hb1⟩; replace H0 := Lib.hid (below_row hb1 H0.out); replace hb := hb.trans (hb1.mono hb.size); clear hb1))
  go_ret
  exact ⟨rfl, hb⟩

theorem lawTickValid_walk (lg : Nat) (gu : Nat) (hg : Int) (hw : TkWf lg gu hg) (w : World) :
    Calls Try.prog 5 #[.agg (tkC lg gu hg)] w fun e w' => e = .returned (.bool true) ∧ Below w.heap.size w w' :=
  FnExactValidTick_core lg gu hg _ (fun w => specValidTick_any lg gu hg hw w) (fun w => implValidTick_any lg gu hg hw w) w

set_option maxRecDepth 100000 in
theorem FnExactValidTick_holds : Rows.FnExactValidTickSaid :=
  OpenClaim.holds_of_wide 5 Try.f5 rfl rfl rfl rfl rfl rfl rfl ⟨rfl, rfl, rfl, rfl, rfl⟩ rfl rfl rfl rfl rfl (by kernel_rfl) Try.func5 (by kernel_rfl)
    (of_decide_eq_true (by kernel_rfl)) (by unfold Func.isWrapper; first | (rw [if_pos (by decide +kernel)]; kernel_rfl) | (rw [if_neg (by decide +kernel)]; exact ⟨rfl, rfl⟩))
    (fun os started H enc _ => law_lifted 5 Try.f5 Rows.fnExactValidTickSpec Rows.fnExactValidTickRow.domain os started H enc (by kernel_rfl) Try.func5 rfl rfl
      (by rw [Try.params5]; intro t ht; simp only [List.mem_cons, List.not_mem_nil, or_false] at ht; subst ht <;> exact ⟨by kernel_rfl, of_decide_eq_true (by kernel_rfl)⟩)
      (fun ds hl => by
        match ds, hl with
        | [d0], _ => rfl)
      (ChangeSpec.witness6 (enc := enc) (C := Try.checked) false ⟨#[], #[.agg #[.float .f32 0, .float .f32 0, .int .i8 0]], []⟩ 8 (by kernel_rfl) (by kernel_rfl) (by kernel_rfl) (by kernel_rfl))
      (fun W base args ds p hval hA => by
        rw [Try.params5] at hA hval
        obtain ⟨v0, vs0, d0, ds0, p0, q0, hargs, rfl, rfl, h0, r0⟩ := trodAll_cons hA
        obtain ⟨rfl, rfl, rfl⟩ := trodAll_nil r0
        obtain rfl : args = #[v0] := by cases args; simp_all
        obtain ⟨klg0, kgu0, khg0, kwf0, rfl⟩ := open_tk (hval 0 38 v0 rfl rfl) h0
        exact lawTickValid_walk klg0 kgu0 khg0 kwf0 W ))
#print axioms FnExactValidTick_holds

end Go.Proofs.Ytelgcggcmjdhjaa
