/-
  For every keeper: whether it is valid is what the model says. No conditions.
-/
import Derived.Test.YtbmnjepaipphnabKeOk
namespace Go.Proofs.Ytbmnjepaipphnab
open Go.ChangeShapes Go.WideShapes Go.ChangeAt Go.RowKit Go.Deep Go.Joins

set_option maxRecDepth 100000 in
set_option maxHeartbeats 1000000 in
theorem FnExactValidKeeper_core (hd cm : Nat) (wt : Int) (v0 : Bool)
    (hspec : ∀ w, Calls Try.prog 23 #[.agg (keC hd cm wt)] w fun e w' => e = .returned (.bool v0) ∧ Below w.heap.size w w')
    (himpl : ∀ w, Calls Try.prog 25 #[.agg (keC hd cm wt)] w fun e w' => e = .returned (.bool v0) ∧ Below w.heap.size w w') (w : World) :
    Calls Try.prog 6 #[.agg (keC hd cm wt)] w fun e w' => e = .returned (.bool true) ∧ Below w.heap.size w w' := by
  have HS := Lib.hid hspec
  have HI := Lib.hid himpl
  clear hspec himpl
  go_enter Try.func6, Try.ntmps6
  go_upto_region 1 with (fail)
  refine abs_world (fun W => Below w.heap.size w W ∧ W.heap[w.heap.size]? = some (.cells (keC hd cm wt) 40 (0, 0))) ⟨(Below.refl _ _).alloc (Nat.le_refl _) _, heap_alloc_new _ _⟩ ?_
  rintro W ⟨hb, h0⟩
  have H0 := Lib.hid h0
  clear h0
  go_wp2_with (first | (refine wpList_load_part rfl 40 _ rfl w.heap.size 0 3 rfl 40 (keC hd cm wt) (0, 0) _ H0.out Try.underlying40 rfl info_keL (ke_fits _ _ _) _ (ke_all _ _ _) ?_) | (go_at_call 24; refine (toKeeper_any _ _ _ _).mono ?_; rintro e W1 ⟨rfl, hb1⟩; replace H0 := Lib.hid (below_row hb1 H0.out); replace hb := hb.trans (hb1.mono hb.size); clear hb1) | (go_at_call 23; refine (HS.out _).mono ?_; rintro e W1 ⟨rfl, hb1⟩; replace H0 := Lib.hid (below_row hb1 H0.out); replace hb := hb.trans (hb1.mono hb.size); clear hb1) | (go_at_call 25; refine (HI.out _).mono ?_; rintro e W1 ⟨rfl, hb1⟩; replace H0 := Lib.hid (below_row hb1 H0.out); replace hb := hb.trans (hb1.mono hb.size); clear hb1))
  go_ret
  exact ⟨rfl, hb⟩

theorem kewf_w {hd cm : Nat} {wt : Int} (h : KeWf hd cm wt) : -128 ≤ wt ∧ wt ≤ 127 := by
  have := h.2.2
  simp [Lit.wf, IntKind.min, IntKind.max, IntKind.signed, IntKind.bits] at this
  omega
theorem lawValidKeeper_walk (hd cm : Nat) (wt : Int) (kw : KeWf hd cm wt) (w : World) :
    Calls Try.prog 6 #[.agg (keC hd cm wt)] w fun e w' => e = .returned (.bool true) ∧ Below w.heap.size w w' :=
  FnExactValidKeeper_core hd cm wt _ (fun w => specValidKeeper_any hd cm wt (kewf_w kw).1 (kewf_w kw).2 w) (fun w => implValidKeeper_any hd cm wt w) w

set_option maxRecDepth 100000 in
theorem FnExactValidKeeper_holds : Rows.FnExactValidKeeperSaid :=
  OpenClaim.holds_of_wide 6 Try.f6 rfl rfl rfl rfl rfl rfl rfl ⟨rfl, rfl, rfl, rfl, rfl⟩ rfl rfl rfl rfl rfl (by kernel_rfl) Try.func6 (by kernel_rfl)
    (of_decide_eq_true (by kernel_rfl)) (by unfold Func.isWrapper; first | (rw [if_pos (by decide +kernel)]; kernel_rfl) | (rw [if_neg (by decide +kernel)]; exact ⟨rfl, rfl⟩))
    (fun os started H enc _ => law_lifted 6 Try.f6 Rows.fnExactValidKeeperSpec Rows.fnExactValidKeeperRow.domain os started H enc (by kernel_rfl) Try.func6 rfl rfl
      (by rw [Try.params6]; intro t ht; simp only [List.mem_cons, List.not_mem_nil, or_false] at ht; subst ht <;> exact ⟨by kernel_rfl, of_decide_eq_true (by kernel_rfl)⟩)
      (fun ds hl => by
        match ds, hl with
        | [d0], _ => rfl)
      (ChangeSpec.witness6 (enc := enc) (C := Try.checked) false ⟨#[], #[.agg #[.float .f32 0, .float .f32 0, .int .i8 0]], []⟩ 8 (by kernel_rfl) (by kernel_rfl) (by kernel_rfl) (by kernel_rfl))
      (fun W base args ds p hval hA => by
        rw [Try.params6] at hA hval
        obtain ⟨v0, vs0, d0, ds0, p0, q0, hargs, rfl, rfl, h0, r0⟩ := trodAll_cons hA
        obtain ⟨rfl, rfl, rfl⟩ := trodAll_nil r0
        obtain rfl : args = #[v0] := by cases args; simp_all
        obtain ⟨kh0, kc0, kw0, kf0, rfl⟩ := open_ke (hval 0 40 v0 rfl rfl) h0
        exact lawValidKeeper_walk kh0 kc0 kw0 kf0 W ))
#print axioms FnExactValidKeeper_holds

end Go.Proofs.Ytbmnjepaipphnab
