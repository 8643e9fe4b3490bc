/-
  For every plan, valid or not: whether it is valid is what the model says. No conditions.
-/
import Derived.Test.YtdbleddcnknmiaaPnV
import Derived.Test.YtdbleddcnknmiaaHeld
import Derived.Test.YtdbleddcnknmiaaValid
import Derived.Test.YtdbleddcnknmiaaTake
namespace Go.Proofs.Ytdbleddcnknmiaa
open Go.ChangeShapes Go.WideShapes Go.ChangeAt Go.RowKit Go.Deep Go.Joins

set_option maxRecDepth 100000 in
set_option maxHeartbeats 1000000 in
theorem ValidPlan_any (ps : List Int) (hp : ps.length = 24) (w : World) :
    Calls Try.prog 9 #[.agg (i16s ps)] w fun e w' => e = .returned (.bool (okP ps)) ∧ Below w.heap.size w w' := by
  have hq1 := run_eql_arr (ps.map (clampI (-64) 64)) ps (by simpa using hp) hp
  rw [map_clamp _ _ (by decide)] at hq1
  have hgd1 := fun w => run_eqGuard_agg (P := Try.prog) w .eql 23 (.tmp 4) (.tmp 5) (i16s (ps.map (clampI (-64) 64))) (i16s ps) (by kernel_rfl)
  have Hp := Lib.hid hp
  clear hp
  have e : okP ps = ps.all (fun x => inB x (-64) 64) := rfl
  rw [e]
  clear e
  go_enter Try.func9, Try.ntmps9
  go_upto_region 1 with (fail)
  refine abs_code (fun W => W.heap[w.heap.size]? = some (.cells (i16s ps) 25 (0, 0)) ∧ Below w.heap.size w W) ⟨heap_alloc_new _ _, (Below.refl _ _).alloc (Nat.le_refl _) _⟩ ?_
  rintro W ⟨h0, hb⟩
  refine wp_region_held_drew (S := (fun W => W.heap[w.heap.size]? = some (.cells (i16s ps) 25 (0, 0)) ∧ Below w.heap.size w W)) (by kernel_rfl) ⟨h0, hb.drew⟩ (fun hHeld => ?_)
  refine take_op (i := 0) (d := 3) (v := .agg (i16s ps)) rfl rfl (by kernel_rfl) (by kernel_rfl) (by kernel_rfl) (fun _ _ _ h => h) (yields_row (by rfl) 25 (.tmp 1) (by rfl) w.heap.size 0 24 (by rfl) 25 (i16s ps) (0, 0) _ (fun _ h => h.1) Try.underlying25 rfl info_plan (by rw [i16s_size, Hp.out]; decide) (i16s ps) (i16s_all _ 24 Hp.out)) hHeld ?_
  simp only [List.setIfInBounds_toArray, List.set_cons_zero, List.set_cons_succ]
  refine take_op (i := 2) (d := 5) (v := .agg (i16s ps)) rfl rfl (by kernel_rfl) (by kernel_rfl) (by kernel_rfl) (fun _ _ _ h => h) (yields_row (by rfl) 25 (.tmp 1) (by rfl) w.heap.size 0 24 (by rfl) 25 (i16s ps) (0, 0) _ (fun _ h => h.1) Try.underlying25 rfl info_plan (by rw [i16s_size, Hp.out]; decide) (i16s ps) (i16s_all _ 24 Hp.out)) hHeld ?_
  simp only [List.setIfInBounds_toArray, List.set_cons_zero, List.set_cons_succ]
  refine wpAnyH_ready (rs := [1]) (by kernel_rfl) (by simp) ?_
  refine AllReadyH.cons rfl (fun K hK => ?_) AllReadyH.nil
  go_simp
  refine (held_any ps Hp.out (-64) 64 _).mono ?_
  rintro e W1 ⟨rfl, hb1⟩
  refine hK.out _ _ (⟨below_row hb1 hHeld.1, hHeld.2.trans (hb1.mono hHeld.2.size)⟩) (fun hHeld2 => ?_)
  clear hK K
  replace hHeld := hHeld2
  clear hHeld2
  refine take_op (i := 3) (d := 6) (v := ?_) rfl rfl (by kernel_rfl) (by kernel_rfl) (by kernel_rfl) (fun _ _ _ h => h) (Or.inl ⟨by rfl, ?hy3u1⟩) hHeld ?rest3u1
  case hy3u1 =>
    intro w' hS'
    go_simp
    try with_reducible rfl
  simp only [List.setIfInBounds_toArray, List.set_cons_zero, List.set_cons_succ]
  refine take_op (i := 4) (d := 2) (v := ?_) rfl rfl (by kernel_rfl) (by kernel_rfl) (by kernel_rfl) (fun _ _ _ h => h) (Or.inl ⟨by rfl, ?hy4u2⟩) hHeld ?rest4u2
  case hy4u2 =>
    intro w' hS'
    go_simp
    try with_reducible rfl
  simp only [List.setIfInBounds_toArray, List.set_cons_zero, List.set_cons_succ]
  refine wpAnyH_done (by kernel_rfl) ?_ _
  have hbx := hHeld.2
  clear hHeld h0 hb
  go_wp2
  go_ret
  exact ⟨rfl, hbx⟩

set_option maxRecDepth 100000 in
set_option maxHeartbeats 1000000 in
theorem specValidPlan_any (ps : List Int) (hp : ps.length = 24) (pb : ∀ x ∈ ps, -32768 ≤ x ∧ x ≤ 32767) (w : World) :
    Calls Try.prog 7 #[.agg (i16s ps)] w fun e w' => e = .returned (.bool (okP ps)) ∧ Below w.heap.size w w' := by
  have Hp := Lib.hid hp
  have Rb := Lib.hid pb
  clear hp pb
  go_enter Try.func7, Try.ntmps7
  go_wp2_with (go_at_call 19; refine (l07Plan_any _ ps Hp.out Rb.out 25 (0, 0) _ (heap_alloc_new _ _)).mono ?_; rintro e w' ⟨rfl, rfl⟩)
  go_ret
  exact ⟨rfl, (Below.refl _ _).alloc (Nat.le_refl _) _⟩

set_option maxRecDepth 100000 in
set_option maxHeartbeats 1000000 in
theorem lawValidPlan_walk (ps : List Int) (hp : ps.length = 24) (pb : ∀ x ∈ ps, -32768 ≤ x ∧ x ≤ 32767) (w : World) :
    Calls Try.prog 3 #[.agg (i16s ps)] w fun e w' => e = .returned (.bool true) ∧ Below w.heap.size w w' := by
  have Hp := Lib.hid hp
  have Rb := Lib.hid pb
  clear hp pb
  go_enter Try.func3, Try.ntmps3
  go_upto_region 1 with (fail)
  refine abs_code (fun W => Below w.heap.size w W ∧ W.heap[w.heap.size]? = some (.cells (i16s ps) 23 (0, 0))) ⟨(Below.refl _ _).alloc (Nat.le_refl _) _, heap_alloc_new _ _⟩ ?_
  rintro W ⟨hb, h0⟩
  have H0 := Lib.hid h0
  clear h0
  go_wp2_with (first | (refine wpList_load_part rfl 23 _ rfl w.heap.size 0 24 rfl 23 (i16s ps) (0, 0) _ H0.out Try.underlying23 rfl info_arr (by rw [i16s_size, Hp.out]; decide) (i16s ps) (i16s_all _ 24 Hp.out) ?_) | (go_at_call 8; refine (toPlan_any ps Hp.out _).mono ?_; rintro e W1 ⟨rfl, hb1⟩; replace H0 := Lib.hid (below_row hb1 H0.out); replace hb := hb.trans (hb1.mono hb.size); clear hb1) | (go_at_call 7; refine (specValidPlan_any ps Hp.out Rb.out _).mono ?_; rintro e W1 ⟨rfl, hb1⟩; replace H0 := Lib.hid (below_row hb1 H0.out); replace hb := hb.trans (hb1.mono hb.size); clear hb1) | (go_at_call 9; refine (ValidPlan_any ps Hp.out _).mono ?_; rintro e W1 ⟨rfl, hb1⟩; replace H0 := Lib.hid (below_row hb1 H0.out); replace hb := hb.trans (hb1.mono hb.size); clear hb1))
  go_ret
  exact ⟨rfl, hb⟩

set_option maxRecDepth 100000 in
theorem FnExactValidPlan_holds : Rows.FnExactValidPlanSaid :=
  OpenClaim.holds_of_wide 3 Try.f3 rfl rfl rfl rfl rfl rfl rfl ⟨rfl, rfl, rfl, rfl, rfl⟩ rfl rfl rfl rfl rfl (by kernel_rfl) Try.func3 (by kernel_rfl)
    (of_decide_eq_true (by kernel_rfl)) (by unfold Func.isWrapper; first | (rw [if_pos (by decide +kernel)]; kernel_rfl) | (rw [if_neg (by decide +kernel)]; exact ⟨rfl, rfl⟩))
    (fun os started H enc _ => law_lifted 3 Try.f3 Rows.fnExactValidPlanSpec Rows.fnExactValidPlanRow.domain os started H enc (by kernel_rfl) Try.func3 rfl rfl
      (by rw [Try.params3]; intro t ht; simp only [List.mem_cons, List.not_mem_nil, or_false] at ht; subst ht <;> exact ⟨by kernel_rfl, of_decide_eq_true (by kernel_rfl)⟩)
      (fun ds hl => by
        match ds, hl with
        | [d0], _ => rfl)
      (ChangeSpec.witness6 (enc := enc) (C := Try.checked) false ⟨#[], #[.agg #[.int .i16 0, .int .i16 0, .int .i16 0, .int .i16 0, .int .i16 0, .int .i16 0, .int .i16 0, .int .i16 0, .int .i16 0, .int .i16 0, .int .i16 0, .int .i16 0, .int .i16 0, .int .i16 0, .int .i16 0, .int .i16 0, .int .i16 0, .int .i16 0, .int .i16 0, .int .i16 0, .int .i16 0, .int .i16 0, .int .i16 0, .int .i16 0]], []⟩ 8 (by kernel_rfl) (by kernel_rfl) (by kernel_rfl) (by kernel_rfl))
      (fun W base args ds p hval hA => by
        rw [Try.params3] at hA hval
        obtain ⟨v0, vs0, d0, ds0, p0, q0, hargs, rfl, rfl, h0, r0⟩ := trodAll_cons hA
        obtain ⟨rfl, rfl, rfl⟩ := trodAll_nil r0
        obtain rfl : args = #[v0] := by cases args; simp_all
        obtain ⟨ps0, hp0, pb0, rfl⟩ := open_plan (hval 0 23 v0 rfl rfl) h0
        exact lawValidPlan_walk ps0 hp0 pb0 W ))
#print axioms FnExactValidPlan_holds

end Go.Proofs.Ytdbleddcnknmiaa
