/-
  For every plan, valid or not: whether it is valid is what the model says. No conditions.
-/
import Derived.Test.YtdbleddcnknmiaaDoorPnV
import Derived.Test.YtdbleddcnknmiaaDoorHeld
import Derived.Test.YtdbleddcnknmiaaDoorValid
import Derived.Test.YtdbleddcnknmiaaDoorTake
namespace Go.Proofs.YtdbleddcnknmiaaDoor
open Go.ChangeShapes Go.WideShapes Go.ChangeAt Go.RowKit Go.Deep Go.Joins

set_option maxRecDepth 100000 in
set_option maxHeartbeats 1000000 in
theorem ValidPlan_any (ps : List Int) (hp : ps.length = 24) (w : World) :
    Calls Tryd.prog 74 #[.agg (i16s ps)] w fun e w' => e = .returned (.bool (okP ps)) ∧ Below w.heap.size w w' := by
  have hq1 := run_eql_arr (ps.map (clampI (-64) 64)) ps (by simpa using hp) hp
  rw [map_clamp _ _ (by decide)] at hq1
  have hgd1 := fun w => run_eqGuard_agg (P := Tryd.prog) w .eql 23 (.tmp 4) (.tmp 5) (i16s (ps.map (clampI (-64) 64))) (i16s ps) (by kernel_rfl)
  have Hp := Lib.hid hp
  clear hp
  have e : okP ps = ps.all (fun x => inB x (-64) 64) := rfl
  rw [e]
  clear e
  go_enter Tryd.func74, Tryd.ntmps74
  go_upto_region 1 with (fail)
  refine abs_code (fun W => W.heap[w.heap.size]? = some (.cells (i16s ps) 26 (0, 0)) ∧ Below w.heap.size w W) ⟨heap_alloc_new _ _, (Below.refl _ _).alloc (Nat.le_refl _) _⟩ ?_
  rintro W ⟨h0, hb⟩
  refine wp_region_held_drew (S := (fun W => W.heap[w.heap.size]? = some (.cells (i16s ps) 26 (0, 0)) ∧ Below w.heap.size w W)) (by kernel_rfl) ⟨h0, hb.drew⟩ (fun hHeld => ?_)
  refine take_op (i := 0) (d := 3) (v := .agg (i16s ps)) rfl rfl (by kernel_rfl) (by kernel_rfl) (by kernel_rfl) (fun _ _ _ h => h) (yields_row (by rfl) 26 (.tmp 1) (by rfl) w.heap.size 0 24 (by rfl) 26 (i16s ps) (0, 0) _ (fun _ h => h.1) Tryd.underlying26 rfl info_plan (by rw [i16s_size, Hp.out]; decide) (i16s ps) (i16s_all _ 24 Hp.out)) hHeld ?_
  simp only [List.setIfInBounds_toArray, List.set_cons_zero, List.set_cons_succ]
  refine take_op (i := 2) (d := 5) (v := .agg (i16s ps)) rfl rfl (by kernel_rfl) (by kernel_rfl) (by kernel_rfl) (fun _ _ _ h => h) (yields_row (by rfl) 26 (.tmp 1) (by rfl) w.heap.size 0 24 (by rfl) 26 (i16s ps) (0, 0) _ (fun _ h => h.1) Tryd.underlying26 rfl info_plan (by rw [i16s_size, Hp.out]; decide) (i16s ps) (i16s_all _ 24 Hp.out)) hHeld ?_
  simp only [List.setIfInBounds_toArray, List.set_cons_zero, List.set_cons_succ]
  refine wpAnyH_ready (rs := [1]) (by kernel_rfl) (by simp) ?_
  refine AllReadyH.cons rfl (fun K hK => ?_) AllReadyH.nil
  go_simp
  refine (held_any ps Hp.out (-64) 64 _).mono ?_
  rintro e W1 ⟨rfl, hb1⟩
  refine hK.out _ _ (⟨below_row hb1 hHeld.1, hHeld.2.trans (hb1.mono hHeld.2.size)⟩) (fun hHeld2 => ?_)
  clear hK K
  replace hHeld := hHeld2
  clear hHeld2
  refine take_op (i := 3) (d := 6) (v := ?_) rfl rfl (by kernel_rfl) (by kernel_rfl) (by kernel_rfl) (fun _ _ _ h => h) (Or.inl ⟨by rfl, ?hy3u1⟩) hHeld ?rest3u1
  case hy3u1 =>
    intro w' hS'
    go_simp
    try with_reducible rfl
  simp only [List.setIfInBounds_toArray, List.set_cons_zero, List.set_cons_succ]
  refine take_op (i := 4) (d := 2) (v := ?_) rfl rfl (by kernel_rfl) (by kernel_rfl) (by kernel_rfl) (fun _ _ _ h => h) (Or.inl ⟨by rfl, ?hy4u2⟩) hHeld ?rest4u2
  case hy4u2 =>
    intro w' hS'
    go_simp
    try with_reducible rfl
  simp only [List.setIfInBounds_toArray, List.set_cons_zero, List.set_cons_succ]
  refine wpAnyH_done (by kernel_rfl) ?_ _
  have hbx := hHeld.2
  clear hHeld h0 hb
  go_wp2
  go_ret
  exact ⟨rfl, hbx⟩

end Go.Proofs.YtdbleddcnknmiaaDoor
