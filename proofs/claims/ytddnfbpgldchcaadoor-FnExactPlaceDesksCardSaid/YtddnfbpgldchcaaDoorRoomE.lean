/-
  Rooms compared by the laws' helpers: a room and a copy of it are equal, whatever their numbers are.
-/
import Derived.Test.YtddnfbpgldchcaaDoorRoomK
import Derived.Test.YtddnfbpgldchcaaDoorRoomF
namespace Go.Proofs.YtddnfbpgldchcaaDoor
open Go.RowKit

attribute [local go_sem] run_store_f

set_option maxRecDepth 100000 in
set_option maxHeartbeats 1000000 in
theorem eqWindow_any (x : Wn) (w : World) : Calls Tryd.prog 42 #[.agg (winC x), .agg (winC x)] w fun e w' => e = .returned (.bool true) ∧ Below w.heap.size w w' := by
  have HA := Lib.hid (two_at w (.cells (winC x) 68) (.cells (winC x) 68))
  cases hf : fin32 x.2.2 with
  | true =>
    have hw0 := run_wide _ hf
    have Hv0 := Lib.hid hf
    clear hf
    go_enter Tryd.func42, Tryd.ntmps42
    go_upto_region 1 with (fail)
    refine abs_world (fun W => W.heap[w.heap.size]? = some (.cells (winC x) 68 (0, 0)) ∧ W.heap[w.heap.size + 1]? = some (.cells (winC x) 68 (0, 0)) ∧ Below w.heap.size w W) HA.out ?_
    clear HA
    rintro W ⟨h0, h1, hb⟩
    obtain ⟨k0, k1, k2⟩ := win_cells h0
    obtain ⟨p0, p1, p2⟩ := win_cells h1
    have z1 : (x.1 != x.1) = false := by simp
    have z2 : (x.2.1 != x.2.1) = false := by simp
    clear h0 h1
    go_wp2_with (go_at_call 53; refine (same_wide _ Hv0.out _).mono ?_; rintro e w1 ⟨rfl, rfl⟩)
    go_ret
    exact ⟨rfl, hb⟩
  | false =>
    have hw0 := run_wide_nan _ hf
    clear hf
    go_enter Tryd.func42, Tryd.ntmps42
    go_upto_region 1 with (fail)
    refine abs_world (fun W => W.heap[w.heap.size]? = some (.cells (winC x) 68 (0, 0)) ∧ W.heap[w.heap.size + 1]? = some (.cells (winC x) 68 (0, 0)) ∧ Below w.heap.size w W) HA.out ?_
    clear HA
    rintro W ⟨h0, h1, hb⟩
    obtain ⟨k0, k1, k2⟩ := win_cells h0
    obtain ⟨p0, p1, p2⟩ := win_cells h1
    have z1 : (x.1 != x.1) = false := by simp
    have z2 : (x.2.1 != x.2.1) = false := by simp
    clear h0 h1
    go_wp2_with (go_at_call 53; refine (same_nan _ _ (nanW_nan _ _) (nanW_nan _ _) _).mono ?_; rintro e w1 ⟨rfl, rfl⟩)
    go_ret
    exact ⟨rfl, hb.drew.drew⟩

theorem yields_cells {P : Program} {ops : Array Oper} {S : World → Prop} {o : Oper} {a : Act} (hw : Region.wanted o (yielded ops a.tmps) = true) (ty : TypeId) (x : Operand) (ho : o.op = .load ty x)
    (g off n : Nat) (hx : a.eval x = .pointer (some ⟨g, off, none⟩)) (d : TypeDesc) (hu : P.underlying ty = some d) (hd : (match d with | .struct _ | .array _ _ => true | _ => false) = true) (hi : (P.info? ty).map (·.size) = some n)
    (vs : Array Value) (hn : vs.size = n) (hc : ∀ w, S w → ∀ j v, vs[j]? = some v → w.cell? ⟨g, off + j, none⟩ = some v) : YieldsIf P ops S o (.agg vs) a :=
  .inl ⟨hw, fun w hw' => by
    unfold execOp
    simp only [ho, hx, Instr.loadAt, Instr.sureAddr, Sem.run_bind, Sem.run_pure, Result.andThen_ok, run_loadVar_cells w g off n ty d hu hd hi vs hn (hc w hw')]⟩

set_option maxRecDepth 100000 in
set_option maxHeartbeats 1000000 in
theorem eqWindowS_any (v1 v2 : Value) (ws : List Wn) (w : World) (hv1 : WinsAt w v1 ws) (hv2 : WinsAt w v2 ws) :
    Calls Tryd.prog 28 #[v1, v2] w fun e w' => e = .returned (.bool true) ∧ Below w.heap.size w w' := by
  have HW1 := Lib.hid hv1
  have HW2 := Lib.hid hv2
  obtain ⟨a1, c1, rfl, hl1, hm1, _⟩ := hv1
  obtain ⟨a2, c2, rfl, hl2, hm2, _⟩ := hv2
  unfold maxLen at hm1 hm2
  generalize hn : ws.length = n at *
  have HN := Lib.hid hn
  have zn : ((n : Int) != (n : Int)) = false := by simp
  clear hn
  go_enter Tryd.func28, Tryd.ntmps28
  go_wp2
  go_loopw [5] (fun i wr => ∃ k : Nat, k ≤ n ∧ i = .int .i64 k ∧ Below w.heap.size w wr) (fun i _ => n - (intOf i).toNat)
  case atStart => exact ⟨0, Nat.zero_le _, rfl, Below.refl _ _⟩
  case round =>
    obtain ⟨k, hk, rfl, hb⟩ := hrel
    by_cases hlt : k < n
    · have hx : ws[k]? = some (ws[k]'(by rw [HN.out]; exact hlt)) := List.getElem?_eq_getElem _
      obtain ⟨g1, o1, rfl, hc1⟩ := win_at (wins_below HW1.out hb) hx
      obtain ⟨g2, o2, rfl, hc2⟩ := win_at (wins_below HW2.out hb) hx
      have HC1 := Lib.hid hc1
      have HC2 := Lib.hid hc2
      generalize (ws[k]'(by rw [HN.out]; exact hlt)) = x at *
      have z1 : (k : Int) < (n : Int) := by omega
      have z2 : (0 : Int) ≤ (k : Int) := by omega
      have z3 : decide ((k : Int) < (n : Int)) = true := decide_eq_true z1
      clear hc1 hc2 hx
      go_wp2
      refine wp_region_held_drew (S := (fun W => (∀ j v, (winC x)[j]? = some v → W.cell? ⟨g1, o1 + k * 3 + j, none⟩ = some v) ∧ (∀ j v, (winC x)[j]? = some v → W.cell? ⟨g2, o2 + k * 3 + j, none⟩ = some v) ∧ Below w.heap.size w W)) (by kernel_rfl) ⟨HC1.out, HC2.out, hb.drew⟩ (fun hHeld => ?_)
      refine take_op (i := 0) (d := 17) (v := ?_) rfl rfl (by kernel_rfl) (by kernel_rfl) (by kernel_rfl) (fun _ _ _ h => h) (Or.inl ⟨by rfl, ?hy0u1⟩) hHeld ?rest0u1
      case hy0u1 =>
        intro w' hS'
        go_simp
        try with_reducible rfl
      simp only [List.setIfInBounds_toArray, List.set_cons_zero, List.set_cons_succ]
      refine take_op (i := 1) (d := 18) (v := ?_) rfl rfl (by kernel_rfl) (by kernel_rfl) (by kernel_rfl) (fun _ _ _ h => h) (Or.inl ⟨by rfl, ?hy1u2⟩) hHeld ?rest1u2
      case hy1u2 =>
        intro w' hS'
        go_simp
        try with_reducible rfl
      simp only [List.setIfInBounds_toArray, List.set_cons_zero, List.set_cons_succ]
      refine take_op (i := 2) (d := 19) (v := ?_) rfl rfl (by kernel_rfl) (by kernel_rfl) (by kernel_rfl) (fun _ _ _ h => h) (Or.inl ⟨by rfl, ?hy2u3⟩) hHeld ?rest2u3
      case hy2u3 =>
        intro w' hS'
        go_simp
        try with_reducible rfl
      simp only [List.setIfInBounds_toArray, List.set_cons_zero, List.set_cons_succ]
      refine take_op (i := 3) (d := 20) (v := .agg (winC x)) rfl rfl (by kernel_rfl) (by kernel_rfl) (by kernel_rfl) (fun _ _ _ h => h) (yields_cells (by rfl) 68 (.tmp 19) (by rfl) g1 (o1 + k * 3) 3 (by rfl) _ Tryd.underlying68 rfl info_win (winC x) rfl (fun W h => h.1)) hHeld ?_
      simp only [List.setIfInBounds_toArray, List.set_cons_zero, List.set_cons_succ]
      refine take_op (i := 4) (d := 21) (v := ?_) rfl rfl (by kernel_rfl) (by kernel_rfl) (by kernel_rfl) (fun _ _ _ h => h) (Or.inl ⟨by rfl, ?hy4u4⟩) hHeld ?rest4u4
      case hy4u4 =>
        intro w' hS'
        go_simp
        try with_reducible rfl
      simp only [List.setIfInBounds_toArray, List.set_cons_zero, List.set_cons_succ]
      refine take_op (i := 5) (d := 22) (v := ?_) rfl rfl (by kernel_rfl) (by kernel_rfl) (by kernel_rfl) (fun _ _ _ h => h) (Or.inl ⟨by rfl, ?hy5u5⟩) hHeld ?rest5u5
      case hy5u5 =>
        intro w' hS'
        go_simp
        try with_reducible rfl
      simp only [List.setIfInBounds_toArray, List.set_cons_zero, List.set_cons_succ]
      refine take_op (i := 6) (d := 23) (v := ?_) rfl rfl (by kernel_rfl) (by kernel_rfl) (by kernel_rfl) (fun _ _ _ h => h) (Or.inl ⟨by rfl, ?hy6u6⟩) hHeld ?rest6u6
      case hy6u6 =>
        intro w' hS'
        go_simp
        try with_reducible rfl
      simp only [List.setIfInBounds_toArray, List.set_cons_zero, List.set_cons_succ]
      refine take_op (i := 7) (d := 24) (v := .agg (winC x)) rfl rfl (by kernel_rfl) (by kernel_rfl) (by kernel_rfl) (fun _ _ _ h => h) (yields_cells (by rfl) 68 (.tmp 23) (by rfl) g2 (o2 + k * 3) 3 (by rfl) _ Tryd.underlying68 rfl info_win (winC x) rfl (fun W h => h.2.1)) hHeld ?_
      simp only [List.setIfInBounds_toArray, List.set_cons_zero, List.set_cons_succ]
      refine wpAnyH_ready (rs := [8]) (by kernel_rfl) (by simp) ?_
      refine AllReadyH.cons rfl (fun K hK => ?_) AllReadyH.nil
      go_simp
      refine (eqWindow_any x _).mono ?_
      rintro e W1 ⟨rfl, hb1⟩
      refine hK.out _ _ (⟨fun j v h => cell_below hb1 (hHeld.1 j v h), fun j v h => cell_below hb1 (hHeld.2.1 j v h), hHeld.2.2.trans (hb1.mono hHeld.2.2.size)⟩) (fun hHeld2 => ?_)
      clear hK K
      replace hHeld := hHeld2
      clear hHeld2
      refine take_op (i := 9) (d := 26) (v := ?_) rfl rfl (by kernel_rfl) (by kernel_rfl) (by kernel_rfl) (fun _ _ _ h => h) (Or.inl ⟨by rfl, ?hy9u7⟩) hHeld ?rest9u7
      case hy9u7 =>
        intro w' hS'
        go_simp
        try with_reducible rfl
      simp only [List.setIfInBounds_toArray, List.set_cons_zero, List.set_cons_succ]
      refine wpAnyH_done (by kernel_rfl) ?_ _
      have hbx := hHeld.2.2
      clear hHeld hb
      go_wp2
      go_roundw
      case rel => exact ⟨k + 1, by omega, by go_num, hbx⟩
      case measure => simp [intOf]; omega
    · obtain rfl : k = n := by omega
      go_wp2
      go_ret
      exact ⟨rfl, hb⟩

set_option maxRecDepth 100000 in
set_option maxHeartbeats 1000000 in
theorem eqRoom_any (wd hg : Int) (v1 v2 : Value) (ws : List Wn) (w : World) (hv1 : WinsAt w v1 ws) (hv2 : WinsAt w v2 ws) :
    Calls Tryd.prog 9 #[.agg (roomC wd hg v1), .agg (roomC wd hg v2)] w fun e w' => e = .returned (.bool true) ∧ Below w.heap.size w w' := by
  have HW1 := Lib.hid hv1
  have HW2 := Lib.hid hv2
  clear hv1 hv2
  have HA := Lib.hid (two_at w (.cells (roomC wd hg v1) 33) (.cells (roomC wd hg v2) 33))
  go_enter Tryd.func9, Tryd.ntmps9
  go_upto_region 1 with (fail)
  refine abs_world (fun W => W.heap[w.heap.size]? = some (.cells (roomC wd hg v1) 33 (0, 0)) ∧ W.heap[w.heap.size + 1]? = some (.cells (roomC wd hg v2) 33 (0, 0)) ∧ Below w.heap.size w W) HA.out ?_
  clear HA
  rintro W ⟨h0, h1, hb⟩
  obtain ⟨k0, k1, k2⟩ := room_cells h0
  obtain ⟨p0, p1, p2⟩ := room_cells h1
  have z1 : (wd != wd) = false := by simp
  have z2 : (hg != hg) = false := by simp
  have HV1 := Lib.hid (wins_below HW1.out hb)
  have HV2 := Lib.hid (wins_below HW2.out hb)
  clear h0 h1
  go_wp2_with (go_at_call 28; refine (eqWindowS_any _ _ ws _ HV1.out HV2.out).mono ?_; rintro e W1 ⟨rfl, hb1⟩)
  go_ret
  exact ⟨rfl, hb.trans (hb1.mono hb.size)⟩

end Go.Proofs.YtddnfbpgldchcaaDoor
