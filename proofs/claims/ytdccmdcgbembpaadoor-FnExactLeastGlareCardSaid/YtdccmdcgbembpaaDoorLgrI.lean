/-
  LeastGlare of the program.
-/
import Derived.Great.BuildSlice
import Derived.Test.YtdccmdcgbembpaaDoorLightA
import Derived.Test.YtdccmdcgbembpaaDoorIsTile
import Derived.Test.YtdccmdcgbembpaaDoorRoomW
import Derived.Test.YtdccmdcgbembpaaDoorCode
import Derived.Test.YtdccmdcgbembpaaDoorGlareA
import Derived.Test.YtdccmdcgbembpaaDoorDeskA
import Derived.Test.YtdccmdcgbembpaaDoorNear
namespace Go.Proofs.YtdccmdcgbembpaaDoor
open Go.RowKit

attribute [local go_sem] run_store_f

/-- The glare of a desk that is faced to a wall. -/
def lgD (wd hg a1 a2 : Int) (ws : List Wn) (k : Nat) : Nat := litW wd hg (a1, a2) (glW wd hg a1 a2 (k : Int)) ws

theorem lgD_num {wd hg : Int} {ws : List Wn} (ok : RmOk wd hg ws) (hwf : ∀ x ∈ ws, WnWf x) {a1 a2 : Int} (ha : inRoom wd hg (a1, a2)) (k : Nat) : isNum (lgD wd hg a1 a2 ws k) :=
  isNum_pos (Nat.lt_of_le_of_lt (sumL_num (qsW_ok ok.w0 ok.w1 ok.h0 ok.h1 ha (fun y hy => fit_get (hwf y hy) (ok.all y hy))) (Nat.le_trans (qsW_len _ _ _ _ _) ok.len)) (by decide +kernel))

theorem desk_new (x y l : Int) : Tryd.prog.built 107 [(0, .agg (tileC x y)), (1, .int .i8 l)] = some (deskC x y l) := by kernel_rfl

theorem wpList_buildG {P : Program} {ops : Array Oper} {rest : List Oper} {o : Oper} {a : Act} {w : World} {Q : Exit → Act → World → Prop} (hg : o.guard = none) (t : TypeId) (parts : Array (Nat × Operand)) (ho : o.op = .build t parts)
    (d : Option Tmp) (hd : o.dst = d) (l : List (Nat × Value)) (hp : parts.toList.map (fun x => (x.1, a.eval x.2)) = l) (cells : Array Value) (hf : P.built t l = some cells)
    (h : wpList P ops Q rest (a.put d (.agg cells)) w) : wpList P ops Q (o :: rest) a w := by
  refine wpList_buildTo hg t parts ho d hd cells ?_ h
  rw [Array.toList_map, ← hf, ← hp]

theorem wins_setRow {w V : World} {v : Value} {ws : List Wn} {b : Nat} {cs : Array Value} (_ : WinsAt V v ws) (h : WinsAt w v ws) (hb : w.heap.size ≤ b) (hw : Below w.heap.size w V) : WinsAt (V.setRow b cs) v ws := wins_below h (below_setRow hw hb _)

theorem lgZ (V : World) (o : Obj) (cs : Array Value) : Below V.heap.size V ((V.alloc o).setRow V.heap.size cs) := below_setRow ((Below.refl _ _).alloc (Nat.le_refl _) _) (Nat.le_refl _) _

set_option maxRecDepth 100000 in
set_option maxHeartbeats 4000000 in
theorem LeastG_n1 (wd hg : Int) (sv : Value) (ws : List Wn) (a1 a2 : Int) (v r : Bool) (e0 e1 e2 e3 : Addr) (w : World) (hws : WinsAt w sv ws) (hE : ErrsAt w e0 e1 e2 e3)
    (hv : okRm wd hg ws = v) (hr : isT wd hg a1 a2 = r) (hc : refN v r true = 1) :
    Calls Tryd.prog 23 #[.agg (roomC wd hg sv), .agg (tileC a1 a2)] w fun e w' => e = .returned (.tuple #[.int .i64 0, .float .f32 0, .int .i64 1]) ∧ Below w.heap.size w w' := by
  have HC := Lib.hid hc
  clear hc
  have HW := Lib.hid hws
  have HX := Lib.hid hE
  clear hws hE
  go_enter Tryd.func23, Tryd.ntmps23
  go_upto_region 1 with (fail)
  refine abs_world (fun W => W.heap[w.heap.size]? = some (.cells (roomC wd hg sv) 34 (0, 0)) ∧ W.heap[w.heap.size + 1]? = some (.cells (tileC a1 a2) 28 (0, 0)) ∧ Below w.heap.size w W) (two_at w (.cells (roomC wd hg sv) 34) (.cells (tileC a1 a2) 28)) ?_
  rintro W ⟨h0, h1, hb⟩
  have H0 := Lib.hid h0
  have H1 := Lib.hid h1
  have HV := Lib.hid (wins_below HW.out hb)
  replace HX := Lib.hid (errs_below HX.out hb)
  clear h0 h1
  refine wp_region_held_drew (S := (fun W => W.heap[w.heap.size]? = some (.cells (roomC wd hg sv) 34 (0, 0)) ∧ W.heap[w.heap.size + 1]? = some (.cells (tileC a1 a2) 28 (0, 0)) ∧ WinsAt W sv ws ∧ ErrsAt W e0 e1 e2 e3 ∧ Below w.heap.size w W)) (by kernel_rfl) ⟨H0.out, H1.out, HV.out, errs_below HX.out (Below.drew (Below.refl _ _)), hb.drew⟩ (fun hHeld => ?_)
  refine take_op (i := 0) (d := 13) (v := .agg (roomC wd hg sv)) rfl rfl (by kernel_rfl) (by kernel_rfl) (by kernel_rfl) (fun _ _ _ h => h) (yields_row (by rfl) 34 (.tmp 2) (by rfl) w.heap.size 0 3 (by rfl) 34 (roomC wd hg sv) (0, 0) _ (fun _ h => h.1) Tryd.underlying34 rfl info_room (room_fits _ _ _) (roomC wd hg sv) (room_all _ _ _)) hHeld ?_
  simp only [List.setIfInBounds_toArray, List.set_cons_zero, List.set_cons_succ]
  refine take_op (i := 2) (d := 15) (v := .agg (roomC wd hg sv)) rfl rfl (by kernel_rfl) (by kernel_rfl) (by kernel_rfl) (fun _ _ _ h => h) (yields_row (by rfl) 34 (.tmp 2) (by rfl) w.heap.size 0 3 (by rfl) 34 (roomC wd hg sv) (0, 0) _ (fun _ h => h.1) Tryd.underlying34 rfl info_room (room_fits _ _ _) (roomC wd hg sv) (room_all _ _ _)) hHeld ?_
  simp only [List.setIfInBounds_toArray, List.set_cons_zero, List.set_cons_succ]
  refine take_op (i := 3) (d := 16) (v := .agg (tileC a1 a2)) rfl rfl (by kernel_rfl) (by kernel_rfl) (by kernel_rfl) (fun _ _ _ h => h) (yields_row (by rfl) 28 (.tmp 3) (by rfl) (w.heap.size + 1) 0 2 (by rfl) 28 (tileC a1 a2) (0, 0) _ (fun _ h => h.2.1) Tryd.underlying28 rfl info_tile (tile_fits _ _) (tileC a1 a2) (tile_all _ _)) hHeld ?_
  simp only [List.setIfInBounds_toArray, List.set_cons_zero, List.set_cons_succ]
  refine wpAnyH_ready (rs := [1]) (by kernel_rfl) (by simp) ?_
  refine AllReadyH.cons rfl (fun K hK => ?_) AllReadyH.nil
  go_simp
  refine (ValidRoom_any wd hg sv ws _ hHeld.2.2.1).mono ?_
  rintro e W1 ⟨rfl, hb1⟩
  refine hK.out _ _ (⟨below_row hb1 hHeld.1, below_row hb1 hHeld.2.1, wins_below hHeld.2.2.1 hb1, errs_below hHeld.2.2.2.1 hb1, hHeld.2.2.2.2.trans (hb1.mono hHeld.2.2.2.2.size)⟩) (fun hHeld2 => ?_)
  clear hK K
  replace hHeld := hHeld2
  clear hHeld2
  clear hb1
  rw [hv]
  refine wpAnyH_ready (rs := [4]) (by kernel_rfl) (by simp) ?_
  refine AllReadyH.cons rfl (fun K hK => ?_) AllReadyH.nil
  go_simp
  refine (isTile_any wd hg a1 a2 sv _).mono ?_
  rintro e W1 ⟨rfl, hb1⟩
  refine hK.out _ _ (⟨below_row hb1 hHeld.1, below_row hb1 hHeld.2.1, wins_below hHeld.2.2.1 hb1, errs_below hHeld.2.2.2.1 hb1, hHeld.2.2.2.2.trans (hb1.mono hHeld.2.2.2.2.size)⟩) (fun hHeld2 => ?_)
  clear hK K
  replace hHeld := hHeld2
  clear hHeld2
  clear hb1
  rw [hr]
  refine wpAnyH_ready (rs := [5]) (by kernel_rfl) (by simp) ?_
  refine AllReadyH.cons rfl (fun K hK => ?_) AllReadyH.nil
  go_simp
  refine (refusal_any hHeld.2.2.2.1 v r true).mono ?_
  rintro e W3 ⟨rfl, rfl⟩
  refine hK.out _ _ (hHeld) (fun hHeld2 => ?_)
  clear hK K
  replace hHeld := hHeld2
  clear hHeld2
  refine take_op (i := 6) (d := 7) (v := ?_) rfl rfl (by kernel_rfl) (by kernel_rfl) (by kernel_rfl) (fun _ _ _ h => h) (Or.inl ⟨by rfl, ?hy6u1⟩) hHeld ?rest6u1
  case hy6u1 =>
    intro w' hS'
    go_simp
    try with_reducible rfl
  simp only [List.setIfInBounds_toArray, List.set_cons_zero, List.set_cons_succ]
  refine wpAnyH_done (by kernel_rfl) ?_ _
  obtain ⟨g0, g1, g2, g3, hbz⟩ := hHeld
  clear H0 H1 HV HX
  have H0 := Lib.hid g0
  have H1 := Lib.hid g1
  have HV := Lib.hid g2
  have HX := Lib.hid g3
  clear g0 g1 g2 g3
  rw [HC.out]
  dsimp only [errOf, errV]
  have hn := fun w => run_neq_held_nil (P := Tryd.prog) (w := w) 88 211 (.pointer (some e0)) (by kernel_rfl)
  go_wp2_with (go_at_call 50; refine (codeOf_any HX.out 1).mono ?_; rintro e W4 ⟨rfl, rfl⟩)
  go_ret3
  exact ⟨rfl, hbz⟩

set_option maxRecDepth 100000 in
set_option maxHeartbeats 4000000 in
theorem LeastG_n2 (wd hg : Int) (sv : Value) (ws : List Wn) (a1 a2 : Int) (v r : Bool) (e0 e1 e2 e3 : Addr) (w : World) (hws : WinsAt w sv ws) (hE : ErrsAt w e0 e1 e2 e3)
    (hv : okRm wd hg ws = v) (hr : isT wd hg a1 a2 = r) (hc : refN v r true = 2) :
    Calls Tryd.prog 23 #[.agg (roomC wd hg sv), .agg (tileC a1 a2)] w fun e w' => e = .returned (.tuple #[.int .i64 0, .float .f32 0, .int .i64 2]) ∧ Below w.heap.size w w' := by
  have HC := Lib.hid hc
  clear hc
  have HW := Lib.hid hws
  have HX := Lib.hid hE
  clear hws hE
  go_enter Tryd.func23, Tryd.ntmps23
  go_upto_region 1 with (fail)
  refine abs_world (fun W => W.heap[w.heap.size]? = some (.cells (roomC wd hg sv) 34 (0, 0)) ∧ W.heap[w.heap.size + 1]? = some (.cells (tileC a1 a2) 28 (0, 0)) ∧ Below w.heap.size w W) (two_at w (.cells (roomC wd hg sv) 34) (.cells (tileC a1 a2) 28)) ?_
  rintro W ⟨h0, h1, hb⟩
  have H0 := Lib.hid h0
  have H1 := Lib.hid h1
  have HV := Lib.hid (wins_below HW.out hb)
  replace HX := Lib.hid (errs_below HX.out hb)
  clear h0 h1
  refine wp_region_held_drew (S := (fun W => W.heap[w.heap.size]? = some (.cells (roomC wd hg sv) 34 (0, 0)) ∧ W.heap[w.heap.size + 1]? = some (.cells (tileC a1 a2) 28 (0, 0)) ∧ WinsAt W sv ws ∧ ErrsAt W e0 e1 e2 e3 ∧ Below w.heap.size w W)) (by kernel_rfl) ⟨H0.out, H1.out, HV.out, errs_below HX.out (Below.drew (Below.refl _ _)), hb.drew⟩ (fun hHeld => ?_)
  refine take_op (i := 0) (d := 13) (v := .agg (roomC wd hg sv)) rfl rfl (by kernel_rfl) (by kernel_rfl) (by kernel_rfl) (fun _ _ _ h => h) (yields_row (by rfl) 34 (.tmp 2) (by rfl) w.heap.size 0 3 (by rfl) 34 (roomC wd hg sv) (0, 0) _ (fun _ h => h.1) Tryd.underlying34 rfl info_room (room_fits _ _ _) (roomC wd hg sv) (room_all _ _ _)) hHeld ?_
  simp only [List.setIfInBounds_toArray, List.set_cons_zero, List.set_cons_succ]
  refine take_op (i := 2) (d := 15) (v := .agg (roomC wd hg sv)) rfl rfl (by kernel_rfl) (by kernel_rfl) (by kernel_rfl) (fun _ _ _ h => h) (yields_row (by rfl) 34 (.tmp 2) (by rfl) w.heap.size 0 3 (by rfl) 34 (roomC wd hg sv) (0, 0) _ (fun _ h => h.1) Tryd.underlying34 rfl info_room (room_fits _ _ _) (roomC wd hg sv) (room_all _ _ _)) hHeld ?_
  simp only [List.setIfInBounds_toArray, List.set_cons_zero, List.set_cons_succ]
  refine take_op (i := 3) (d := 16) (v := .agg (tileC a1 a2)) rfl rfl (by kernel_rfl) (by kernel_rfl) (by kernel_rfl) (fun _ _ _ h => h) (yields_row (by rfl) 28 (.tmp 3) (by rfl) (w.heap.size + 1) 0 2 (by rfl) 28 (tileC a1 a2) (0, 0) _ (fun _ h => h.2.1) Tryd.underlying28 rfl info_tile (tile_fits _ _) (tileC a1 a2) (tile_all _ _)) hHeld ?_
  simp only [List.setIfInBounds_toArray, List.set_cons_zero, List.set_cons_succ]
  refine wpAnyH_ready (rs := [1]) (by kernel_rfl) (by simp) ?_
  refine AllReadyH.cons rfl (fun K hK => ?_) AllReadyH.nil
  go_simp
  refine (ValidRoom_any wd hg sv ws _ hHeld.2.2.1).mono ?_
  rintro e W1 ⟨rfl, hb1⟩
  refine hK.out _ _ (⟨below_row hb1 hHeld.1, below_row hb1 hHeld.2.1, wins_below hHeld.2.2.1 hb1, errs_below hHeld.2.2.2.1 hb1, hHeld.2.2.2.2.trans (hb1.mono hHeld.2.2.2.2.size)⟩) (fun hHeld2 => ?_)
  clear hK K
  replace hHeld := hHeld2
  clear hHeld2
  clear hb1
  rw [hv]
  refine wpAnyH_ready (rs := [4]) (by kernel_rfl) (by simp) ?_
  refine AllReadyH.cons rfl (fun K hK => ?_) AllReadyH.nil
  go_simp
  refine (isTile_any wd hg a1 a2 sv _).mono ?_
  rintro e W1 ⟨rfl, hb1⟩
  refine hK.out _ _ (⟨below_row hb1 hHeld.1, below_row hb1 hHeld.2.1, wins_below hHeld.2.2.1 hb1, errs_below hHeld.2.2.2.1 hb1, hHeld.2.2.2.2.trans (hb1.mono hHeld.2.2.2.2.size)⟩) (fun hHeld2 => ?_)
  clear hK K
  replace hHeld := hHeld2
  clear hHeld2
  clear hb1
  rw [hr]
  refine wpAnyH_ready (rs := [5]) (by kernel_rfl) (by simp) ?_
  refine AllReadyH.cons rfl (fun K hK => ?_) AllReadyH.nil
  go_simp
  refine (refusal_any hHeld.2.2.2.1 v r true).mono ?_
  rintro e W3 ⟨rfl, rfl⟩
  refine hK.out _ _ (hHeld) (fun hHeld2 => ?_)
  clear hK K
  replace hHeld := hHeld2
  clear hHeld2
  refine take_op (i := 6) (d := 7) (v := ?_) rfl rfl (by kernel_rfl) (by kernel_rfl) (by kernel_rfl) (fun _ _ _ h => h) (Or.inl ⟨by rfl, ?hy6u1⟩) hHeld ?rest6u1
  case hy6u1 =>
    intro w' hS'
    go_simp
    try with_reducible rfl
  simp only [List.setIfInBounds_toArray, List.set_cons_zero, List.set_cons_succ]
  refine wpAnyH_done (by kernel_rfl) ?_ _
  obtain ⟨g0, g1, g2, g3, hbz⟩ := hHeld
  clear H0 H1 HV HX
  have H0 := Lib.hid g0
  have H1 := Lib.hid g1
  have HV := Lib.hid g2
  have HX := Lib.hid g3
  clear g0 g1 g2 g3
  rw [HC.out]
  dsimp only [errOf, errV]
  have hn := fun w => run_neq_held_nil (P := Tryd.prog) (w := w) 88 211 (.pointer (some e1)) (by kernel_rfl)
  go_wp2_with (go_at_call 50; refine (codeOf_any HX.out 2).mono ?_; rintro e W4 ⟨rfl, rfl⟩)
  go_ret3
  exact ⟨rfl, hbz⟩

set_option maxRecDepth 100000 in
set_option maxHeartbeats 4000000 in
theorem LeastG_y (wd hg : Int) (sv : Value) (ws : List Wn) (ok : RmOk wd hg ws) (hwf : ∀ x ∈ ws, WnWf x) (a1 a2 : Int) (v r : Bool) (e0 e1 e2 e3 : Addr) (w : World) (hws : WinsAt w sv ws) (hE : ErrsAt w e0 e1 e2 e3)
    (ha : inRoom wd hg (a1, a2)) (hv : okRm wd hg ws = v) (hr : isT wd hg a1 a2 = r) (hc : refN v r true = 0) :
    Calls Tryd.prog 23 #[.agg (roomC wd hg sv), .agg (tileC a1 a2)] w fun e w' => e = .returned (.tuple #[.int .i64 (firstMin (lgD wd hg a1 a2 ws) 3 : Nat), .float .f32 (lgD wd hg a1 a2 ws (firstMin (lgD wd hg a1 a2 ws) 3)), .int .i64 0]) ∧ Below w.heap.size w w' := by
  have HC := Lib.hid hc
  clear hc
  have HW := Lib.hid hws
  have HX := Lib.hid hE
  clear hws hE
  have HLK : Hid (∀ (k : Nat) (l : Int), l = (k : Int) → k ≤ 3 → ∀ (W : World), WinsAt W sv ws → Calls Tryd.prog 62 #[.agg (roomC wd hg sv), .agg (deskC a1 a2 l)] W fun e w' => e = .returned (.float .f32 (lgD wd hg a1 a2 ws k)) ∧ Below W.heap.size W w') := Lib.hid (fun k l e hk W hW => by
    subst e
    exact glareAt_any wd hg sv ws ok hwf a1 a2 (k : Int) ha (by omega) (by omega) W hW)
  have HDN := Lib.hid (fun k => lgD_num ok hwf ha k)
  generalize lgD wd hg a1 a2 ws = d at *
  clear ok hwf ha
  go_enter Tryd.func23, Tryd.ntmps23
  go_upto_region 1 with (fail)
  refine abs_world (fun W => W.heap[w.heap.size]? = some (.cells (roomC wd hg sv) 34 (0, 0)) ∧ W.heap[w.heap.size + 1]? = some (.cells (tileC a1 a2) 28 (0, 0)) ∧ Below w.heap.size w W) (two_at w (.cells (roomC wd hg sv) 34) (.cells (tileC a1 a2) 28)) ?_
  rintro W ⟨h0, h1, hb⟩
  have H0 := Lib.hid h0
  have H1 := Lib.hid h1
  have HV := Lib.hid (wins_below HW.out hb)
  replace HX := Lib.hid (errs_below HX.out hb)
  clear h0 h1
  refine wp_region_held_drew (S := (fun W => W.heap[w.heap.size]? = some (.cells (roomC wd hg sv) 34 (0, 0)) ∧ W.heap[w.heap.size + 1]? = some (.cells (tileC a1 a2) 28 (0, 0)) ∧ WinsAt W sv ws ∧ ErrsAt W e0 e1 e2 e3 ∧ Below w.heap.size w W)) (by kernel_rfl) ⟨H0.out, H1.out, HV.out, errs_below HX.out (Below.drew (Below.refl _ _)), hb.drew⟩ (fun hHeld => ?_)
  refine take_op (i := 0) (d := 13) (v := .agg (roomC wd hg sv)) rfl rfl (by kernel_rfl) (by kernel_rfl) (by kernel_rfl) (fun _ _ _ h => h) (yields_row (by rfl) 34 (.tmp 2) (by rfl) w.heap.size 0 3 (by rfl) 34 (roomC wd hg sv) (0, 0) _ (fun _ h => h.1) Tryd.underlying34 rfl info_room (room_fits _ _ _) (roomC wd hg sv) (room_all _ _ _)) hHeld ?_
  simp only [List.setIfInBounds_toArray, List.set_cons_zero, List.set_cons_succ]
  refine take_op (i := 2) (d := 15) (v := .agg (roomC wd hg sv)) rfl rfl (by kernel_rfl) (by kernel_rfl) (by kernel_rfl) (fun _ _ _ h => h) (yields_row (by rfl) 34 (.tmp 2) (by rfl) w.heap.size 0 3 (by rfl) 34 (roomC wd hg sv) (0, 0) _ (fun _ h => h.1) Tryd.underlying34 rfl info_room (room_fits _ _ _) (roomC wd hg sv) (room_all _ _ _)) hHeld ?_
  simp only [List.setIfInBounds_toArray, List.set_cons_zero, List.set_cons_succ]
  refine take_op (i := 3) (d := 16) (v := .agg (tileC a1 a2)) rfl rfl (by kernel_rfl) (by kernel_rfl) (by kernel_rfl) (fun _ _ _ h => h) (yields_row (by rfl) 28 (.tmp 3) (by rfl) (w.heap.size + 1) 0 2 (by rfl) 28 (tileC a1 a2) (0, 0) _ (fun _ h => h.2.1) Tryd.underlying28 rfl info_tile (tile_fits _ _) (tileC a1 a2) (tile_all _ _)) hHeld ?_
  simp only [List.setIfInBounds_toArray, List.set_cons_zero, List.set_cons_succ]
  refine wpAnyH_ready (rs := [1]) (by kernel_rfl) (by simp) ?_
  refine AllReadyH.cons rfl (fun K hK => ?_) AllReadyH.nil
  go_simp
  refine (ValidRoom_any wd hg sv ws _ hHeld.2.2.1).mono ?_
  rintro e W1 ⟨rfl, hb1⟩
  refine hK.out _ _ (⟨below_row hb1 hHeld.1, below_row hb1 hHeld.2.1, wins_below hHeld.2.2.1 hb1, errs_below hHeld.2.2.2.1 hb1, hHeld.2.2.2.2.trans (hb1.mono hHeld.2.2.2.2.size)⟩) (fun hHeld2 => ?_)
  clear hK K
  replace hHeld := hHeld2
  clear hHeld2
  clear hb1
  rw [hv]
  refine wpAnyH_ready (rs := [4]) (by kernel_rfl) (by simp) ?_
  refine AllReadyH.cons rfl (fun K hK => ?_) AllReadyH.nil
  go_simp
  refine (isTile_any wd hg a1 a2 sv _).mono ?_
  rintro e W1 ⟨rfl, hb1⟩
  refine hK.out _ _ (⟨below_row hb1 hHeld.1, below_row hb1 hHeld.2.1, wins_below hHeld.2.2.1 hb1, errs_below hHeld.2.2.2.1 hb1, hHeld.2.2.2.2.trans (hb1.mono hHeld.2.2.2.2.size)⟩) (fun hHeld2 => ?_)
  clear hK K
  replace hHeld := hHeld2
  clear hHeld2
  clear hb1
  rw [hr]
  refine wpAnyH_ready (rs := [5]) (by kernel_rfl) (by simp) ?_
  refine AllReadyH.cons rfl (fun K hK => ?_) AllReadyH.nil
  go_simp
  refine (refusal_any hHeld.2.2.2.1 v r true).mono ?_
  rintro e W3 ⟨rfl, rfl⟩
  refine hK.out _ _ (hHeld) (fun hHeld2 => ?_)
  clear hK K
  replace hHeld := hHeld2
  clear hHeld2
  refine take_op (i := 6) (d := 7) (v := ?_) rfl rfl (by kernel_rfl) (by kernel_rfl) (by kernel_rfl) (fun _ _ _ h => h) (Or.inl ⟨by rfl, ?hy6u1⟩) hHeld ?rest6u1
  case hy6u1 =>
    intro w' hS'
    go_simp
    try with_reducible rfl
  simp only [List.setIfInBounds_toArray, List.set_cons_zero, List.set_cons_succ]
  refine wpAnyH_done (by kernel_rfl) ?_ _
  obtain ⟨g0, g1, g2, g3, hbz⟩ := hHeld
  clear H0 H1 HV HX
  have H0 := Lib.hid g0
  have H1 := Lib.hid g1
  have HV := Lib.hid g2
  have HX := Lib.hid g3
  clear g0 g1 g2 g3
  rw [HC.out]
  dsimp only [errOf, errV]
  have hn := fun w => run_neq_nil_nil (P := Tryd.prog) (w := w) 88 (by kernel_rfl)
  go_upto_region 4 with (fail)
  refine abs_world (fun V => V.heap[w.heap.size]? = some (.cells (roomC wd hg sv) 34 (0, 0)) ∧ V.heap[w.heap.size + 1]? = some (.cells (tileC a1 a2) 28 (0, 0)) ∧ WinsAt V sv ws ∧ Below w.heap.size w V) ⟨H0.out, H1.out, HV.out, hbz⟩ ?_
  clear H0 H1 HV HX hbz
  rintro V ⟨h0, h1, hv1, hbz⟩
  have H0 := Lib.hid h0
  have H1 := Lib.hid h1
  have HV := Lib.hid hv1
  clear h0 h1 hv1
  go_upto_region 5 with (first | (refine wpList_load_part rfl 28 _ rfl (w.heap.size + 1) 0 2 rfl 28 (tileC a1 a2) (0, 0) _ H1.out Tryd.underlying28 rfl info_tile (tile_fits _ _) _ (tile_all _ _) ?_) | (refine wpList_buildG rfl 107 _ rfl _ rfl [(0, .agg (tileC a1 a2)), (1, .int .i8 0)] rfl (deskC a1 a2 0) (desk_new a1 a2 0) ?_) | (refine wpList_store_part rfl 107 _ _ rfl _ 0 (deskC a1 a2 0) rfl rfl 107 _ (heap_alloc_new _ _) info_desk (Nat.le_refl _) (desk_one _ _ _) ?_; rw [laid_allr _ _ (by rfl)]))
  refine abs_world (fun X => X.heap[w.heap.size]? = some (.cells (roomC wd hg sv) 34 (0, 0)) ∧ X.heap[w.heap.size + 1]? = some (.cells (tileC a1 a2) 28 (0, 0)) ∧ X.heap[V.heap.size]? = some (.cells (deskC a1 a2 0) 107 (0, 0)) ∧ WinsAt X sv ws ∧ Below w.heap.size w X) ⟨below_row (lgZ _ _ _) H0.out, below_row (lgZ _ _ _) H1.out, setRow_heap _ _ _ _ _ _ (heap_alloc_new _ _), wins_below HV.out (lgZ _ _ _), hbz.trans ((lgZ _ _ _).mono hbz.size)⟩ ?_
  have hl0 := row_lt H0.out
  have hl1 := row_lt H1.out
  have hl8 := hbz.size
  clear H0 H1 HV hbz
  generalize V.heap.size = b8 at *
  rintro X ⟨h0, h1, h8, hv1, hbz⟩
  have H0 := Lib.hid h0
  have H1 := Lib.hid h1
  have HV := Lib.hid hv1
  have HB := Lib.hid h8
  clear h0 h1 hv1 h8
  have HG0 := Lib.hid (HLK.out 0 0 rfl (by decide))
  go_upto_region 7 with (first | (refine wpList_load_part rfl 34 _ rfl w.heap.size 0 3 rfl 34 (roomC wd hg sv) (0, 0) _ H0.out Tryd.underlying34 rfl info_room (room_fits _ _ _) _ (room_all _ _ _) ?_) | (refine wpList_load_part rfl 107 _ rfl b8 0 3 rfl 107 (deskC a1 a2 0) (0, 0) _ HB.out Tryd.underlying107 rfl info_desk (desk_fits _ _ _) _ (desk_all _ _ _) ?_) | (go_at_call 62; refine (HG0.out _ HV.out).mono ?_; rintro e W4 ⟨rfl, hb4⟩; replace H0 := Lib.hid (below_row hb4 H0.out); replace H1 := Lib.hid (below_row hb4 H1.out); replace HV := Lib.hid (wins_below HV.out hb4); replace HB := Lib.hid (below_row hb4 HB.out); replace hbz := hbz.trans (hb4.mono hbz.size); clear hb4))
  clear HG0
  go_loopw [9, 10] (fun g i wr => ∃ (k : Nat) (l : Int), 1 ≤ k ∧ k ≤ 4 ∧ l = (k : Int) ∧ i = .int .i8 l ∧ g = .float .f32 (d (firstMin d (k - 1))) ∧ wr.heap[w.heap.size]? = some (.cells (roomC wd hg sv) 34 (0, 0)) ∧ wr.heap[w.heap.size + 1]? = some (.cells (tileC a1 a2) 28 (0, 0)) ∧ wr.heap[b8]? = some (.cells (deskC a1 a2 ((firstMin d (k - 1) : Nat) : Int)) 107 (0, 0)) ∧ WinsAt wr sv ws ∧ Below w.heap.size w wr) (fun _ i _ => (4 - intOf i).toNat)
  case atStart => exact ⟨1, 1, by omega, by omega, rfl, rfl, rfl, H0.out, H1.out, HB.out, HV.out, hbz⟩
  case round =>
    clear H0 H1 HB HV hbz
    obtain ⟨k, l, hk1, hk2, hl, rfl, rfl, h0, h1, h8, hv1, hbz⟩ := hrel
    have H0 := Lib.hid h0
    have H1 := Lib.hid h1
    have HV := Lib.hid hv1
    have HB := Lib.hid h8
    clear h0 h1 hv1 h8
    obtain ⟨j, rfl⟩ : ∃ j, k = j + 1 := ⟨k - 1, by omega⟩
    rw [Nat.add_sub_cancel] at *
    by_cases hlt : j + 1 ≤ 3
    · have hord := order_cases (HDN.out (j + 1)) (HDN.out (firstMin d j))
      have HM : Hid (_ ∧ _) := Lib.hid (And.intro (@firstMin_hit d j) (@firstMin_miss d j))
      have HGK := Lib.hid (HLK.out (j + 1) l hl hlt)
      have hw1 : IntKind.i8.wrap (l + 1) = l + 1 := by rw [IntWalk.i8_in _ (by omega)]
      have z1 : l ≤ 3 := by omega
      have z0 : 1 ≤ l := by omega
      have HL2 : Hid (l + 1 = ((j + 1 + 1 : Nat) : Int)) := Lib.hid (by omega)
      have HLL := Lib.hid hl
      clear HLK HDN hl
      go_upto_region 10 with (first | (refine wpList_load_part rfl 28 _ rfl (w.heap.size + 1) 0 2 rfl 28 (tileC a1 a2) (0, 0) _ H1.out Tryd.underlying28 rfl info_tile (tile_fits _ _) _ (tile_all _ _) ?_) | (refine wpList_buildG rfl 107 _ rfl _ rfl [(0, .agg (tileC a1 a2)), (1, .int .i8 l)] rfl (deskC a1 a2 l) (desk_new a1 a2 l) ?_) | (refine wpList_store_part rfl 107 _ _ rfl _ 0 (deskC a1 a2 l) rfl rfl 107 _ (heap_alloc_new _ _) info_desk (Nat.le_refl _) (desk_one _ _ _) ?_; rw [laid_allr _ _ (by rfl)]))
      refine abs_world (fun X => X.heap[w.heap.size]? = some (.cells (roomC wd hg sv) 34 (0, 0)) ∧ X.heap[w.heap.size + 1]? = some (.cells (tileC a1 a2) 28 (0, 0)) ∧ X.heap[b8]? = some (.cells (deskC a1 a2 ((firstMin d j : Nat) : Int)) 107 (0, 0)) ∧ X.heap[wr.heap.size]? = some (.cells (deskC a1 a2 l) 107 (0, 0)) ∧ WinsAt X sv ws ∧ Below w.heap.size w X) ⟨below_row (lgZ _ _ _) H0.out, below_row (lgZ _ _ _) H1.out, below_row (lgZ _ _ _) HB.out, setRow_heap _ _ _ _ _ _ (heap_alloc_new _ _), wins_below HV.out (lgZ _ _ _), hbz.trans ((lgZ _ _ _).mono hbz.size)⟩ ?_
      clear H0 H1 HV HB hbz
      generalize wr.heap.size = b11 at *
      rintro X ⟨h0, h1, h8, h11, hv1, hbz⟩
      have H0 := Lib.hid h0
      have H1 := Lib.hid h1
      have HV := Lib.hid hv1
      have HB := Lib.hid h8
      have HC := Lib.hid h11
      clear h0 h1 hv1 h8 h11
      have HFL := Lib.hid (firstMin_le d j)
      rcases hord with ⟨ho, hm⟩ | ⟨ho, hm⟩ | ⟨ho, hm⟩
      · have HF := Lib.hid (HM.out.1 hm)
        clear HM hm
        generalize firstMin d j = m at *
        go_wp2_with (first | (refine wpList_load_part rfl 34 _ rfl w.heap.size 0 3 rfl 34 (roomC wd hg sv) (0, 0) _ H0.out Tryd.underlying34 rfl info_room (room_fits _ _ _) _ (room_all _ _ _) ?_) | (refine wpList_load_part rfl 107 _ rfl b11 0 3 rfl 107 (deskC a1 a2 l) (0, 0) _ HC.out Tryd.underlying107 rfl info_desk (desk_fits _ _ _) _ (desk_all _ _ _) ?_) | (go_at_call 62; refine (HGK.out _ HV.out).mono ?_; rintro e W4 ⟨rfl, hb4⟩; replace H0 := Lib.hid (below_row hb4 H0.out); replace H1 := Lib.hid (below_row hb4 H1.out); replace HV := Lib.hid (wins_below HV.out hb4); replace HB := Lib.hid (below_row hb4 HB.out); replace hbz := hbz.trans (hb4.mono hbz.size); replace HC := Lib.hid (below_row hb4 HC.out); clear hb4) | (refine wpList_store_part rfl 107 _ _ rfl b8 0 (deskC a1 a2 l) rfl rfl 107 (deskC a1 a2 (m : Int)) HB.out info_desk (Nat.le_refl _) (desk_one _ _ _) ?_; rw [laid_allr _ _ (by rfl)]))
        go_roundw
        case rel => exact ⟨j + 1 + 1, l + 1, by omega, by omega, HL2.out, by trivial, by rw [Nat.add_sub_cancel, HF.out], (setRow_other _ _ _ _ (by omega)).trans H0.out, (setRow_other _ _ _ _ (by omega)).trans H1.out, by rw [Nat.add_sub_cancel, HF.out, ← HLL.out]; exact setRow_heap _ _ _ _ _ _ HB.out, wins_setRow HV.out HW.out (by omega) hbz, below_setRow hbz (by omega) _⟩
        case measure => simp [intOf]; omega
      · have HF := Lib.hid (HM.out.2 hm)
        clear HM hm
        generalize firstMin d j = m at *
        go_wp2_with (first | (refine wpList_load_part rfl 34 _ rfl w.heap.size 0 3 rfl 34 (roomC wd hg sv) (0, 0) _ H0.out Tryd.underlying34 rfl info_room (room_fits _ _ _) _ (room_all _ _ _) ?_) | (refine wpList_load_part rfl 107 _ rfl b11 0 3 rfl 107 (deskC a1 a2 l) (0, 0) _ HC.out Tryd.underlying107 rfl info_desk (desk_fits _ _ _) _ (desk_all _ _ _) ?_) | (go_at_call 62; refine (HGK.out _ HV.out).mono ?_; rintro e W4 ⟨rfl, hb4⟩; replace H0 := Lib.hid (below_row hb4 H0.out); replace H1 := Lib.hid (below_row hb4 H1.out); replace HV := Lib.hid (wins_below HV.out hb4); replace HB := Lib.hid (below_row hb4 HB.out); replace hbz := hbz.trans (hb4.mono hbz.size); replace HC := Lib.hid (below_row hb4 HC.out); clear hb4) | (refine wpList_store_part rfl 107 _ _ rfl b8 0 (deskC a1 a2 l) rfl rfl 107 (deskC a1 a2 (m : Int)) HB.out info_desk (Nat.le_refl _) (desk_one _ _ _) ?_; rw [laid_allr _ _ (by rfl)]))
        go_roundw
        case rel => exact ⟨j + 1 + 1, l + 1, by omega, by omega, HL2.out, by trivial, by rw [Nat.add_sub_cancel, HF.out], H0.out, H1.out, by rw [Nat.add_sub_cancel, HF.out]; exact HB.out, HV.out, hbz⟩
        case measure => simp [intOf]; omega
      · have HF := Lib.hid (HM.out.2 hm)
        clear HM hm
        generalize firstMin d j = m at *
        go_wp2_with (first | (refine wpList_load_part rfl 34 _ rfl w.heap.size 0 3 rfl 34 (roomC wd hg sv) (0, 0) _ H0.out Tryd.underlying34 rfl info_room (room_fits _ _ _) _ (room_all _ _ _) ?_) | (refine wpList_load_part rfl 107 _ rfl b11 0 3 rfl 107 (deskC a1 a2 l) (0, 0) _ HC.out Tryd.underlying107 rfl info_desk (desk_fits _ _ _) _ (desk_all _ _ _) ?_) | (go_at_call 62; refine (HGK.out _ HV.out).mono ?_; rintro e W4 ⟨rfl, hb4⟩; replace H0 := Lib.hid (below_row hb4 H0.out); replace H1 := Lib.hid (below_row hb4 H1.out); replace HV := Lib.hid (wins_below HV.out hb4); replace HB := Lib.hid (below_row hb4 HB.out); replace hbz := hbz.trans (hb4.mono hbz.size); replace HC := Lib.hid (below_row hb4 HC.out); clear hb4) | (refine wpList_store_part rfl 107 _ _ rfl b8 0 (deskC a1 a2 l) rfl rfl 107 (deskC a1 a2 (m : Int)) HB.out info_desk (Nat.le_refl _) (desk_one _ _ _) ?_; rw [laid_allr _ _ (by rfl)]))
        go_roundw
        case rel => exact ⟨j + 1 + 1, l + 1, by omega, by omega, HL2.out, by trivial, by rw [Nat.add_sub_cancel, HF.out], H0.out, H1.out, by rw [Nat.add_sub_cancel, HF.out]; exact HB.out, HV.out, hbz⟩
        case measure => simp [intOf]; omega
    · obtain rfl : j = 3 := by omega
      have hfl := firstMin_le d 3
      obtain ⟨-, -, c2⟩ := desk_cells HB.out
      have hw1 : IntKind.i64.wrap ((firstMin d 3 : Nat) : Int) = ((firstMin d 3 : Nat) : Int) := by rw [IntWalk.i64_in _ (by omega)]
      go_wp2
      go_ret3
      exact ⟨rfl, hbz⟩

end Go.Proofs.YtdccmdcgbembpaaDoor
