/-
  GlareAt of the program.
-/
import Derived.Test.YtnienahjfocalaaDoorGlareA
import Derived.Test.YtnienahjfocalaaDoorRoomW
import Derived.Test.YtnienahjfocalaaDoorCode
namespace Go.Proofs.YtnienahjfocalaaDoor
open Go.RowKit

attribute [local go_sem] run_store_f

set_option maxRecDepth 100000 in
set_option maxHeartbeats 1000000 in
theorem GlareAt_y (wd hg : Int) (sv : Value) (ws : List Wn) (ok : RmOk wd hg ws) (hwf : ∀ x ∈ ws, WnWf x) (a1 a2 a3 : Int) (l0 : 0 ≤ a3) (l3 : a3 ≤ 3) (v r : Bool) (e0 e1 e2 e3 : Addr) (w : World) (hws : WinsAt w sv ws) (hE : ErrsAt w e0 e1 e2 e3)
    (ha : inRoom wd hg (a1, a2)) (hv : okRm wd hg ws = v) (hr : isD wd hg a1 a2 a3 = r) (hc : refN v r true = 0) :
    Calls Tryd.prog 54 #[.agg (roomC wd hg sv), .agg (deskC a1 a2 a3)] w fun e w' => e = .returned (.tuple #[.float .f32 (litW wd hg (a1, a2) (glW wd hg a1 a2 a3) ws), .int .i64 0]) ∧ Below w.heap.size w w' := by
  have HC := Lib.hid hc
  clear hc
  have HW := Lib.hid hws
  have HX := Lib.hid hE
  clear hws hE
  have HL := Lib.hid (fun (W : World) (hW : WinsAt W sv ws) => glareAt_any wd hg sv ws ok hwf a1 a2 a3 ha l0 l3 W hW)
  clear ok hwf ha l0 l3
  go_enter Tryd.func54, Tryd.ntmps54
  go_upto_region 1 with (fail)
  refine abs_world (fun W => W.heap[w.heap.size]? = some (.cells (roomC wd hg sv) 87 (0, 0)) ∧ W.heap[w.heap.size + 1]? = some (.cells (deskC a1 a2 a3) 91 (0, 0)) ∧ Below w.heap.size w W) (two_at w (.cells (roomC wd hg sv) 87) (.cells (deskC a1 a2 a3) 91)) ?_
  rintro W ⟨h0, h1, hb⟩
  have H0 := Lib.hid h0
  have H1 := Lib.hid h1
  have HV := Lib.hid (wins_below HW.out hb)
  replace HX := Lib.hid (errs_below HX.out hb)
  clear h0 h1
  refine wp_region_held_drew (S := (fun W => W.heap[w.heap.size]? = some (.cells (roomC wd hg sv) 87 (0, 0)) ∧ W.heap[w.heap.size + 1]? = some (.cells (deskC a1 a2 a3) 91 (0, 0)) ∧ WinsAt W sv ws ∧ ErrsAt W e0 e1 e2 e3 ∧ Below w.heap.size w W)) (by kernel_rfl) ⟨H0.out, H1.out, HV.out, errs_below HX.out (Below.drew (Below.refl _ _)), hb.drew⟩ (fun hHeld => ?_)
  refine take_op (i := 0) (d := 7) (v := .agg (roomC wd hg sv)) rfl rfl (by kernel_rfl) (by kernel_rfl) (by kernel_rfl) (fun _ _ _ h => h) (yields_row (by rfl) 87 (.tmp 2) (by rfl) w.heap.size 0 3 (by rfl) 87 (roomC wd hg sv) (0, 0) _ (fun _ h => h.1) Tryd.underlying87 rfl info_room (room_fits _ _ _) (roomC wd hg sv) (room_all _ _ _)) hHeld ?_
  simp only [List.setIfInBounds_toArray, List.set_cons_zero, List.set_cons_succ]
  refine take_op (i := 2) (d := 9) (v := .agg (roomC wd hg sv)) rfl rfl (by kernel_rfl) (by kernel_rfl) (by kernel_rfl) (fun _ _ _ h => h) (yields_row (by rfl) 87 (.tmp 2) (by rfl) w.heap.size 0 3 (by rfl) 87 (roomC wd hg sv) (0, 0) _ (fun _ h => h.1) Tryd.underlying87 rfl info_room (room_fits _ _ _) (roomC wd hg sv) (room_all _ _ _)) hHeld ?_
  simp only [List.setIfInBounds_toArray, List.set_cons_zero, List.set_cons_succ]
  refine take_op (i := 3) (d := 10) (v := .agg (deskC a1 a2 a3)) rfl rfl (by kernel_rfl) (by kernel_rfl) (by kernel_rfl) (fun _ _ _ h => h) (yields_row (by rfl) 91 (.tmp 3) (by rfl) (w.heap.size + 1) 0 3 (by rfl) 91 (deskC a1 a2 a3) (0, 0) _ (fun _ h => h.2.1) Tryd.underlying91 rfl info_desk (desk_fits _ _ _) (deskC a1 a2 a3) (desk_all _ _ _)) hHeld ?_
  simp only [List.setIfInBounds_toArray, List.set_cons_zero, List.set_cons_succ]
  refine wpAnyH_ready (rs := [1]) (by kernel_rfl) (by simp) ?_
  refine AllReadyH.cons rfl (fun K hK => ?_) AllReadyH.nil
  go_simp
  refine (ValidRoom_any wd hg sv ws _ hHeld.2.2.1).mono ?_
  rintro e W1 ⟨rfl, hb1⟩
  refine hK.out _ _ (⟨below_row hb1 hHeld.1, below_row hb1 hHeld.2.1, wins_below hHeld.2.2.1 hb1, errs_below hHeld.2.2.2.1 hb1, hHeld.2.2.2.2.trans (hb1.mono hHeld.2.2.2.2.size)⟩) (fun hHeld2 => ?_)
  clear hK K
  replace hHeld := hHeld2
  clear hHeld2
  clear hb1
  rw [hv]
  refine wpAnyH_ready (rs := [4]) (by kernel_rfl) (by simp) ?_
  refine AllReadyH.cons rfl (fun K hK => ?_) AllReadyH.nil
  go_simp
  refine (isDesk_any wd hg a1 a2 a3 sv _).mono ?_
  rintro e W1 ⟨rfl, hb1⟩
  refine hK.out _ _ (⟨below_row hb1 hHeld.1, below_row hb1 hHeld.2.1, wins_below hHeld.2.2.1 hb1, errs_below hHeld.2.2.2.1 hb1, hHeld.2.2.2.2.trans (hb1.mono hHeld.2.2.2.2.size)⟩) (fun hHeld2 => ?_)
  clear hK K
  replace hHeld := hHeld2
  clear hHeld2
  clear hb1
  rw [hr]
  refine wpAnyH_ready (rs := [5]) (by kernel_rfl) (by simp) ?_
  refine AllReadyH.cons rfl (fun K hK => ?_) AllReadyH.nil
  go_simp
  refine (refusal_any hHeld.2.2.2.1 v r true).mono ?_
  rintro e W3 ⟨rfl, rfl⟩
  refine hK.out _ _ (hHeld) (fun hHeld2 => ?_)
  clear hK K
  replace hHeld := hHeld2
  clear hHeld2
  refine take_op (i := 6) (d := 6) (v := ?_) rfl rfl (by kernel_rfl) (by kernel_rfl) (by kernel_rfl) (fun _ _ _ h => h) (Or.inl ⟨by rfl, ?hy6u1⟩) hHeld ?rest6u1
  case hy6u1 =>
    intro w' hS'
    go_simp
    try with_reducible rfl
  simp only [List.setIfInBounds_toArray, List.set_cons_zero, List.set_cons_succ]
  refine wpAnyH_done (by kernel_rfl) ?_ _
  obtain ⟨g0, g1, g2, g3, hbz⟩ := hHeld
  clear H0 H1 HV HX
  have H0 := Lib.hid g0
  have H1 := Lib.hid g1
  have HV := Lib.hid g2
  have HX := Lib.hid g3
  clear g0 g1 g2 g3
  rw [HC.out]
  dsimp only [errOf, errV]
  have hn := fun w => run_neq_nil_nil (P := Tryd.prog) (w := w) 100 (by kernel_rfl)
  go_wp2_with (first | (refine wpList_load_part rfl 87 _ rfl w.heap.size 0 3 rfl 87 (roomC wd hg sv) (0, 0) _ H0.out Tryd.underlying87 rfl info_room (room_fits _ _ _) _ (room_all _ _ _) ?_) | (refine wpList_load_part rfl 91 _ rfl (w.heap.size + 1) 0 3 rfl 91 (deskC a1 a2 a3) (0, 0) _ H1.out Tryd.underlying91 rfl info_desk (desk_fits _ _ _) _ (desk_all _ _ _) ?_) | (go_at_call 107; refine (HL.out _ HV.out).mono ?_; rintro e W4 ⟨rfl, hb4⟩; replace hbz := hbz.trans (hb4.mono hbz.size); clear hb4))
  go_ret2
  exact ⟨rfl, hbz⟩

set_option maxRecDepth 100000 in
set_option maxHeartbeats 1000000 in
theorem GlareAt_n1 (wd hg : Int) (sv : Value) (ws : List Wn) (a1 a2 a3 : Int) (v r : Bool) (e0 e1 e2 e3 : Addr) (w : World) (hws : WinsAt w sv ws) (hE : ErrsAt w e0 e1 e2 e3)
    (hv : okRm wd hg ws = v) (hr : isD wd hg a1 a2 a3 = r) (hc : refN v r true = 1) :
    Calls Tryd.prog 54 #[.agg (roomC wd hg sv), .agg (deskC a1 a2 a3)] w fun e w' => e = .returned (.tuple #[.float .f32 0, .int .i64 1]) ∧ Below w.heap.size w w' := by
  have HC := Lib.hid hc
  clear hc
  have HW := Lib.hid hws
  have HX := Lib.hid hE
  clear hws hE
  go_enter Tryd.func54, Tryd.ntmps54
  go_upto_region 1 with (fail)
  refine abs_world (fun W => W.heap[w.heap.size]? = some (.cells (roomC wd hg sv) 87 (0, 0)) ∧ W.heap[w.heap.size + 1]? = some (.cells (deskC a1 a2 a3) 91 (0, 0)) ∧ Below w.heap.size w W) (two_at w (.cells (roomC wd hg sv) 87) (.cells (deskC a1 a2 a3) 91)) ?_
  rintro W ⟨h0, h1, hb⟩
  have H0 := Lib.hid h0
  have H1 := Lib.hid h1
  have HV := Lib.hid (wins_below HW.out hb)
  replace HX := Lib.hid (errs_below HX.out hb)
  clear h0 h1
  refine wp_region_held_drew (S := (fun W => W.heap[w.heap.size]? = some (.cells (roomC wd hg sv) 87 (0, 0)) ∧ W.heap[w.heap.size + 1]? = some (.cells (deskC a1 a2 a3) 91 (0, 0)) ∧ WinsAt W sv ws ∧ ErrsAt W e0 e1 e2 e3 ∧ Below w.heap.size w W)) (by kernel_rfl) ⟨H0.out, H1.out, HV.out, errs_below HX.out (Below.drew (Below.refl _ _)), hb.drew⟩ (fun hHeld => ?_)
  refine take_op (i := 0) (d := 7) (v := .agg (roomC wd hg sv)) rfl rfl (by kernel_rfl) (by kernel_rfl) (by kernel_rfl) (fun _ _ _ h => h) (yields_row (by rfl) 87 (.tmp 2) (by rfl) w.heap.size 0 3 (by rfl) 87 (roomC wd hg sv) (0, 0) _ (fun _ h => h.1) Tryd.underlying87 rfl info_room (room_fits _ _ _) (roomC wd hg sv) (room_all _ _ _)) hHeld ?_
  simp only [List.setIfInBounds_toArray, List.set_cons_zero, List.set_cons_succ]
  refine take_op (i := 2) (d := 9) (v := .agg (roomC wd hg sv)) rfl rfl (by kernel_rfl) (by kernel_rfl) (by kernel_rfl) (fun _ _ _ h => h) (yields_row (by rfl) 87 (.tmp 2) (by rfl) w.heap.size 0 3 (by rfl) 87 (roomC wd hg sv) (0, 0) _ (fun _ h => h.1) Tryd.underlying87 rfl info_room (room_fits _ _ _) (roomC wd hg sv) (room_all _ _ _)) hHeld ?_
  simp only [List.setIfInBounds_toArray, List.set_cons_zero, List.set_cons_succ]
  refine take_op (i := 3) (d := 10) (v := .agg (deskC a1 a2 a3)) rfl rfl (by kernel_rfl) (by kernel_rfl) (by kernel_rfl) (fun _ _ _ h => h) (yields_row (by rfl) 91 (.tmp 3) (by rfl) (w.heap.size + 1) 0 3 (by rfl) 91 (deskC a1 a2 a3) (0, 0) _ (fun _ h => h.2.1) Tryd.underlying91 rfl info_desk (desk_fits _ _ _) (deskC a1 a2 a3) (desk_all _ _ _)) hHeld ?_
  simp only [List.setIfInBounds_toArray, List.set_cons_zero, List.set_cons_succ]
  refine wpAnyH_ready (rs := [1]) (by kernel_rfl) (by simp) ?_
  refine AllReadyH.cons rfl (fun K hK => ?_) AllReadyH.nil
  go_simp
  refine (ValidRoom_any wd hg sv ws _ hHeld.2.2.1).mono ?_
  rintro e W1 ⟨rfl, hb1⟩
  refine hK.out _ _ (⟨below_row hb1 hHeld.1, below_row hb1 hHeld.2.1, wins_below hHeld.2.2.1 hb1, errs_below hHeld.2.2.2.1 hb1, hHeld.2.2.2.2.trans (hb1.mono hHeld.2.2.2.2.size)⟩) (fun hHeld2 => ?_)
  clear hK K
  replace hHeld := hHeld2
  clear hHeld2
  clear hb1
  rw [hv]
  refine wpAnyH_ready (rs := [4]) (by kernel_rfl) (by simp) ?_
  refine AllReadyH.cons rfl (fun K hK => ?_) AllReadyH.nil
  go_simp
  refine (isDesk_any wd hg a1 a2 a3 sv _).mono ?_
  rintro e W1 ⟨rfl, hb1⟩
  refine hK.out _ _ (⟨below_row hb1 hHeld.1, below_row hb1 hHeld.2.1, wins_below hHeld.2.2.1 hb1, errs_below hHeld.2.2.2.1 hb1, hHeld.2.2.2.2.trans (hb1.mono hHeld.2.2.2.2.size)⟩) (fun hHeld2 => ?_)
  clear hK K
  replace hHeld := hHeld2
  clear hHeld2
  clear hb1
  rw [hr]
  refine wpAnyH_ready (rs := [5]) (by kernel_rfl) (by simp) ?_
  refine AllReadyH.cons rfl (fun K hK => ?_) AllReadyH.nil
  go_simp
  refine (refusal_any hHeld.2.2.2.1 v r true).mono ?_
  rintro e W3 ⟨rfl, rfl⟩
  refine hK.out _ _ (hHeld) (fun hHeld2 => ?_)
  clear hK K
  replace hHeld := hHeld2
  clear hHeld2
  refine take_op (i := 6) (d := 6) (v := ?_) rfl rfl (by kernel_rfl) (by kernel_rfl) (by kernel_rfl) (fun _ _ _ h => h) (Or.inl ⟨by rfl, ?hy6u1⟩) hHeld ?rest6u1
  case hy6u1 =>
    intro w' hS'
    go_simp
    try with_reducible rfl
  simp only [List.setIfInBounds_toArray, List.set_cons_zero, List.set_cons_succ]
  refine wpAnyH_done (by kernel_rfl) ?_ _
  obtain ⟨g0, g1, g2, g3, hbz⟩ := hHeld
  clear H0 H1 HV HX
  have H0 := Lib.hid g0
  have H1 := Lib.hid g1
  have HV := Lib.hid g2
  have HX := Lib.hid g3
  clear g0 g1 g2 g3
  rw [HC.out]
  dsimp only [errOf, errV]
  have hn := fun w => run_neq_held_nil (P := Tryd.prog) (w := w) 100 214 (.pointer (some e0)) (by kernel_rfl)
  go_wp2_with (go_at_call 62; refine (codeOf_any HX.out 1).mono ?_; rintro e W4 ⟨rfl, rfl⟩)
  go_ret2
  exact ⟨rfl, hbz⟩

set_option maxRecDepth 100000 in
set_option maxHeartbeats 1000000 in
theorem GlareAt_n2 (wd hg : Int) (sv : Value) (ws : List Wn) (a1 a2 a3 : Int) (v r : Bool) (e0 e1 e2 e3 : Addr) (w : World) (hws : WinsAt w sv ws) (hE : ErrsAt w e0 e1 e2 e3)
    (hv : okRm wd hg ws = v) (hr : isD wd hg a1 a2 a3 = r) (hc : refN v r true = 2) :
    Calls Tryd.prog 54 #[.agg (roomC wd hg sv), .agg (deskC a1 a2 a3)] w fun e w' => e = .returned (.tuple #[.float .f32 0, .int .i64 2]) ∧ Below w.heap.size w w' := by
  have HC := Lib.hid hc
  clear hc
  have HW := Lib.hid hws
  have HX := Lib.hid hE
  clear hws hE
  go_enter Tryd.func54, Tryd.ntmps54
  go_upto_region 1 with (fail)
  refine abs_world (fun W => W.heap[w.heap.size]? = some (.cells (roomC wd hg sv) 87 (0, 0)) ∧ W.heap[w.heap.size + 1]? = some (.cells (deskC a1 a2 a3) 91 (0, 0)) ∧ Below w.heap.size w W) (two_at w (.cells (roomC wd hg sv) 87) (.cells (deskC a1 a2 a3) 91)) ?_
  rintro W ⟨h0, h1, hb⟩
  have H0 := Lib.hid h0
  have H1 := Lib.hid h1
  have HV := Lib.hid (wins_below HW.out hb)
  replace HX := Lib.hid (errs_below HX.out hb)
  clear h0 h1
  refine wp_region_held_drew (S := (fun W => W.heap[w.heap.size]? = some (.cells (roomC wd hg sv) 87 (0, 0)) ∧ W.heap[w.heap.size + 1]? = some (.cells (deskC a1 a2 a3) 91 (0, 0)) ∧ WinsAt W sv ws ∧ ErrsAt W e0 e1 e2 e3 ∧ Below w.heap.size w W)) (by kernel_rfl) ⟨H0.out, H1.out, HV.out, errs_below HX.out (Below.drew (Below.refl _ _)), hb.drew⟩ (fun hHeld => ?_)
  refine take_op (i := 0) (d := 7) (v := .agg (roomC wd hg sv)) rfl rfl (by kernel_rfl) (by kernel_rfl) (by kernel_rfl) (fun _ _ _ h => h) (yields_row (by rfl) 87 (.tmp 2) (by rfl) w.heap.size 0 3 (by rfl) 87 (roomC wd hg sv) (0, 0) _ (fun _ h => h.1) Tryd.underlying87 rfl info_room (room_fits _ _ _) (roomC wd hg sv) (room_all _ _ _)) hHeld ?_
  simp only [List.setIfInBounds_toArray, List.set_cons_zero, List.set_cons_succ]
  refine take_op (i := 2) (d := 9) (v := .agg (roomC wd hg sv)) rfl rfl (by kernel_rfl) (by kernel_rfl) (by kernel_rfl) (fun _ _ _ h => h) (yields_row (by rfl) 87 (.tmp 2) (by rfl) w.heap.size 0 3 (by rfl) 87 (roomC wd hg sv) (0, 0) _ (fun _ h => h.1) Tryd.underlying87 rfl info_room (room_fits _ _ _) (roomC wd hg sv) (room_all _ _ _)) hHeld ?_
  simp only [List.setIfInBounds_toArray, List.set_cons_zero, List.set_cons_succ]
  refine take_op (i := 3) (d := 10) (v := .agg (deskC a1 a2 a3)) rfl rfl (by kernel_rfl) (by kernel_rfl) (by kernel_rfl) (fun _ _ _ h => h) (yields_row (by rfl) 91 (.tmp 3) (by rfl) (w.heap.size + 1) 0 3 (by rfl) 91 (deskC a1 a2 a3) (0, 0) _ (fun _ h => h.2.1) Tryd.underlying91 rfl info_desk (desk_fits _ _ _) (deskC a1 a2 a3) (desk_all _ _ _)) hHeld ?_
  simp only [List.setIfInBounds_toArray, List.set_cons_zero, List.set_cons_succ]
  refine wpAnyH_ready (rs := [1]) (by kernel_rfl) (by simp) ?_
  refine AllReadyH.cons rfl (fun K hK => ?_) AllReadyH.nil
  go_simp
  refine (ValidRoom_any wd hg sv ws _ hHeld.2.2.1).mono ?_
  rintro e W1 ⟨rfl, hb1⟩
  refine hK.out _ _ (⟨below_row hb1 hHeld.1, below_row hb1 hHeld.2.1, wins_below hHeld.2.2.1 hb1, errs_below hHeld.2.2.2.1 hb1, hHeld.2.2.2.2.trans (hb1.mono hHeld.2.2.2.2.size)⟩) (fun hHeld2 => ?_)
  clear hK K
  replace hHeld := hHeld2
  clear hHeld2
  clear hb1
  rw [hv]
  refine wpAnyH_ready (rs := [4]) (by kernel_rfl) (by simp) ?_
  refine AllReadyH.cons rfl (fun K hK => ?_) AllReadyH.nil
  go_simp
  refine (isDesk_any wd hg a1 a2 a3 sv _).mono ?_
  rintro e W1 ⟨rfl, hb1⟩
  refine hK.out _ _ (⟨below_row hb1 hHeld.1, below_row hb1 hHeld.2.1, wins_below hHeld.2.2.1 hb1, errs_below hHeld.2.2.2.1 hb1, hHeld.2.2.2.2.trans (hb1.mono hHeld.2.2.2.2.size)⟩) (fun hHeld2 => ?_)
  clear hK K
  replace hHeld := hHeld2
  clear hHeld2
  clear hb1
  rw [hr]
  refine wpAnyH_ready (rs := [5]) (by kernel_rfl) (by simp) ?_
  refine AllReadyH.cons rfl (fun K hK => ?_) AllReadyH.nil
  go_simp
  refine (refusal_any hHeld.2.2.2.1 v r true).mono ?_
  rintro e W3 ⟨rfl, rfl⟩
  refine hK.out _ _ (hHeld) (fun hHeld2 => ?_)
  clear hK K
  replace hHeld := hHeld2
  clear hHeld2
  refine take_op (i := 6) (d := 6) (v := ?_) rfl rfl (by kernel_rfl) (by kernel_rfl) (by kernel_rfl) (fun _ _ _ h => h) (Or.inl ⟨by rfl, ?hy6u1⟩) hHeld ?rest6u1
  case hy6u1 =>
    intro w' hS'
    go_simp
    try with_reducible rfl
  simp only [List.setIfInBounds_toArray, List.set_cons_zero, List.set_cons_succ]
  refine wpAnyH_done (by kernel_rfl) ?_ _
  obtain ⟨g0, g1, g2, g3, hbz⟩ := hHeld
  clear H0 H1 HV HX
  have H0 := Lib.hid g0
  have H1 := Lib.hid g1
  have HV := Lib.hid g2
  have HX := Lib.hid g3
  clear g0 g1 g2 g3
  rw [HC.out]
  dsimp only [errOf, errV]
  have hn := fun w => run_neq_held_nil (P := Tryd.prog) (w := w) 100 214 (.pointer (some e1)) (by kernel_rfl)
  go_wp2_with (go_at_call 62; refine (codeOf_any HX.out 2).mono ?_; rintro e W4 ⟨rfl, rfl⟩)
  go_ret2
  exact ⟨rfl, hbz⟩

end Go.Proofs.YtnienahjfocalaaDoor
