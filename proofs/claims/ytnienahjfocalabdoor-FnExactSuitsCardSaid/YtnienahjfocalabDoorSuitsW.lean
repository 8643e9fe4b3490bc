/-
  Suits: the law's walk.
-/
import Derived.Test.YtnienahjfocalabDoorSuitI
import Derived.Test.YtnienahjfocalabDoorRoomE
import Derived.Test.YtnienahjfocalabDoorLawC
import Derived.Test.YtnienahjfocalabDoorDeskA
import Derived.Test.YtnienahjfocalabDoorPersonA
namespace Go.Proofs.YtnienahjfocalabDoor
open Go.ChangeShapes Go.WideShapes Go.ChangeAt Go.RowKit Go.Deep Go.Joins

attribute [local go_sem] run_store_f

set_option maxRecDepth 100000 in
set_option maxHeartbeats 1000000 in
theorem lawSuits_core (wd hg : Int) (sv : Value) (ws : List Wn) (a1 a2 a3 : Int) (l m g : Nat) (v0 : Bool) (v1 : Int) (e0 e1 e2 e3 : Addr)
    (hS : ∀ (s : Value) (W : World), WinsAt W s ws → Calls Tryd.prog 26 #[.agg (roomC wd hg s), .agg (deskC a1 a2 a3), .agg (persC l m g)] W fun e w' => e = .returned (.tuple #[.bool v0, .int .i64 v1]) ∧ Below W.heap.size W w')
    (hI : ∀ (s : Value) (W : World), WinsAt W s ws → ErrsAt W e0 e1 e2 e3 → Calls Tryd.prog 29 #[.agg (roomC wd hg s), .agg (deskC a1 a2 a3), .agg (persC l m g)] W fun e w' => e = .returned (.tuple #[.bool v0, .int .i64 v1]) ∧ Below W.heap.size W w')
    (w : World) (hws : WinsAt w sv ws) (hE : ErrsAt w e0 e1 e2 e3) :
    Calls Tryd.prog 8 #[.agg (roomC wd hg sv), .agg (deskC a1 a2 a3), .agg (persC l m g)] w fun e w' => e = .returned (.bool true) ∧ Below w.heap.size w w' := by
  have HA := Lib.hid hws
  have HS := Lib.hid hS
  have HI := Lib.hid hI
  have hsv := hws
  obtain ⟨a0, cap0, esv, hl1, hl2, _⟩ := hsv
  unfold maxLen at hl2
  have z0 : (v0 != v0) = false := by simp
  have z1 : (v1 != v1) = false := by simp
  have HZ := Lib.hid (fun w => szRoom_any wd hg a0 ws.length cap0 1048576 (by omega) (by decide) (by decide) w)
  rw [← esv] at HZ
  have hlr : leftI ws.length 1048576 < 0 ∨ (0 ≤ leftI ws.length 1048576 ∧ ws.length ≤ 1048576) := by unfold leftI; split <;> omega
  have HX := Lib.hid hE
  clear hE
  clear hws esv hl1 hl2 hS hI
  generalize leftI (ws.length : Int) 1048576 = lf at *
  go_enter Tryd.func8, Tryd.ntmps8
  go_upto_region 1 with (fail)
  refine abs_world (fun W => W.heap[w.heap.size]? = some (.cells (roomC wd hg sv) 42 (0, 0)) ∧ W.heap[w.heap.size + 1]? = some (.cells (deskC a1 a2 a3) 62 (0, 0)) ∧ W.heap[w.heap.size + 1 + 1]? = some (.cells (persC l m g) 64 (0, 0)) ∧ Below w.heap.size w W) (box3 w (.cells (roomC wd hg sv) 42) (.cells (deskC a1 a2 a3) 62) (.cells (persC l m g) 64)) ?_
  rintro W ⟨h0, h1, h2, hb⟩
  generalize w.heap.size + 1 + 1 = b2 at *
  generalize w.heap.size + 1 = b1 at *
  have H0 := Lib.hid h0
  have H1 := Lib.hid h1
  have H2 := Lib.hid h2
  replace HA := Lib.hid (wins_below HA.out hb)
  replace HX := Lib.hid (errs_below HX.out hb)
  clear h0 h1 h2
  rcases hlr with hlf | ⟨hlf, hlen⟩
  · go_wp2_with (first | (refine wpList_load_partG 42 _ rfl w.heap.size 0 3 rfl rfl 42 (roomC wd hg sv) (0, 0) _ H0.out Tryd.underlying42 rfl info_roomL (room_fits _ _ _) _ (room_all _ _ _) ?_) | (refine wpList_load_partG 62 _ rfl b1 0 3 rfl rfl 62 (deskC a1 a2 a3) (0, 0) _ H1.out Tryd.underlying62 rfl info_deskL (desk_fits _ _ _) _ (desk_all _ _ _) ?_) | (refine wpList_load_partG 60 _ rfl b1 0 2 rfl rfl 62 (deskC a1 a2 a3) (0, 0) _ H1.out Tryd.underlying60 rfl info_tileL (desk_fits2 _ _ _) _ (desk_tile _ _ _) ?_) | (refine wpList_load_partG 64 _ rfl b2 0 3 rfl rfl 64 (persC l m g) (0, 0) _ H2.out Tryd.underlying64 rfl info_persL (pers_fits _ _ _) _ (pers_all _ _ _) ?_) | (go_at_call 17; refine (HZ.out _).mono ?_; rintro e W1 ⟨rfl, hb1⟩; replace H0 := Lib.hid (below_row hb1 H0.out); replace H1 := Lib.hid (below_row hb1 H1.out); replace H2 := Lib.hid (below_row hb1 H2.out); replace HA := Lib.hid (wins_below HA.out hb1); replace HX := Lib.hid (errs_below HX.out hb1); replace hb := hb.trans (hb1.mono hb.size); clear hb1))
    go_ret
    exact ⟨rfl, hb⟩
  go_upto_region 5 with (first | (refine wpList_load_partG 42 _ rfl w.heap.size 0 3 rfl rfl 42 (roomC wd hg sv) (0, 0) _ H0.out Tryd.underlying42 rfl info_roomL (room_fits _ _ _) _ (room_all _ _ _) ?_) | (refine wpList_load_partG 62 _ rfl b1 0 3 rfl rfl 62 (deskC a1 a2 a3) (0, 0) _ H1.out Tryd.underlying62 rfl info_deskL (desk_fits _ _ _) _ (desk_all _ _ _) ?_) | (refine wpList_load_partG 60 _ rfl b1 0 2 rfl rfl 62 (deskC a1 a2 a3) (0, 0) _ H1.out Tryd.underlying60 rfl info_tileL (desk_fits2 _ _ _) _ (desk_tile _ _ _) ?_) | (refine wpList_load_partG 64 _ rfl b2 0 3 rfl rfl 64 (persC l m g) (0, 0) _ H2.out Tryd.underlying64 rfl info_persL (pers_fits _ _ _) _ (pers_all _ _ _) ?_) | (go_at_call 17; refine (HZ.out _).mono ?_; rintro e W2 ⟨rfl, hb2⟩; replace H0 := Lib.hid (below_row hb2 H0.out); replace H1 := Lib.hid (below_row hb2 H1.out); replace H2 := Lib.hid (below_row hb2 H2.out); replace HA := Lib.hid (wins_below HA.out hb2); replace HX := Lib.hid (errs_below HX.out hb2); replace hb := hb.trans (hb2.mono hb.size); clear hb2))
  clear hlf HZ
  refine wp_region_held_drew (S := (fun V => Below W2.heap.size W2 V)) (by kernel_rfl) ((Below.refl _ _).drew) (fun hHeld => ?_)
  refine take_op (i := 0) (d := 19) (v := .agg (roomC wd hg sv)) rfl rfl (by kernel_rfl) (by kernel_rfl) (by kernel_rfl) (fun _ _ _ h => h) (yields_row (by rfl) 42 (.tmp 3) (by rfl) w.heap.size 0 3 (by rfl) 42 (roomC wd hg sv) (0, 0) _ (fun _ h => below_row h H0.out) Tryd.underlying42 rfl info_roomL (room_fits _ _ _) (roomC wd hg sv) (room_all _ _ _)) hHeld ?_
  simp only [List.setIfInBounds_toArray, List.set_cons_zero, List.set_cons_succ]
  refine take_op (i := 2) (d := 21) (v := .agg (deskC a1 a2 a3)) rfl rfl (by kernel_rfl) (by kernel_rfl) (by kernel_rfl) (fun _ _ _ h => h) (yields_row (by rfl) 62 (.tmp 4) (by rfl) b1 0 3 (by rfl) 62 (deskC a1 a2 a3) (0, 0) _ (fun _ h => below_row h H1.out) Tryd.underlying62 rfl info_deskL (desk_fits _ _ _) (deskC a1 a2 a3) (desk_all _ _ _)) hHeld ?_
  simp only [List.setIfInBounds_toArray, List.set_cons_zero, List.set_cons_succ]
  refine take_op (i := 4) (d := 23) (v := .agg (persC l m g)) rfl rfl (by kernel_rfl) (by kernel_rfl) (by kernel_rfl) (fun _ _ _ h => h) (yields_row (by rfl) 64 (.tmp 5) (by rfl) b2 0 3 (by rfl) 64 (persC l m g) (0, 0) _ (fun _ h => below_row h H2.out) Tryd.underlying64 rfl info_persL (pers_fits _ _ _) (persC l m g) (pers_all _ _ _)) hHeld ?_
  simp only [List.setIfInBounds_toArray, List.set_cons_zero, List.set_cons_succ]
  refine wpAnyH_ready (rs := [1]) (by kernel_rfl) (by simp) ?_
  refine AllReadyH.cons rfl (fun K hK => ?_) AllReadyH.nil
  go_simp
  refine (toRoom_any wd hg sv ws hlen _ (wins_below HA.out hHeld)).mono ?_
  rintro e W21 ⟨⟨v3, rfl, hv3⟩, hb21⟩
  have HV3 := Lib.hid (ownW_at hv3)
  clear hv3
  refine hK.out _ _ (hHeld.trans (hb21.mono hHeld.size)) (fun hHeld2 => ?_)
  clear hK K
  replace hHeld := hHeld2
  clear hHeld2
  clear hb21
  refine wpAnyH_ready (rs := [3]) (by kernel_rfl) (by simp) ?_
  refine AllReadyH.cons rfl (fun K hK => ?_) AllReadyH.nil
  go_simp
  refine (toDesk_any a1 a2 a3 _).mono ?_
  rintro e W22 ⟨rfl, hb22⟩
  replace HV3 := Lib.hid (wins_below HV3.out hb22)
  refine hK.out _ _ (hHeld.trans (hb22.mono hHeld.size)) (fun hHeld2 => ?_)
  clear hK K
  replace hHeld := hHeld2
  clear hHeld2
  clear hb22
  refine wpAnyH_ready (rs := [5]) (by kernel_rfl) (by simp) ?_
  refine AllReadyH.cons rfl (fun K hK => ?_) AllReadyH.nil
  go_simp
  refine (toPerson_any l m g _).mono ?_
  rintro e W23 ⟨rfl, hb23⟩
  replace HV3 := Lib.hid (wins_below HV3.out hb23)
  refine hK.out _ _ (hHeld.trans (hb23.mono hHeld.size)) (fun hHeld2 => ?_)
  clear hK K
  replace hHeld := hHeld2
  clear hHeld2
  clear hb23
  refine wpAnyH_ready (rs := [6]) (by kernel_rfl) (by simp) ?_
  refine AllReadyH.cons rfl (fun K hK => ?_) AllReadyH.nil
  go_simp
  refine (HS.out v3 _ HV3.out).mono ?_
  rintro e W24 ⟨rfl, hb24⟩
  refine hK.out _ _ (hHeld.trans (hb24.mono hHeld.size)) (fun hHeld2 => ?_)
  clear hK K
  replace hHeld := hHeld2
  clear hHeld2
  clear hb24
  refine take_op (i := 7) (d := 18) (v := ?_) rfl rfl (by kernel_rfl) (by kernel_rfl) (by kernel_rfl) (fun _ _ _ h => h) (Or.inl ⟨by rfl, ?hy7u358⟩) hHeld ?rest7u358
  case hy7u358 =>
    intro w' hS'
    go_simp
    try with_reducible rfl
  simp only [List.setIfInBounds_toArray, List.set_cons_zero, List.set_cons_succ]
  refine take_op (i := 8) (d := 26) (v := ?_) rfl rfl (by kernel_rfl) (by kernel_rfl) (by kernel_rfl) (fun _ _ _ h => h) (Or.inl ⟨by rfl, ?hy8u359⟩) hHeld ?rest8u359
  case hy8u359 =>
    intro w' hS'
    go_simp
    try with_reducible rfl
  simp only [List.setIfInBounds_toArray, List.set_cons_zero, List.set_cons_succ]
  refine take_op (i := 9) (d := 27) (v := ?_) rfl rfl (by kernel_rfl) (by kernel_rfl) (by kernel_rfl) (fun _ _ _ h => h) (Or.inl ⟨by rfl, ?hy9u360⟩) hHeld ?rest9u360
  case hy9u360 =>
    intro w' hS'
    go_simp
    try with_reducible rfl
  simp only [List.setIfInBounds_toArray, List.set_cons_zero, List.set_cons_succ]
  refine take_op (i := 10) (d := 8) (v := ?_) rfl rfl (by kernel_rfl) (by kernel_rfl) (by kernel_rfl) (fun _ _ _ h => h) (Or.inl ⟨by rfl, ?hy10u361⟩) hHeld ?rest10u361
  case hy10u361 =>
    intro w' hS'
    go_simp
    try with_reducible rfl
  simp only [List.setIfInBounds_toArray, List.set_cons_zero, List.set_cons_succ]
  refine take_op (i := 11) (d := 9) (v := ?_) rfl rfl (by kernel_rfl) (by kernel_rfl) (by kernel_rfl) (fun _ _ _ h => h) (Or.inl ⟨by rfl, ?hy11u362⟩) hHeld ?rest11u362
  case hy11u362 =>
    intro w' hS'
    go_simp
    try with_reducible rfl
  simp only [List.setIfInBounds_toArray, List.set_cons_zero, List.set_cons_succ]
  refine wpAnyH_done (by kernel_rfl) ?_ _
  replace H0 := Lib.hid (below_row hHeld H0.out)
  replace H1 := Lib.hid (below_row hHeld H1.out)
  replace H2 := Lib.hid (below_row hHeld H2.out)
  replace HA := Lib.hid (wins_below HA.out hHeld)
  replace HX := Lib.hid (errs_below HX.out hHeld)
  replace hb := hb.trans (hHeld.mono hb.size)
  clear hHeld
  clear HV3 HS
  go_upto_region 7 with (first | (refine wpList_load_partG 42 _ rfl w.heap.size 0 3 rfl rfl 42 (roomC wd hg sv) (0, 0) _ H0.out Tryd.underlying42 rfl info_roomL (room_fits _ _ _) _ (room_all _ _ _) ?_) | (go_at_call 19; refine (toRoom_any wd hg sv ws hlen _ HA.out).mono ?_; rintro e W60 ⟨⟨v5, rfl, hvq⟩, hbq⟩; have HO := Lib.hid hvq; clear hvq; replace H0 := Lib.hid (below_row hbq H0.out); replace H1 := Lib.hid (below_row hbq H1.out); replace H2 := Lib.hid (below_row hbq H2.out); replace HA := Lib.hid (wins_below HA.out hbq); replace HX := Lib.hid (errs_below HX.out hbq); replace hb := hb.trans (hbq.mono hb.size); clear hbq) | (refine wpList_store_part rfl 48 _ _ rfl _ 0 (roomC wd hg v5) rfl rfl 48 _ (heap_alloc_new _ _) (by kernel_rfl) (Nat.le_refl _) (room_one wd hg HO.out) ?_; rw [laid_allr _ _ (by rfl)]))
  refine abs_world (fun V => Below W60.heap.size W60 V ∧ V.heap[W60.heap.size]? = some (.cells (roomC wd hg v5) 48 (0, 0))) ⟨below_setRow ((Below.refl _ _).alloc (Nat.le_refl _) _) (Nat.le_refl _) _, setRow_heap _ _ _ _ _ _ (heap_alloc_new _ _)⟩ ?_
  rintro V6 ⟨hbq, hrq⟩
  have R5 := Lib.hid hrq
  have HV5 := Lib.hid (wins_below (ownW_at HO.out) hbq)
  replace H0 := Lib.hid (below_row hbq H0.out); replace H1 := Lib.hid (below_row hbq H1.out); replace H2 := Lib.hid (below_row hbq H2.out); replace HA := Lib.hid (wins_below HA.out hbq); replace HX := Lib.hid (errs_below HX.out hbq); replace hb := hb.trans (hbq.mono hb.size)
  clear hbq hrq HO
  generalize W60.heap.size = rb6 at *
  dsimp only [Act.put]
  refine wp_region_held_drew (S := (fun V => Below V6.heap.size V6 V)) (by kernel_rfl) ((Below.refl _ _).drew) (fun hHeld => ?_)
  refine take_op (i := 0) (d := 31) (v := .agg (roomC wd hg v5)) rfl rfl (by kernel_rfl) (by kernel_rfl) (by kernel_rfl) (fun _ _ _ h => h) (yields_row (by rfl) 48 (.tmp 10) (by rfl) rb6 0 3 (by rfl) 48 (roomC wd hg v5) (0, 0) _ (fun _ h => below_row h R5.out) Tryd.underlying48 rfl info_room (room_fits _ _ _) (roomC wd hg v5) (room_all _ _ _)) hHeld ?_
  simp only [List.setIfInBounds_toArray, List.set_cons_zero, List.set_cons_succ]
  refine take_op (i := 1) (d := 32) (v := .agg (deskC a1 a2 a3)) rfl rfl (by kernel_rfl) (by kernel_rfl) (by kernel_rfl) (fun _ _ _ h => h) (yields_row (by rfl) 62 (.tmp 4) (by rfl) b1 0 3 (by rfl) 62 (deskC a1 a2 a3) (0, 0) _ (fun _ h => below_row h H1.out) Tryd.underlying62 rfl info_deskL (desk_fits _ _ _) (deskC a1 a2 a3) (desk_all _ _ _)) hHeld ?_
  simp only [List.setIfInBounds_toArray, List.set_cons_zero, List.set_cons_succ]
  refine take_op (i := 3) (d := 34) (v := .agg (persC l m g)) rfl rfl (by kernel_rfl) (by kernel_rfl) (by kernel_rfl) (fun _ _ _ h => h) (yields_row (by rfl) 64 (.tmp 5) (by rfl) b2 0 3 (by rfl) 64 (persC l m g) (0, 0) _ (fun _ h => below_row h H2.out) Tryd.underlying64 rfl info_persL (pers_fits _ _ _) (persC l m g) (pers_all _ _ _)) hHeld ?_
  simp only [List.setIfInBounds_toArray, List.set_cons_zero, List.set_cons_succ]
  refine wpAnyH_ready (rs := [2]) (by kernel_rfl) (by simp) ?_
  refine AllReadyH.cons rfl (fun K hK => ?_) AllReadyH.nil
  go_simp
  refine (toDesk_any a1 a2 a3 _).mono ?_
  rintro e W71 ⟨rfl, hb71⟩
  refine hK.out _ _ (hHeld.trans (hb71.mono hHeld.size)) (fun hHeld2 => ?_)
  clear hK K
  replace hHeld := hHeld2
  clear hHeld2
  clear hb71
  refine wpAnyH_ready (rs := [4]) (by kernel_rfl) (by simp) ?_
  refine AllReadyH.cons rfl (fun K hK => ?_) AllReadyH.nil
  go_simp
  refine (toPerson_any l m g _).mono ?_
  rintro e W72 ⟨rfl, hb72⟩
  refine hK.out _ _ (hHeld.trans (hb72.mono hHeld.size)) (fun hHeld2 => ?_)
  clear hK K
  replace hHeld := hHeld2
  clear hHeld2
  clear hb72
  refine wpAnyH_ready (rs := [5]) (by kernel_rfl) (by simp) ?_
  refine AllReadyH.cons rfl (fun K hK => ?_) AllReadyH.nil
  go_simp
  refine (HI.out v5 _ (wins_below HV5.out hHeld) (errs_below HX.out hHeld)).mono ?_
  rintro e W73 ⟨rfl, hb73⟩
  refine hK.out _ _ (hHeld.trans (hb73.mono hHeld.size)) (fun hHeld2 => ?_)
  clear hK K
  replace hHeld := hHeld2
  clear hHeld2
  clear hb73
  refine take_op (i := 6) (d := 30) (v := ?_) rfl rfl (by kernel_rfl) (by kernel_rfl) (by kernel_rfl) (fun _ _ _ h => h) (Or.inl ⟨by rfl, ?hy6u363⟩) hHeld ?rest6u363
  case hy6u363 =>
    intro w' hS'
    go_simp
    try with_reducible rfl
  simp only [List.setIfInBounds_toArray, List.set_cons_zero, List.set_cons_succ]
  refine take_op (i := 7) (d := 37) (v := ?_) rfl rfl (by kernel_rfl) (by kernel_rfl) (by kernel_rfl) (fun _ _ _ h => h) (Or.inl ⟨by rfl, ?hy7u364⟩) hHeld ?rest7u364
  case hy7u364 =>
    intro w' hS'
    go_simp
    try with_reducible rfl
  simp only [List.setIfInBounds_toArray, List.set_cons_zero, List.set_cons_succ]
  refine take_op (i := 8) (d := 38) (v := ?_) rfl rfl (by kernel_rfl) (by kernel_rfl) (by kernel_rfl) (fun _ _ _ h => h) (Or.inl ⟨by rfl, ?hy8u365⟩) hHeld ?rest8u365
  case hy8u365 =>
    intro w' hS'
    go_simp
    try with_reducible rfl
  simp only [List.setIfInBounds_toArray, List.set_cons_zero, List.set_cons_succ]
  refine take_op (i := 9) (d := 11) (v := ?_) rfl rfl (by kernel_rfl) (by kernel_rfl) (by kernel_rfl) (fun _ _ _ h => h) (Or.inl ⟨by rfl, ?hy9u366⟩) hHeld ?rest9u366
  case hy9u366 =>
    intro w' hS'
    go_simp
    try with_reducible rfl
  simp only [List.setIfInBounds_toArray, List.set_cons_zero, List.set_cons_succ]
  refine take_op (i := 10) (d := 12) (v := ?_) rfl rfl (by kernel_rfl) (by kernel_rfl) (by kernel_rfl) (fun _ _ _ h => h) (Or.inl ⟨by rfl, ?hy10u367⟩) hHeld ?rest10u367
  case hy10u367 =>
    intro w' hS'
    go_simp
    try with_reducible rfl
  simp only [List.setIfInBounds_toArray, List.set_cons_zero, List.set_cons_succ]
  refine wpAnyH_done (by kernel_rfl) ?_ _
  replace H0 := Lib.hid (below_row hHeld H0.out)
  replace H1 := Lib.hid (below_row hHeld H1.out)
  replace H2 := Lib.hid (below_row hHeld H2.out)
  replace HA := Lib.hid (wins_below HA.out hHeld)
  replace HX := Lib.hid (errs_below HX.out hHeld)
  replace R5 := Lib.hid (below_row hHeld R5.out)
  replace HV5 := Lib.hid (wins_below HV5.out hHeld)
  replace hb := hb.trans (hHeld.mono hb.size)
  clear hHeld
  clear HI
  go_upto_region 10 with (fail)
  refine wp_region_held_drew (S := (fun V => Below W73.heap.size W73 V)) (by kernel_rfl) ((Below.refl _ _).drew) (fun hHeld => ?_)
  refine take_op (i := 0) (d := 47) (v := .agg (roomC wd hg v5)) rfl rfl (by kernel_rfl) (by kernel_rfl) (by kernel_rfl) (fun _ _ _ h => h) (yields_row (by rfl) 48 (.tmp 10) (by rfl) rb6 0 3 (by rfl) 48 (roomC wd hg v5) (0, 0) _ (fun _ h => below_row h R5.out) Tryd.underlying48 rfl info_room (room_fits _ _ _) (roomC wd hg v5) (room_all _ _ _)) hHeld ?_
  simp only [List.setIfInBounds_toArray, List.set_cons_zero, List.set_cons_succ]
  refine take_op (i := 1) (d := 48) (v := .agg (roomC wd hg sv)) rfl rfl (by kernel_rfl) (by kernel_rfl) (by kernel_rfl) (fun _ _ _ h => h) (yields_row (by rfl) 42 (.tmp 3) (by rfl) w.heap.size 0 3 (by rfl) 42 (roomC wd hg sv) (0, 0) _ (fun _ h => below_row h H0.out) Tryd.underlying42 rfl info_roomL (room_fits _ _ _) (roomC wd hg sv) (room_all _ _ _)) hHeld ?_
  simp only [List.setIfInBounds_toArray, List.set_cons_zero, List.set_cons_succ]
  refine wpAnyH_ready (rs := [2]) (by kernel_rfl) (by simp) ?_
  refine AllReadyH.cons rfl (fun K hK => ?_) AllReadyH.nil
  go_simp
  refine (toRoom_any wd hg sv ws hlen _ (wins_below HA.out hHeld)).mono ?_
  rintro e W74 ⟨⟨v7, rfl, hv7⟩, hb74⟩
  have HV7 := Lib.hid (ownW_at hv7)
  clear hv7
  refine hK.out _ _ (hHeld.trans (hb74.mono hHeld.size)) (fun hHeld2 => ?_)
  clear hK K
  replace hHeld := hHeld2
  clear hHeld2
  clear hb74
  refine wpAnyH_ready (rs := [3]) (by kernel_rfl) (by simp) ?_
  refine AllReadyH.cons rfl (fun K hK => ?_) AllReadyH.nil
  go_simp
  refine (eqRoom_any wd hg v5 v7 ws _ (wins_below HV5.out hHeld) HV7.out).mono ?_
  rintro e W75 ⟨rfl, hb75⟩
  refine hK.out _ _ (hHeld.trans (hb75.mono hHeld.size)) (fun hHeld2 => ?_)
  clear hK K
  replace hHeld := hHeld2
  clear hHeld2
  clear hb75
  refine take_op (i := 4) (d := 51) (v := ?_) rfl rfl (by kernel_rfl) (by kernel_rfl) (by kernel_rfl) (fun _ _ _ h => h) (Or.inl ⟨by rfl, ?hy4u368⟩) hHeld ?rest4u368
  case hy4u368 =>
    intro w' hS'
    go_simp
    try with_reducible rfl
  simp only [List.setIfInBounds_toArray, List.set_cons_zero, List.set_cons_succ]
  refine wpAnyH_done (by kernel_rfl) ?_ _
  replace H0 := Lib.hid (below_row hHeld H0.out)
  replace H1 := Lib.hid (below_row hHeld H1.out)
  replace H2 := Lib.hid (below_row hHeld H2.out)
  replace HA := Lib.hid (wins_below HA.out hHeld)
  replace HX := Lib.hid (errs_below HX.out hHeld)
  replace R5 := Lib.hid (below_row hHeld R5.out)
  replace HV5 := Lib.hid (wins_below HV5.out hHeld)
  replace hb := hb.trans (hHeld.mono hb.size)
  clear hHeld
  clear H0 H1 H2 HA HX R5 HV5 HV7
  go_wp2
  go_ret
  exact ⟨rfl, hb⟩

theorem isD_getS {wd hg x y l : Int} (h : isD wd hg x y l = true) : inRoom wd hg (x, y) ∧ 0 ≤ l ∧ l ≤ 3 := by
  unfold isD at h
  rw [Bool.and_eq_true] at h
  exact ⟨isT_get h.1, (inI_get h.2).1, (inI_get h.2).2⟩

theorem lawSuits_walk (wd hg : Int) (sv : Value) (ws : List Wn) (rw0 : RmWf wd hg ws) (a1 a2 a3 : Int) (tw : I8 a1 ∧ I8 a2 ∧ I8 a3) (l m g : Nat) (_ : PeWf l m g) (w : World) (hws : WinsAt w sv ws) {e0 e1 e2 e3 : Addr} (hE : ErrsAt w e0 e1 e2 e3) :
    Calls Tryd.prog 8 #[.agg (roomC wd hg sv), .agg (deskC a1 a2 a3), .agg (persC l m g)] w fun e w' => e = .returned (.bool true) ∧ Below w.heap.size w w' := by
  obtain ⟨iw, ih, hwf⟩ := rw0
  obtain ⟨ix, iy, il⟩ := tw
  cases hv : okRm wd hg ws with
  | false => exact lawSuits_core wd hg sv ws a1 a2 a3 l m g _ _ e0 e1 e2 e3 (fun s W h => sSuits_a wd hg s ws iw ih hwf a1 a2 a3 ix iy il l m g hv W h) (fun s W h k => Suits_a wd hg s ws a1 a2 a3 l m g _ hv rfl rfl e0 e1 e2 e3 W h k) w hws hE
  | true =>
    cases hp : okPe l m g with
    | false => exact lawSuits_core wd hg sv ws a1 a2 a3 l m g _ _ e0 e1 e2 e3 (fun s W h => sSuits_b wd hg s ws iw ih hwf a1 a2 a3 ix iy il l m g hv hp W h) (fun s W h k => Suits_b wd hg s ws a1 a2 a3 l m g _ hp _ hv rfl rfl e0 e1 e2 e3 W h k) w hws hE
    | true =>
      cases hr : isD wd hg a1 a2 a3 with
      | false => exact lawSuits_core wd hg sv ws a1 a2 a3 l m g _ _ e0 e1 e2 e3 (fun s W h => sSuits_c wd hg s ws iw ih hwf a1 a2 a3 ix iy il l m g hv hp hr W h) (fun s W h k => Suits_c wd hg s ws a1 a2 a3 l m g _ hp _ hv hr rfl e0 e1 e2 e3 W h k) w hws hE
      | true =>
        have ok := okRm_get hv
        obtain ⟨ha, l0, l3⟩ := isD_getS hr
        exact lawSuits_core wd hg sv ws a1 a2 a3 l m g _ _ e0 e1 e2 e3 (fun s W h => sSuits_y wd hg s ws iw ih hwf a1 a2 a3 ix iy il l m g ok ha hv hp hr W h) (fun s W h k => Suits_y wd hg s ws a1 a2 a3 l m g ok hwf ha l0 l3 _ hp _ hv hr rfl e0 e1 e2 e3 W h k) w hws hE

end Go.Proofs.YtnienahjfocalabDoor
