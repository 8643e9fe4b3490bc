/-
  For every room and tile, valid or not: the light is what the model says, bit for bit, with the same code, and the room is as it was. No conditions.
-/
import Derived.Test.YtnienahjfocalaaDoorGlareI
import Derived.Test.YtnienahjfocalaaDoorGlareL
import Derived.Test.YtnienahjfocalaaDoorRoomE
import Derived.Test.YtnienahjfocalaaDoorSameN
import Derived.Test.YtnienahjfocalaaDoorLawC
import Derived.Test.YtnienahjfocalaaDoorCards
import Derived.Test.YtnienahjfocalaaDoorTie
import Derived.SevenTiedAt
namespace Go.Proofs.YtnienahjfocalaaDoor
open Go.ChangeShapes Go.WideShapes Go.ChangeAt Go.RowKit Go.Deep Go.Joins

attribute [local go_sem] run_store_f

set_option maxRecDepth 100000 in
set_option maxHeartbeats 1000000 in
theorem lawGlareAt_core (wd hg : Int) (sv : Value) (ws : List Wn) (a1 a2 a3 : Int) (v0 : Nat) (v1 : Int) (hf : fin32 v0 = true) (e0 e1 e2 e3 : Addr)
    (hS : ∀ (s : Value) (W : World), WinsAt W s ws → Calls Tryd.prog 51 #[.agg (roomC wd hg s), .agg (deskC a1 a2 a3)] W fun e w' => e = .returned (.tuple #[.float .f32 v0, .int .i64 v1]) ∧ Below W.heap.size W w')
    (hI : ∀ (s : Value) (W : World), WinsAt W s ws → ErrsAt W e0 e1 e2 e3 → Calls Tryd.prog 54 #[.agg (roomC wd hg s), .agg (deskC a1 a2 a3)] W fun e w' => e = .returned (.tuple #[.float .f32 v0, .int .i64 v1]) ∧ Below W.heap.size W w')
    (w : World) (hws : WinsAt w sv ws) (hE : ErrsAt w e0 e1 e2 e3) :
    Calls Tryd.prog 14 #[.agg (roomC wd hg sv), .agg (deskC a1 a2 a3)] w fun e w' => e = .returned (.bool true) ∧ Below w.heap.size w w' := by
  have HA := Lib.hid hws
  have HX := Lib.hid hE
  have HS := Lib.hid hS
  have HI := Lib.hid hI
  have hw0 := run_wide _ hf
  have Hf := Lib.hid hf
  have hsv := hws
  obtain ⟨a0, cap0, esv, hl1, hl2, _⟩ := hsv
  unfold maxLen at hl2
  have HZ := Lib.hid (fun w => szRoom_any wd hg a0 ws.length cap0 1048576 (by omega) (by decide) (by decide) w)
  rw [← esv] at HZ
  have hlr : (leftI ws.length 1048576 < 0 ∧ 1048576 < ws.length) ∨ (0 ≤ leftI ws.length 1048576 ∧ ws.length ≤ 1048576) := by unfold leftI; split <;> omega
  clear hws esv hl1 hl2 hE hS hI hf
  generalize leftI (ws.length : Int) 1048576 = lf at *
  go_enter Tryd.func14, Tryd.ntmps14
  go_upto_region 1 with (fail)
  refine abs_world (fun W => W.heap[w.heap.size]? = some (.cells (roomC wd hg sv) 78 (0, 0)) ∧ W.heap[w.heap.size + 1]? = some (.cells (deskC a1 a2 a3) 82 (0, 0)) ∧ Below w.heap.size w W) (two_at w (.cells (roomC wd hg sv) 78) (.cells (deskC a1 a2 a3) 82)) ?_
  rintro W ⟨h0, h1, hb⟩
  have H0 := Lib.hid h0
  have H1 := Lib.hid h1
  replace HA := Lib.hid (wins_below HA.out hb)
  replace HX := Lib.hid (errs_below HX.out hb)
  clear h0 h1
  rcases hlr with ⟨hlf, _⟩ | ⟨hlf, hlen⟩
  · go_wp2_with (first | (refine wpList_load_part rfl 78 _ rfl w.heap.size 0 3 rfl 78 (roomC wd hg sv) (0, 0) _ H0.out Tryd.underlying78 rfl info_roomL (room_fits _ _ _) _ (room_all _ _ _) ?_) | (go_at_call 50; refine (HZ.out _).mono ?_; rintro e W1 ⟨rfl, hb1⟩))
    go_ret
    exact ⟨rfl, hb.trans (hb1.mono hb.size)⟩
  · go_upto_region 5 with (first | (refine wpList_load_part rfl 78 _ rfl w.heap.size 0 3 rfl 78 (roomC wd hg sv) (0, 0) _ H0.out Tryd.underlying78 rfl info_roomL (room_fits _ _ _) _ (room_all _ _ _) ?_) | (go_at_call 50; refine (HZ.out _).mono ?_; rintro e W1 ⟨rfl, hb1⟩; replace H0 := Lib.hid (below_row hb1 H0.out); replace H1 := Lib.hid (below_row hb1 H1.out); replace HA := Lib.hid (wins_below HA.out hb1); replace HX := Lib.hid (errs_below HX.out hb1); replace hb := hb.trans (hb1.mono hb.size); clear hb1))
    refine wp_region_held_drew (S := (fun W => W.heap[w.heap.size]? = some (.cells (roomC wd hg sv) 78 (0, 0)) ∧ W.heap[w.heap.size + 1]? = some (.cells (deskC a1 a2 a3) 82 (0, 0)) ∧ WinsAt W sv ws ∧ ErrsAt W e0 e1 e2 e3 ∧ Below w.heap.size w W)) (by kernel_rfl) ⟨H0.out, H1.out, HA.out, errs_below HX.out (Below.drew (Below.refl _ _)), hb.drew⟩ (fun hHeld => ?_)
    refine take_op (i := 0) (d := 17) (v := .agg (roomC wd hg sv)) rfl rfl (by kernel_rfl) (by kernel_rfl) (by kernel_rfl) (fun _ _ _ h => h) (yields_row (by rfl) 78 (.tmp 2) (by rfl) w.heap.size 0 3 (by rfl) 78 (roomC wd hg sv) (0, 0) _ (fun _ h => h.1) Tryd.underlying78 rfl info_roomL (room_fits _ _ _) (roomC wd hg sv) (room_all _ _ _)) hHeld ?_
    simp only [List.setIfInBounds_toArray, List.set_cons_zero, List.set_cons_succ]
    refine take_op (i := 2) (d := 19) (v := .agg (deskC a1 a2 a3)) rfl rfl (by kernel_rfl) (by kernel_rfl) (by kernel_rfl) (fun _ _ _ h => h) (yields_row (by rfl) 82 (.tmp 3) (by rfl) (w.heap.size + 1) 0 3 (by rfl) 82 (deskC a1 a2 a3) (0, 0) _ (fun _ h => h.2.1) Tryd.underlying82 rfl info_deskL (desk_fits _ _ _) (deskC a1 a2 a3) (desk_all _ _ _)) hHeld ?_
    simp only [List.setIfInBounds_toArray, List.set_cons_zero, List.set_cons_succ]
    refine wpAnyH_ready (rs := [1]) (by kernel_rfl) (by simp) ?_
    refine AllReadyH.cons rfl (fun K hK => ?_) AllReadyH.nil
    go_simp
    refine (toRoom_any wd hg sv ws hlen _ hHeld.2.2.1).mono ?_
    rintro e W2 ⟨⟨v3, rfl, hv3⟩, hb1⟩
    have HV3 := Lib.hid (ownW_at hv3)
    clear hv3
    refine hK.out _ _ (⟨below_row hb1 hHeld.1, below_row hb1 hHeld.2.1, wins_below hHeld.2.2.1 hb1, errs_below hHeld.2.2.2.1 hb1, hHeld.2.2.2.2.trans (hb1.mono hHeld.2.2.2.2.size)⟩) (fun hHeld2 => ?_)
    clear hK K
    replace hHeld := hHeld2
    clear hHeld2
    clear hb1
    refine wpAnyH_ready (rs := [3]) (by kernel_rfl) (by simp) ?_
    refine AllReadyH.cons rfl (fun K hK => ?_) AllReadyH.nil
    go_simp
    refine (toDesk_any a1 a2 a3 _).mono ?_
    rintro e W3 ⟨rfl, hb1⟩
    replace HV3 := Lib.hid (wins_below HV3.out hb1)
    refine hK.out _ _ (⟨below_row hb1 hHeld.1, below_row hb1 hHeld.2.1, wins_below hHeld.2.2.1 hb1, errs_below hHeld.2.2.2.1 hb1, hHeld.2.2.2.2.trans (hb1.mono hHeld.2.2.2.2.size)⟩) (fun hHeld2 => ?_)
    clear hK K
    replace hHeld := hHeld2
    clear hHeld2
    clear hb1
    refine wpAnyH_ready (rs := [4]) (by kernel_rfl) (by simp) ?_
    refine AllReadyH.cons rfl (fun K hK => ?_) AllReadyH.nil
    go_simp
    refine (HS.out v3 _ HV3.out).mono ?_
    rintro e W4 ⟨rfl, hb1⟩
    refine hK.out _ _ (⟨below_row hb1 hHeld.1, below_row hb1 hHeld.2.1, wins_below hHeld.2.2.1 hb1, errs_below hHeld.2.2.2.1 hb1, hHeld.2.2.2.2.trans (hb1.mono hHeld.2.2.2.2.size)⟩) (fun hHeld2 => ?_)
    clear hK K
    replace hHeld := hHeld2
    clear hHeld2
    clear hb1 HV3
    refine take_op (i := 5) (d := 16) (v := ?_) rfl rfl (by kernel_rfl) (by kernel_rfl) (by kernel_rfl) (fun _ _ _ h => h) (Or.inl ⟨by rfl, ?hy5u2⟩) hHeld ?rest5u2
    case hy5u2 =>
      intro w' hS'
      go_simp
      try with_reducible rfl
    simp only [List.setIfInBounds_toArray, List.set_cons_zero, List.set_cons_succ]
    refine take_op (i := 6) (d := 22) (v := ?_) rfl rfl (by kernel_rfl) (by kernel_rfl) (by kernel_rfl) (fun _ _ _ h => h) (Or.inl ⟨by rfl, ?hy6u3⟩) hHeld ?rest6u3
    case hy6u3 =>
      intro w' hS'
      go_simp
      try with_reducible rfl
    simp only [List.setIfInBounds_toArray, List.set_cons_zero, List.set_cons_succ]
    refine take_op (i := 7) (d := 23) (v := ?_) rfl rfl (by kernel_rfl) (by kernel_rfl) (by kernel_rfl) (fun _ _ _ h => h) (Or.inl ⟨by rfl, ?hy7u4⟩) hHeld ?rest7u4
    case hy7u4 =>
      intro w' hS'
      go_simp
      try with_reducible rfl
    simp only [List.setIfInBounds_toArray, List.set_cons_zero, List.set_cons_succ]
    refine take_op (i := 8) (d := 6) (v := ?_) rfl rfl (by kernel_rfl) (by kernel_rfl) (by kernel_rfl) (fun _ _ _ h => h) (Or.inl ⟨by rfl, ?hy8u5⟩) hHeld ?rest8u5
    case hy8u5 =>
      intro w' hS'
      go_simp
      try with_reducible rfl
    simp only [List.setIfInBounds_toArray, List.set_cons_zero, List.set_cons_succ]
    refine take_op (i := 9) (d := 7) (v := ?_) rfl rfl (by kernel_rfl) (by kernel_rfl) (by kernel_rfl) (fun _ _ _ h => h) (Or.inl ⟨by rfl, ?hy9u6⟩) hHeld ?rest9u6
    case hy9u6 =>
      intro w' hS'
      go_simp
      try with_reducible rfl
    simp only [List.setIfInBounds_toArray, List.set_cons_zero, List.set_cons_succ]
    refine wpAnyH_done (by kernel_rfl) ?_ _
    obtain ⟨g0, g1, g2, g3, hb'⟩ := hHeld
    clear H0 H1 HA HX hb
    have H0 := Lib.hid g0
    have H1 := Lib.hid g1
    have HA := Lib.hid g2
    have HX := Lib.hid g3
    have hb := hb'
    clear g0 g1 g2 g3 hb'
    go_upto_region 7 with (first | (refine wpList_load_part rfl 78 _ rfl w.heap.size 0 3 rfl 78 (roomC wd hg sv) (0, 0) _ H0.out Tryd.underlying78 rfl info_roomL (room_fits _ _ _) _ (room_all _ _ _) ?_) | (go_at_call 52; refine (toRoom_any wd hg sv ws hlen _ HA.out).mono ?_; rintro e W5 ⟨⟨v1', rfl, hv⟩, hb1⟩; have HV1 := Lib.hid hv; clear hv; replace H0 := Lib.hid (below_row hb1 H0.out); replace H1 := Lib.hid (below_row hb1 H1.out); replace HA := Lib.hid (wins_below HA.out hb1); replace HX := Lib.hid (errs_below HX.out hb1); replace hb := hb.trans (hb1.mono hb.size); clear hb1) | (refine wpList_store_part rfl 87 _ _ rfl _ 0 (roomC wd hg v1') rfl rfl 87 _ (heap_alloc_new _ _) (by kernel_rfl) (Nat.le_refl _) (room_one wd hg HV1.out) ?_; rw [laid_allr _ _ (by rfl)]))
    refine abs_world (fun V => Below W5.heap.size W5 V ∧ V.heap[W5.heap.size]? = some (.cells (roomC wd hg v1') 87 (0, 0))) ⟨below_setRow ((Below.refl _ _).alloc (Nat.le_refl _) _) (Nat.le_refl _) _, setRow_heap _ _ _ _ _ _ (heap_alloc_new _ _)⟩ ?_
    rintro V ⟨hb1, hr⟩
    have HR := Lib.hid hr
    replace HV1 := Lib.hid (wins_below (ownW_at HV1.out) hb1)
    replace H0 := Lib.hid (below_row hb1 H0.out); replace H1 := Lib.hid (below_row hb1 H1.out); replace HA := Lib.hid (wins_below HA.out hb1); replace HX := Lib.hid (errs_below HX.out hb1); replace hb := hb.trans (hb1.mono hb.size); clear hb1
    clear hr
    generalize W5.heap.size = rb at *
    dsimp only [Act.put]
    refine wp_region_held_drew (S := (fun W => W.heap[w.heap.size]? = some (.cells (roomC wd hg sv) 78 (0, 0)) ∧ W.heap[w.heap.size + 1]? = some (.cells (deskC a1 a2 a3) 82 (0, 0)) ∧ WinsAt W sv ws ∧ ErrsAt W e0 e1 e2 e3 ∧ W.heap[rb]? = some (.cells (roomC wd hg v1') 87 (0, 0)) ∧ WinsAt W v1' ws ∧ Below w.heap.size w W)) (by kernel_rfl) ⟨H0.out, H1.out, HA.out, errs_below HX.out (Below.drew (Below.refl _ _)), HR.out, HV1.out, hb.drew⟩ (fun hHeld => ?_)
    refine take_op (i := 0) (d := 27) (v := .agg (roomC wd hg v1')) rfl rfl (by kernel_rfl) (by kernel_rfl) (by kernel_rfl) (fun _ _ _ h => h) (yields_row (by rfl) 87 (.tmp 8) (by rfl) rb 0 3 (by rfl) 87 (roomC wd hg v1') (0, 0) _ (fun _ h => h.2.2.2.2.1) Tryd.underlying87 rfl info_room (room_fits _ _ _) (roomC wd hg v1') (room_all _ _ _)) hHeld ?_
    simp only [List.setIfInBounds_toArray, List.set_cons_zero, List.set_cons_succ]
    refine take_op (i := 1) (d := 28) (v := .agg (deskC a1 a2 a3)) rfl rfl (by kernel_rfl) (by kernel_rfl) (by kernel_rfl) (fun _ _ _ h => h) (yields_row (by rfl) 82 (.tmp 3) (by rfl) (w.heap.size + 1) 0 3 (by rfl) 82 (deskC a1 a2 a3) (0, 0) _ (fun _ h => h.2.1) Tryd.underlying82 rfl info_deskL (desk_fits _ _ _) (deskC a1 a2 a3) (desk_all _ _ _)) hHeld ?_
    simp only [List.setIfInBounds_toArray, List.set_cons_zero, List.set_cons_succ]
    refine wpAnyH_ready (rs := [2]) (by kernel_rfl) (by simp) ?_
    refine AllReadyH.cons rfl (fun K hK => ?_) AllReadyH.nil
    go_simp
    refine (toDesk_any a1 a2 a3 _).mono ?_
    rintro e W6 ⟨rfl, hb1⟩
    refine hK.out _ _ (⟨below_row hb1 hHeld.1, below_row hb1 hHeld.2.1, wins_below hHeld.2.2.1 hb1, errs_below hHeld.2.2.2.1 hb1, below_row hb1 hHeld.2.2.2.2.1, wins_below hHeld.2.2.2.2.2.1 hb1, hHeld.2.2.2.2.2.2.trans (hb1.mono hHeld.2.2.2.2.2.2.size)⟩) (fun hHeld2 => ?_)
    clear hK K
    replace hHeld := hHeld2
    clear hHeld2
    clear hb1
    refine wpAnyH_ready (rs := [3]) (by kernel_rfl) (by simp) ?_
    refine AllReadyH.cons rfl (fun K hK => ?_) AllReadyH.nil
    go_simp
    refine (HI.out v1' _ hHeld.2.2.2.2.2.1 hHeld.2.2.2.1).mono ?_
    rintro e W7 ⟨rfl, hb1⟩
    refine hK.out _ _ (⟨below_row hb1 hHeld.1, below_row hb1 hHeld.2.1, wins_below hHeld.2.2.1 hb1, errs_below hHeld.2.2.2.1 hb1, below_row hb1 hHeld.2.2.2.2.1, wins_below hHeld.2.2.2.2.2.1 hb1, hHeld.2.2.2.2.2.2.trans (hb1.mono hHeld.2.2.2.2.2.2.size)⟩) (fun hHeld2 => ?_)
    clear hK K
    replace hHeld := hHeld2
    clear hHeld2
    clear hb1
    refine take_op (i := 4) (d := 26) (v := ?_) rfl rfl (by kernel_rfl) (by kernel_rfl) (by kernel_rfl) (fun _ _ _ h => h) (Or.inl ⟨by rfl, ?hy4u7⟩) hHeld ?rest4u7
    case hy4u7 =>
      intro w' hS'
      go_simp
      try with_reducible rfl
    simp only [List.setIfInBounds_toArray, List.set_cons_zero, List.set_cons_succ]
    refine take_op (i := 5) (d := 31) (v := ?_) rfl rfl (by kernel_rfl) (by kernel_rfl) (by kernel_rfl) (fun _ _ _ h => h) (Or.inl ⟨by rfl, ?hy5u8⟩) hHeld ?rest5u8
    case hy5u8 =>
      intro w' hS'
      go_simp
      try with_reducible rfl
    simp only [List.setIfInBounds_toArray, List.set_cons_zero, List.set_cons_succ]
    refine take_op (i := 6) (d := 32) (v := ?_) rfl rfl (by kernel_rfl) (by kernel_rfl) (by kernel_rfl) (fun _ _ _ h => h) (Or.inl ⟨by rfl, ?hy6u9⟩) hHeld ?rest6u9
    case hy6u9 =>
      intro w' hS'
      go_simp
      try with_reducible rfl
    simp only [List.setIfInBounds_toArray, List.set_cons_zero, List.set_cons_succ]
    refine take_op (i := 7) (d := 9) (v := ?_) rfl rfl (by kernel_rfl) (by kernel_rfl) (by kernel_rfl) (fun _ _ _ h => h) (Or.inl ⟨by rfl, ?hy7u10⟩) hHeld ?rest7u10
    case hy7u10 =>
      intro w' hS'
      go_simp
      try with_reducible rfl
    simp only [List.setIfInBounds_toArray, List.set_cons_zero, List.set_cons_succ]
    refine take_op (i := 8) (d := 10) (v := ?_) rfl rfl (by kernel_rfl) (by kernel_rfl) (by kernel_rfl) (fun _ _ _ h => h) (Or.inl ⟨by rfl, ?hy8u11⟩) hHeld ?rest8u11
    case hy8u11 =>
      intro w' hS'
      go_simp
      try with_reducible rfl
    simp only [List.setIfInBounds_toArray, List.set_cons_zero, List.set_cons_succ]
    refine wpAnyH_done (by kernel_rfl) ?_ _
    obtain ⟨g0, g1, g2, g3, g4, g5, hb'⟩ := hHeld
    clear H0 H1 HA HX HR HV1 hb
    have H0 := Lib.hid g0
    have HA := Lib.hid g2
    have HR := Lib.hid g4
    have HV1 := Lib.hid g5
    have hb := hb'
    clear g0 g1 g2 g3 g4 g5 hb'
    go_upto_region 10 with (go_at_call 18; refine (same_wide _ Hf.out _).mono ?_; rintro e w1 ⟨rfl, rfl⟩)
    refine wp_region_held_drew (S := (fun W => W.heap[rb]? = some (.cells (roomC wd hg v1') 87 (0, 0)) ∧ W.heap[w.heap.size]? = some (.cells (roomC wd hg sv) 78 (0, 0)) ∧ WinsAt W sv ws ∧ WinsAt W v1' ws ∧ Below w.heap.size w W)) (by kernel_rfl) ⟨HR.out, H0.out, HA.out, HV1.out, hb.drew⟩ (fun hHeld => ?_)
    refine take_op (i := 0) (d := 44) (v := .agg (roomC wd hg v1')) rfl rfl (by kernel_rfl) (by kernel_rfl) (by kernel_rfl) (fun _ _ _ h => h) (yields_row (by rfl) 87 (.tmp 8) (by rfl) rb 0 3 (by rfl) 87 (roomC wd hg v1') (0, 0) _ (fun _ h => h.1) Tryd.underlying87 rfl info_room (room_fits _ _ _) (roomC wd hg v1') (room_all _ _ _)) hHeld ?_
    simp only [List.setIfInBounds_toArray, List.set_cons_zero, List.set_cons_succ]
    refine take_op (i := 1) (d := 45) (v := .agg (roomC wd hg sv)) rfl rfl (by kernel_rfl) (by kernel_rfl) (by kernel_rfl) (fun _ _ _ h => h) (yields_row (by rfl) 78 (.tmp 2) (by rfl) w.heap.size 0 3 (by rfl) 78 (roomC wd hg sv) (0, 0) _ (fun _ h => h.2.1) Tryd.underlying78 rfl info_roomL (room_fits _ _ _) (roomC wd hg sv) (room_all _ _ _)) hHeld ?_
    simp only [List.setIfInBounds_toArray, List.set_cons_zero, List.set_cons_succ]
    refine wpAnyH_ready (rs := [2]) (by kernel_rfl) (by simp) ?_
    refine AllReadyH.cons rfl (fun K hK => ?_) AllReadyH.nil
    go_simp
    refine (toRoom_any wd hg sv ws hlen _ hHeld.2.2.1).mono ?_
    rintro e W1 ⟨⟨v9, rfl, hv9⟩, hb1⟩
    have HV9 := Lib.hid (ownW_at hv9)
    clear hv9
    refine hK.out _ _ (⟨below_row hb1 hHeld.1, below_row hb1 hHeld.2.1, wins_below hHeld.2.2.1 hb1, wins_below hHeld.2.2.2.1 hb1, hHeld.2.2.2.2.trans (hb1.mono hHeld.2.2.2.2.size)⟩) (fun hHeld2 => ?_)
    clear hK K
    replace hHeld := hHeld2
    clear hHeld2
    clear hb1
    refine wpAnyH_ready (rs := [3]) (by kernel_rfl) (by simp) ?_
    refine AllReadyH.cons rfl (fun K hK => ?_) AllReadyH.nil
    go_simp
    refine (eqRoom_any wd hg v1' v9 ws _ hHeld.2.2.2.1 HV9.out).mono ?_
    rintro e W2 ⟨rfl, hb1⟩
    refine hK.out _ _ (⟨below_row hb1 hHeld.1, below_row hb1 hHeld.2.1, wins_below hHeld.2.2.1 hb1, wins_below hHeld.2.2.2.1 hb1, hHeld.2.2.2.2.trans (hb1.mono hHeld.2.2.2.2.size)⟩) (fun hHeld2 => ?_)
    clear hK K
    replace hHeld := hHeld2
    clear hHeld2
    clear hb1
    refine take_op (i := 4) (d := 48) (v := ?_) rfl rfl (by kernel_rfl) (by kernel_rfl) (by kernel_rfl) (fun _ _ _ h => h) (Or.inl ⟨by rfl, ?hy4u12⟩) hHeld ?rest4u12
    case hy4u12 =>
      intro w' hS'
      go_simp
      try with_reducible rfl
    simp only [List.setIfInBounds_toArray, List.set_cons_zero, List.set_cons_succ]
    refine wpAnyH_done (by kernel_rfl) ?_ _
    have hbz := hHeld.2.2.2.2
    clear hHeld
    go_wp2
    go_ret
    exact ⟨rfl, hbz⟩

theorem lit_finC {wd hg : Int} {ws : List Wn} (ok : RmOk wd hg ws) (hwf : ∀ x ∈ ws, WnWf x) {a1 a2 : Int} (ha : inRoom wd hg (a1, a2)) (c : Wn → Bool) : fin32 (litW wd hg (a1, a2) c ws) = true :=
  fin_of_lt (Nat.lt_of_le_of_lt (sumL_num (qsW_ok ok.w0 ok.w1 ok.h0 ok.h1 ha (fun y hy => fit_get (hwf y hy) (ok.all y hy))) (Nat.le_trans (qsW_len _ _ _ _ _) ok.len)) (by decide +kernel))
theorem isD_get {wd hg x y l : Int} (h : isD wd hg x y l = true) : inRoom wd hg (x, y) ∧ 0 ≤ l ∧ l ≤ 3 := by
  unfold isD at h
  rw [Bool.and_eq_true] at h
  exact ⟨isT_get h.1, (inI_get h.2).1, (inI_get h.2).2⟩

theorem lawGlareAt_walk (wd hg : Int) (sv : Value) (ws : List Wn) (rw0 : RmWf wd hg ws) (a1 a2 a3 : Int) (tw : I8 a1 ∧ I8 a2 ∧ I8 a3) (w : World) (hws : WinsAt w sv ws) {e0 e1 e2 e3 : Addr} (hE : ErrsAt w e0 e1 e2 e3) :
    Calls Tryd.prog 14 #[.agg (roomC wd hg sv), .agg (deskC a1 a2 a3)] w fun e w' => e = .returned (.bool true) ∧ Below w.heap.size w w' := by
  obtain ⟨iw, ih, hwf⟩ := rw0
  obtain ⟨ix, iy, il⟩ := tw
  cases hv : okRm wd hg ws with
  | false => exact lawGlareAt_core wd hg sv ws a1 a2 a3 _ _ zero_fin e0 e1 e2 e3 (fun s W h => SGlareAt_n1 wd hg s ws iw ih hwf a1 a2 a3 ix iy il _ W h rfl (by rw [hv]; rfl)) (fun s W h k => GlareAt_n1 wd hg s ws a1 a2 a3 _ _ e0 e1 e2 e3 W h k hv rfl rfl) w hws hE
  | true =>
    cases hr : isD wd hg a1 a2 a3 with
    | false => exact lawGlareAt_core wd hg sv ws a1 a2 a3 _ _ zero_fin e0 e1 e2 e3 (fun s W h => SGlareAt_n2 wd hg s ws iw ih hwf a1 a2 a3 ix iy il _ W h hr (by rw [hv]; rfl)) (fun s W h k => GlareAt_n2 wd hg s ws a1 a2 a3 _ _ e0 e1 e2 e3 W h k hv hr rfl) w hws hE
    | true =>
      have ok := okRm_get hv
      obtain ⟨ha, l0, l3⟩ := isD_get hr
      exact lawGlareAt_core wd hg sv ws a1 a2 a3 _ _ (lit_finC ok hwf ha _) e0 e1 e2 e3 (fun s W h => SGlareAt_y wd hg s ws ok iw ih hwf a1 a2 a3 ix iy il ha _ W h hr (by rw [hv]; rfl)) (fun s W h k => GlareAt_y wd hg s ws ok hwf a1 a2 a3 l0 l3 _ _ e0 e1 e2 e3 W h k ha hv hr rfl) w hws hE

end Go.Proofs.YtnienahjfocalaaDoor
