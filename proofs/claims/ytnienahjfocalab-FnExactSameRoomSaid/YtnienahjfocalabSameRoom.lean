/-
  For every two rooms, valid or not: whether they are the same is what the model says, and both are as they were. No conditions.
-/
import Derived.Test.YtnienahjfocalabSameRmS
import Derived.Test.YtnienahjfocalabRoomE
import Derived.Test.YtnienahjfocalabLaw
import Derived.Test.YtnienahjfocalabLeave
namespace Go.Proofs.Ytnienahjfocalab
open Go.ChangeShapes Go.WideShapes Go.ChangeAt Go.RowKit Go.Deep Go.Joins

attribute [local go_sem] run_store_f

set_option maxRecDepth 100000 in
set_option maxHeartbeats 1000000 in
theorem lawSameRoom_core (wd hg : Int) (sv : Value) (xs : List Wn) (wd2 hg2 : Int) (sv2 : Value) (ys : List Wn) (v0 : Bool)
    (hS : ∀ (s s2 : Value) (W : World), WinsAt W s xs → WinsAt W s2 ys → Calls Try.prog 15 #[.agg (roomC wd hg s), .agg (roomC wd2 hg2 s2)] W fun e w' => e = .returned (.bool v0) ∧ Below W.heap.size W w')
    (hI : ∀ (s s2 : Value) (W : World), WinsAt W s xs → WinsAt W s2 ys → Calls Try.prog 17 #[.agg (roomC wd hg s), .agg (roomC wd2 hg2 s2)] W fun e w' => e = .returned (.bool v0) ∧ Below W.heap.size W w')
    (w : World) (hx : WinsAt w sv xs) (hy : WinsAt w sv2 ys) :
    Calls Try.prog 4 #[.agg (roomC wd hg sv), .agg (roomC wd2 hg2 sv2)] w fun e w' => e = .returned (.bool true) ∧ Below w.heap.size w w' := by
  have HA := Lib.hid hx
  have HB := Lib.hid hy
  have HS := Lib.hid hS
  have HI := Lib.hid hI
  obtain ⟨a0, cap0, esv, hl1, hl2, _⟩ := hx
  obtain ⟨b0, cbp0, esv2, ml1, ml2, _⟩ := hy
  unfold maxLen at hl2 ml2
  have zb : (v0 != v0) = false := by simp
  have HZ := Lib.hid (fun w => szRoom_any wd hg a0 xs.length cap0 1048576 (by omega) (by decide) (by decide) w)
  rw [← esv] at HZ
  have hlr : leftI xs.length 1048576 < 0 ∨ (0 ≤ leftI xs.length 1048576 ∧ leftI xs.length 1048576 ≤ 1048576 ∧ xs.length ≤ 1048576) := by unfold leftI; split <;> omega
  generalize leftI (xs.length : Int) 1048576 = lf at *
  have hlen0 : True := trivial
  clear hS hI
  rcases hlr with hlf | ⟨hlf, hlf1, hlen⟩
  · clear esv esv2 hl1 hl2 ml1 ml2
    go_enter Try.func4, Try.ntmps4
    go_upto_region 1 with (fail)
    refine abs_world (fun W => W.heap[w.heap.size]? = some (.cells (roomC wd hg sv) 32 (0, 0)) ∧ W.heap[w.heap.size + 1]? = some (.cells (roomC wd2 hg2 sv2) 32 (0, 0)) ∧ Below w.heap.size w W) (box2 w (.cells (roomC wd hg sv) 32) (.cells (roomC wd2 hg2 sv2) 32)) ?_
    rintro W ⟨h0, h1, hb⟩
    generalize w.heap.size + 1 = b1 at *
    have H0 := Lib.hid h0
    have H1 := Lib.hid h1
    replace HA := Lib.hid (wins_below HA.out hb)
    replace HB := Lib.hid (wins_below HB.out hb)
    clear h0 h1
    go_wp2_with (first | (refine wpList_load_partG 32 _ rfl w.heap.size 0 3 rfl rfl 32 (roomC wd hg sv) (0, 0) _ H0.out Try.underlying32 rfl info_roomL (room_fits _ _ _) _ (room_all _ _ _) ?_) | (refine wpList_load_partG 32 _ rfl b1 0 3 rfl rfl 32 (roomC wd2 hg2 sv2) (0, 0) _ H1.out Try.underlying32 rfl info_roomL (room_fits _ _ _) _ (room_all _ _ _) ?_) | (go_at_call 14; (with_reducible refine (HZ.out _).mono ?_); rintro e W1 ⟨rfl, hb1⟩; replace H0 := Lib.hid (below_row hb1 H0.out); replace H1 := Lib.hid (below_row hb1 H1.out); replace HA := Lib.hid (wins_below HA.out hb1); replace HB := Lib.hid (wins_below HB.out hb1); replace hb := hb.trans (hb1.mono hb.size); clear hb1))
    go_ret
    exact ⟨rfl, hb⟩
  have HZ2 := Lib.hid (fun w => szRoom_any wd2 hg2 b0 ys.length cbp0 lf (by omega) hlf hlf1 w)
  rw [← esv2] at HZ2
  have hlr2 : leftI ys.length lf < 0 ∨ (0 ≤ leftI ys.length lf ∧ ys.length ≤ 1048576) := by unfold leftI; split <;> omega
  generalize leftI (ys.length : Int) lf = lf2 at *
  clear esv esv2 hl1 hl2 ml1 ml2
  rcases hlr2 with hlf2 | ⟨hlf2, hlen2⟩
  · skip
    go_enter Try.func4, Try.ntmps4
    go_upto_region 1 with (fail)
    refine abs_world (fun W => W.heap[w.heap.size]? = some (.cells (roomC wd hg sv) 32 (0, 0)) ∧ W.heap[w.heap.size + 1]? = some (.cells (roomC wd2 hg2 sv2) 32 (0, 0)) ∧ Below w.heap.size w W) (box2 w (.cells (roomC wd hg sv) 32) (.cells (roomC wd2 hg2 sv2) 32)) ?_
    rintro W ⟨h0, h1, hb⟩
    generalize w.heap.size + 1 = b1 at *
    have H0 := Lib.hid h0
    have H1 := Lib.hid h1
    replace HA := Lib.hid (wins_below HA.out hb)
    replace HB := Lib.hid (wins_below HB.out hb)
    clear h0 h1
    go_wp2_with (first | (refine wpList_load_partG 32 _ rfl w.heap.size 0 3 rfl rfl 32 (roomC wd hg sv) (0, 0) _ H0.out Try.underlying32 rfl info_roomL (room_fits _ _ _) _ (room_all _ _ _) ?_) | (refine wpList_load_partG 32 _ rfl b1 0 3 rfl rfl 32 (roomC wd2 hg2 sv2) (0, 0) _ H1.out Try.underlying32 rfl info_roomL (room_fits _ _ _) _ (room_all _ _ _) ?_) | (go_at_call 14; (with_reducible refine (HZ.out _).mono ?_); rintro e W1 ⟨rfl, hb1⟩; replace H0 := Lib.hid (below_row hb1 H0.out); replace H1 := Lib.hid (below_row hb1 H1.out); replace HA := Lib.hid (wins_below HA.out hb1); replace HB := Lib.hid (wins_below HB.out hb1); replace hb := hb.trans (hb1.mono hb.size); clear hb1) | (go_at_call 14; (with_reducible refine (HZ2.out _).mono ?_); rintro e W2 ⟨rfl, hb2⟩; replace H0 := Lib.hid (below_row hb2 H0.out); replace H1 := Lib.hid (below_row hb2 H1.out); replace HA := Lib.hid (wins_below HA.out hb2); replace HB := Lib.hid (wins_below HB.out hb2); replace hb := hb.trans (hb2.mono hb.size); clear hb2))
    go_ret
    exact ⟨rfl, hb⟩
  go_enter Try.func4, Try.ntmps4
  go_upto_region 1 with (fail)
  refine abs_world (fun W => W.heap[w.heap.size]? = some (.cells (roomC wd hg sv) 32 (0, 0)) ∧ W.heap[w.heap.size + 1]? = some (.cells (roomC wd2 hg2 sv2) 32 (0, 0)) ∧ Below w.heap.size w W) (box2 w (.cells (roomC wd hg sv) 32) (.cells (roomC wd2 hg2 sv2) 32)) ?_
  rintro W ⟨h0, h1, hb⟩
  generalize w.heap.size + 1 = b1 at *
  have H0 := Lib.hid h0
  have H1 := Lib.hid h1
  replace HA := Lib.hid (wins_below HA.out hb)
  replace HB := Lib.hid (wins_below HB.out hb)
  clear h0 h1
  go_upto_region 8 with (first | (refine wpList_load_partG 32 _ rfl w.heap.size 0 3 rfl rfl 32 (roomC wd hg sv) (0, 0) _ H0.out Try.underlying32 rfl info_roomL (room_fits _ _ _) _ (room_all _ _ _) ?_) | (refine wpList_load_partG 32 _ rfl b1 0 3 rfl rfl 32 (roomC wd2 hg2 sv2) (0, 0) _ H1.out Try.underlying32 rfl info_roomL (room_fits _ _ _) _ (room_all _ _ _) ?_) | (go_at_call 14; (with_reducible refine (HZ.out _).mono ?_); rintro e W1 ⟨rfl, hb1⟩; replace H0 := Lib.hid (below_row hb1 H0.out); replace H1 := Lib.hid (below_row hb1 H1.out); replace HA := Lib.hid (wins_below HA.out hb1); replace HB := Lib.hid (wins_below HB.out hb1); replace hb := hb.trans (hb1.mono hb.size); clear hb1) | (go_at_call 14; (with_reducible refine (HZ2.out _).mono ?_); rintro e W2 ⟨rfl, hb2⟩; replace H0 := Lib.hid (below_row hb2 H0.out); replace H1 := Lib.hid (below_row hb2 H1.out); replace HA := Lib.hid (wins_below HA.out hb2); replace HB := Lib.hid (wins_below HB.out hb2); replace hb := hb.trans (hb2.mono hb.size); clear hb2))
  clear hlf hlf1 hlf2 HZ HZ2
  refine wp_region_held_drew (S := (fun V => Below W2.heap.size W2 V)) (by kernel_rfl) ((Below.refl _ _).drew) (fun hHeld => ?_)
  refine take_op (i := 0) (d := 20) (v := .agg (roomC wd hg sv)) rfl rfl (by kernel_rfl) (by kernel_rfl) (by kernel_rfl) (fun _ _ _ h => h) (yields_row (by rfl) 32 (.tmp 2) (by rfl) w.heap.size 0 3 (by rfl) 32 (roomC wd hg sv) (0, 0) _ (fun _ h => below_row h H0.out) Try.underlying32 rfl info_roomL (room_fits _ _ _) (roomC wd hg sv) (room_all _ _ _)) hHeld ?_
  simp only [List.setIfInBounds_toArray, List.set_cons_zero, List.set_cons_succ]
  refine take_op (i := 2) (d := 22) (v := .agg (roomC wd2 hg2 sv2)) rfl rfl (by kernel_rfl) (by kernel_rfl) (by kernel_rfl) (fun _ _ _ h => h) (yields_row (by rfl) 32 (.tmp 3) (by rfl) b1 0 3 (by rfl) 32 (roomC wd2 hg2 sv2) (0, 0) _ (fun _ h => below_row h H1.out) Try.underlying32 rfl info_roomL (room_fits _ _ _) (roomC wd2 hg2 sv2) (room_all _ _ _)) hHeld ?_
  simp only [List.setIfInBounds_toArray, List.set_cons_zero, List.set_cons_succ]
  refine wpAnyH_ready (rs := [1]) (by kernel_rfl) (by simp) ?_
  refine AllReadyH.cons rfl (fun K hK => ?_) AllReadyH.nil
  go_simp
  refine (toRoom_any wd hg sv xs hlen _ (wins_below HA.out hHeld)).mono ?_
  rintro e W11 ⟨⟨v3, rfl, hv3⟩, hb11⟩
  have HV3 := Lib.hid (ownW_at hv3)
  clear hv3
  refine hK.out _ _ (hHeld.trans (hb11.mono hHeld.size)) (fun hHeld2 => ?_)
  clear hK K
  replace hHeld := hHeld2
  clear hHeld2
  clear hb11
  refine wpAnyH_ready (rs := [3]) (by kernel_rfl) (by simp) ?_
  refine AllReadyH.cons rfl (fun K hK => ?_) AllReadyH.nil
  go_simp
  refine (toRoom_any wd2 hg2 sv2 ys hlen2 _ (wins_below HB.out hHeld)).mono ?_
  rintro e W12 ⟨⟨v4, rfl, hv4⟩, hb12⟩
  replace HV3 := Lib.hid (wins_below HV3.out hb12)
  have HV4 := Lib.hid (ownW_at hv4)
  clear hv4
  refine hK.out _ _ (hHeld.trans (hb12.mono hHeld.size)) (fun hHeld2 => ?_)
  clear hK K
  replace hHeld := hHeld2
  clear hHeld2
  clear hb12
  refine wpAnyH_ready (rs := [4]) (by kernel_rfl) (by simp) ?_
  refine AllReadyH.cons rfl (fun K hK => ?_) AllReadyH.nil
  go_simp
  refine (HS.out v3 v4 _ HV3.out HV4.out).mono ?_
  rintro e W13 ⟨rfl, hb13⟩
  refine hK.out _ _ (hHeld.trans (hb13.mono hHeld.size)) (fun hHeld2 => ?_)
  clear hK K
  replace hHeld := hHeld2
  clear hHeld2
  clear hb13
  refine take_op (i := 5) (d := 6) (v := ?_) rfl rfl (by kernel_rfl) (by kernel_rfl) (by kernel_rfl) (fun _ _ _ h => h) (Or.inl ⟨by rfl, ?hy5u1⟩) hHeld ?rest5u1
  case hy5u1 =>
    intro w' hS'
    go_simp
    try with_reducible rfl
  simp only [List.setIfInBounds_toArray, List.set_cons_zero, List.set_cons_succ]
  refine wpAnyH_done (by kernel_rfl) ?_ _
  replace H0 := Lib.hid (below_row hHeld H0.out)
  replace H1 := Lib.hid (below_row hHeld H1.out)
  replace HA := Lib.hid (wins_below HA.out hHeld)
  replace HB := Lib.hid (wins_below HB.out hHeld)
  replace hb := hb.trans (hHeld.mono hb.size)
  clear hHeld
  clear HV3 HV4 HS
  go_upto_region 10 with (first | (refine wpList_load_partG 32 _ rfl w.heap.size 0 3 rfl rfl 32 (roomC wd hg sv) (0, 0) _ H0.out Try.underlying32 rfl info_roomL (room_fits _ _ _) _ (room_all _ _ _) ?_) | (refine wpList_load_partG 32 _ rfl b1 0 3 rfl rfl 32 (roomC wd2 hg2 sv2) (0, 0) _ H1.out Try.underlying32 rfl info_roomL (room_fits _ _ _) _ (room_all _ _ _) ?_) | (go_at_call 16; refine (toRoom_any wd hg sv xs hlen _ HA.out).mono ?_; rintro e W27 ⟨⟨v5, rfl, hvq⟩, hbq⟩; have HO := Lib.hid hvq; clear hvq; replace H0 := Lib.hid (below_row hbq H0.out); replace H1 := Lib.hid (below_row hbq H1.out); replace HA := Lib.hid (wins_below HA.out hbq); replace HB := Lib.hid (wins_below HB.out hbq); replace hb := hb.trans (hbq.mono hb.size); clear hbq) | (refine wpList_store_part rfl 37 _ _ rfl _ 0 (roomC wd hg v5) rfl rfl 37 _ (heap_alloc_new _ _) (by kernel_rfl) (Nat.le_refl _) (room_one wd hg HO.out) ?_; rw [laid_allr _ _ (by rfl)]))
  refine abs_world (fun V => Below W27.heap.size W27 V ∧ V.heap[W27.heap.size]? = some (.cells (roomC wd hg v5) 37 (0, 0))) ⟨below_setRow ((Below.refl _ _).alloc (Nat.le_refl _) _) (Nat.le_refl _) _, setRow_heap _ _ _ _ _ _ (heap_alloc_new _ _)⟩ ?_
  rintro V9 ⟨hbq, hrq⟩
  have R5 := Lib.hid hrq
  have HV5 := Lib.hid (wins_below (ownW_at HO.out) hbq)
  replace H0 := Lib.hid (below_row hbq H0.out); replace H1 := Lib.hid (below_row hbq H1.out); replace HA := Lib.hid (wins_below HA.out hbq); replace HB := Lib.hid (wins_below HB.out hbq); replace hb := hb.trans (hbq.mono hb.size)
  clear hbq hrq HO
  generalize W27.heap.size = rb9 at *
  go_upto_region 11 with (first | (refine wpList_load_partG 32 _ rfl w.heap.size 0 3 rfl rfl 32 (roomC wd hg sv) (0, 0) _ H0.out Try.underlying32 rfl info_roomL (room_fits _ _ _) _ (room_all _ _ _) ?_) | (refine wpList_load_partG 32 _ rfl b1 0 3 rfl rfl 32 (roomC wd2 hg2 sv2) (0, 0) _ H1.out Try.underlying32 rfl info_roomL (room_fits _ _ _) _ (room_all _ _ _) ?_) | (go_at_call 16; refine (toRoom_any wd2 hg2 sv2 ys hlen2 _ HB.out).mono ?_; rintro e W30 ⟨⟨v6, rfl, hvq⟩, hbq⟩; have HO := Lib.hid hvq; clear hvq; replace H0 := Lib.hid (below_row hbq H0.out); replace H1 := Lib.hid (below_row hbq H1.out); replace HA := Lib.hid (wins_below HA.out hbq); replace HB := Lib.hid (wins_below HB.out hbq); replace R5 := Lib.hid (below_row hbq R5.out); replace HV5 := Lib.hid (wins_below HV5.out hbq); replace hb := hb.trans (hbq.mono hb.size); clear hbq) | (refine wpList_store_part rfl 37 _ _ rfl _ 0 (roomC wd2 hg2 v6) rfl rfl 37 _ (heap_alloc_new _ _) (by kernel_rfl) (Nat.le_refl _) (room_one wd2 hg2 HO.out) ?_; rw [laid_allr _ _ (by rfl)]))
  refine abs_world (fun V => Below W30.heap.size W30 V ∧ V.heap[W30.heap.size]? = some (.cells (roomC wd2 hg2 v6) 37 (0, 0))) ⟨below_setRow ((Below.refl _ _).alloc (Nat.le_refl _) _) (Nat.le_refl _) _, setRow_heap _ _ _ _ _ _ (heap_alloc_new _ _)⟩ ?_
  rintro V10 ⟨hbq, hrq⟩
  have R6 := Lib.hid hrq
  have HV6 := Lib.hid (wins_below (ownW_at HO.out) hbq)
  replace H0 := Lib.hid (below_row hbq H0.out); replace H1 := Lib.hid (below_row hbq H1.out); replace HA := Lib.hid (wins_below HA.out hbq); replace HB := Lib.hid (wins_below HB.out hbq); replace R5 := Lib.hid (below_row hbq R5.out); replace HV5 := Lib.hid (wins_below HV5.out hbq); replace hb := hb.trans (hbq.mono hb.size)
  clear hbq hrq HO
  generalize W30.heap.size = rb10 at *
  go_upto_region 14 with (first | (refine wpList_load_partG 37 _ rfl rb9 0 3 rfl rfl 37 (roomC wd hg v5) (0, 0) _ R5.out Try.underlying37 rfl info_room (room_fits _ _ _) _ (room_all _ _ _) ?_) | (refine wpList_load_partG 37 _ rfl rb10 0 3 rfl rfl 37 (roomC wd2 hg2 v6) (0, 0) _ R6.out Try.underlying37 rfl info_room (room_fits _ _ _) _ (room_all _ _ _) ?_) | (go_at_call 17; refine (HI.out v5 v6 _ HV5.out HV6.out).mono ?_; rintro e W40 ⟨rfl, hb1⟩; replace H0 := Lib.hid (below_row hb1 H0.out); replace H1 := Lib.hid (below_row hb1 H1.out); replace HA := Lib.hid (wins_below HA.out hb1); replace HB := Lib.hid (wins_below HB.out hb1); replace R5 := Lib.hid (below_row hb1 R5.out); replace R6 := Lib.hid (below_row hb1 R6.out); replace HV5 := Lib.hid (wins_below HV5.out hb1); replace HV6 := Lib.hid (wins_below HV6.out hb1); replace hb := hb.trans (hb1.mono hb.size); clear hb1))
  clear HI
  refine wp_region_held_drew (S := (fun V => Below W40.heap.size W40 V)) (by kernel_rfl) ((Below.refl _ _).drew) (fun hHeld => ?_)
  refine take_op (i := 0) (d := 35) (v := .agg (roomC wd hg v5)) rfl rfl (by kernel_rfl) (by kernel_rfl) (by kernel_rfl) (fun _ _ _ h => h) (yields_row (by rfl) 37 (.tmp 7) (by rfl) rb9 0 3 (by rfl) 37 (roomC wd hg v5) (0, 0) _ (fun _ h => below_row h R5.out) Try.underlying37 rfl info_room (room_fits _ _ _) (roomC wd hg v5) (room_all _ _ _)) hHeld ?_
  simp only [List.setIfInBounds_toArray, List.set_cons_zero, List.set_cons_succ]
  refine take_op (i := 1) (d := 36) (v := .agg (roomC wd hg sv)) rfl rfl (by kernel_rfl) (by kernel_rfl) (by kernel_rfl) (fun _ _ _ h => h) (yields_row (by rfl) 32 (.tmp 2) (by rfl) w.heap.size 0 3 (by rfl) 32 (roomC wd hg sv) (0, 0) _ (fun _ h => below_row h H0.out) Try.underlying32 rfl info_roomL (room_fits _ _ _) (roomC wd hg sv) (room_all _ _ _)) hHeld ?_
  simp only [List.setIfInBounds_toArray, List.set_cons_zero, List.set_cons_succ]
  refine wpAnyH_ready (rs := [2]) (by kernel_rfl) (by simp) ?_
  refine AllReadyH.cons rfl (fun K hK => ?_) AllReadyH.nil
  go_simp
  refine (toRoom_any wd hg sv xs hlen _ (wins_below HA.out hHeld)).mono ?_
  rintro e W51 ⟨⟨v7, rfl, hv7⟩, hb51⟩
  have HV7 := Lib.hid (ownW_at hv7)
  clear hv7
  refine hK.out _ _ (hHeld.trans (hb51.mono hHeld.size)) (fun hHeld2 => ?_)
  clear hK K
  replace hHeld := hHeld2
  clear hHeld2
  clear hb51
  refine wpAnyH_ready (rs := [3]) (by kernel_rfl) (by simp) ?_
  refine AllReadyH.cons rfl (fun K hK => ?_) AllReadyH.nil
  go_simp
  refine (eqRoom_any wd hg v5 v7 xs _ (wins_below HV5.out hHeld) HV7.out).mono ?_
  rintro e W52 ⟨rfl, hb52⟩
  refine hK.out _ _ (hHeld.trans (hb52.mono hHeld.size)) (fun hHeld2 => ?_)
  clear hK K
  replace hHeld := hHeld2
  clear hHeld2
  clear hb52
  refine take_op (i := 4) (d := 39) (v := ?_) rfl rfl (by kernel_rfl) (by kernel_rfl) (by kernel_rfl) (fun _ _ _ h => h) (Or.inl ⟨by rfl, ?hy4u2⟩) hHeld ?rest4u2
  case hy4u2 =>
    intro w' hS'
    go_simp
    try with_reducible rfl
  simp only [List.setIfInBounds_toArray, List.set_cons_zero, List.set_cons_succ]
  refine wpAnyH_done (by kernel_rfl) ?_ _
  replace H0 := Lib.hid (below_row hHeld H0.out)
  replace H1 := Lib.hid (below_row hHeld H1.out)
  replace HA := Lib.hid (wins_below HA.out hHeld)
  replace HB := Lib.hid (wins_below HB.out hHeld)
  replace R5 := Lib.hid (below_row hHeld R5.out)
  replace R6 := Lib.hid (below_row hHeld R6.out)
  replace HV5 := Lib.hid (wins_below HV5.out hHeld)
  replace HV6 := Lib.hid (wins_below HV6.out hHeld)
  replace hb := hb.trans (hHeld.mono hb.size)
  clear hHeld
  go_upto_region 16 with (fail)
  refine wp_region_held_drew (S := (fun V => Below W52.heap.size W52 V)) (by kernel_rfl) ((Below.refl _ _).drew) (fun hHeld => ?_)
  refine take_op (i := 0) (d := 40) (v := .agg (roomC wd2 hg2 v6)) rfl rfl (by kernel_rfl) (by kernel_rfl) (by kernel_rfl) (fun _ _ _ h => h) (yields_row (by rfl) 37 (.tmp 8) (by rfl) rb10 0 3 (by rfl) 37 (roomC wd2 hg2 v6) (0, 0) _ (fun _ h => below_row h R6.out) Try.underlying37 rfl info_room (room_fits _ _ _) (roomC wd2 hg2 v6) (room_all _ _ _)) hHeld ?_
  simp only [List.setIfInBounds_toArray, List.set_cons_zero, List.set_cons_succ]
  refine take_op (i := 1) (d := 41) (v := .agg (roomC wd2 hg2 sv2)) rfl rfl (by kernel_rfl) (by kernel_rfl) (by kernel_rfl) (fun _ _ _ h => h) (yields_row (by rfl) 32 (.tmp 3) (by rfl) b1 0 3 (by rfl) 32 (roomC wd2 hg2 sv2) (0, 0) _ (fun _ h => below_row h H1.out) Try.underlying32 rfl info_roomL (room_fits _ _ _) (roomC wd2 hg2 sv2) (room_all _ _ _)) hHeld ?_
  simp only [List.setIfInBounds_toArray, List.set_cons_zero, List.set_cons_succ]
  refine wpAnyH_ready (rs := [2]) (by kernel_rfl) (by simp) ?_
  refine AllReadyH.cons rfl (fun K hK => ?_) AllReadyH.nil
  go_simp
  refine (toRoom_any wd2 hg2 sv2 ys hlen2 _ (wins_below HB.out hHeld)).mono ?_
  rintro e W53 ⟨⟨v8, rfl, hv8⟩, hb53⟩
  have HV8 := Lib.hid (ownW_at hv8)
  clear hv8
  refine hK.out _ _ (hHeld.trans (hb53.mono hHeld.size)) (fun hHeld2 => ?_)
  clear hK K
  replace hHeld := hHeld2
  clear hHeld2
  clear hb53
  refine wpAnyH_ready (rs := [3]) (by kernel_rfl) (by simp) ?_
  refine AllReadyH.cons rfl (fun K hK => ?_) AllReadyH.nil
  go_simp
  refine (eqRoom_any wd2 hg2 v6 v8 ys _ (wins_below HV6.out hHeld) HV8.out).mono ?_
  rintro e W54 ⟨rfl, hb54⟩
  refine hK.out _ _ (hHeld.trans (hb54.mono hHeld.size)) (fun hHeld2 => ?_)
  clear hK K
  replace hHeld := hHeld2
  clear hHeld2
  clear hb54
  refine take_op (i := 4) (d := 44) (v := ?_) rfl rfl (by kernel_rfl) (by kernel_rfl) (by kernel_rfl) (fun _ _ _ h => h) (Or.inl ⟨by rfl, ?hy4u3⟩) hHeld ?rest4u3
  case hy4u3 =>
    intro w' hS'
    go_simp
    try with_reducible rfl
  simp only [List.setIfInBounds_toArray, List.set_cons_zero, List.set_cons_succ]
  refine wpAnyH_done (by kernel_rfl) ?_ _
  replace H0 := Lib.hid (below_row hHeld H0.out)
  replace H1 := Lib.hid (below_row hHeld H1.out)
  replace HA := Lib.hid (wins_below HA.out hHeld)
  replace HB := Lib.hid (wins_below HB.out hHeld)
  replace R5 := Lib.hid (below_row hHeld R5.out)
  replace R6 := Lib.hid (below_row hHeld R6.out)
  replace HV5 := Lib.hid (wins_below HV5.out hHeld)
  replace HV6 := Lib.hid (wins_below HV6.out hHeld)
  replace hb := hb.trans (hHeld.mono hb.size)
  clear hHeld
  clear H0 H1 HA HB R5 R6 HV5 HV6 HV7 HV8
  go_wp2
  go_ret
  exact ⟨rfl, hb⟩

theorem lawSameRoom_walk (wd hg : Int) (sv : Value) (xs : List Wn) (_ : RmWf wd hg xs) (wd2 hg2 : Int) (sv2 : Value) (ys : List Wn) (_ : RmWf wd2 hg2 ys) (w : World) (hx : WinsAt w sv xs) (hy : WinsAt w sv2 ys) :
    Calls Try.prog 4 #[.agg (roomC wd hg sv), .agg (roomC wd2 hg2 sv2)] w fun e w' => e = .returned (.bool true) ∧ Below w.heap.size w w' :=
  lawSameRoom_core wd hg sv xs wd2 hg2 sv2 ys _ (fun s s2 W h1 h2 => specSameRoom_any wd hg s xs wd2 hg2 s2 ys W h1 h2) (fun s s2 W h1 h2 => implSameRoom_any wd hg s xs wd2 hg2 s2 ys W h1 h2) w hx hy

set_option maxRecDepth 100000 in
theorem FnExactSameRoom_holds : Rows.FnExactSameRoomSaid :=
  OpenClaim.holds_of_wide_leaving 4 Try.f4 rfl rfl rfl rfl rfl rfl rfl ⟨rfl, rfl, rfl, rfl, rfl⟩ rfl rfl rfl rfl rfl (by kernel_rfl) Try.func4 (by kernel_rfl)
    (of_decide_eq_true (by kernel_rfl)) (by unfold Func.isWrapper; first | (rw [if_pos (by decide +kernel)]; kernel_rfl) | (rw [if_neg (by decide +kernel)]; exact ⟨rfl, rfl⟩))
    (fun os started H enc _ => leaving_of_handed (law_lifted 4 Try.f4 Rows.fnExactSameRoomSpec Rows.fnExactSameRoomRow.domain os started H enc (by kernel_rfl) Try.func4 rfl rfl
      (by rw [Try.params4]; intro t ht; simp only [List.mem_cons, List.not_mem_nil, or_false] at ht; rcases ht with rfl | rfl <;> exact ⟨by kernel_rfl, of_decide_eq_true (by kernel_rfl)⟩)
      (fun ds hl => by
        match ds, hl with
        | [d0, d1], _ => rfl)
      (ChangeSpec.witness6 (enc := enc) (C := Try.checked) false ⟨#[], #[.agg #[.int .i8 0, .int .i8 0, .slice none 0 0], .agg #[.int .i8 0, .int .i8 0, .slice none 0 0]], []⟩ 8 (by kernel_rfl) (by kernel_rfl) (by kernel_rfl) (by kernel_rfl))
      (fun W base args ds p hval hA => by
        rw [Try.params4] at hA hval
        obtain ⟨v0, vs0, d0, ds0, p0, q0, hargs, rfl, rfl, h0, r0⟩ := trodAll_cons hA
        obtain ⟨v1, vs1, d1, ds1, p1, q1, rfl, rfl, rfl, h1, r1⟩ := trodAll_cons r0
        obtain ⟨rfl, rfl, rfl⟩ := trodAll_nil r1
        obtain rfl : args = #[v0, v1] := by cases args; simp_all
        obtain ⟨wd0, hg0, sv0, ws0, rfl, rw0, hw0⟩ := open_room (hval 0 32 v0 rfl rfl) h0
        obtain ⟨wd1, hg1, sv1, ws1, rfl, rw1, hw1⟩ := open_room (hval 1 32 v1 rfl rfl) h1
        exact lawSameRoom_walk wd0 hg0 sv0 ws0 rw0 wd1 hg1 sv1 ws1 rw1 W hw0 hw1)))
#print axioms FnExactSameRoom_holds

end Go.Proofs.Ytnienahjfocalab
