/-
  PlZ, Open.
-/
import Derived.Test.YtddnfbpgldchcaaDoorMq1
import Derived.Test.YtddnfbpgldchcaaDoorMq2
import Derived.Test.YtddnfbpgldchcaaDoorSun
import Derived.Test.YtddnfbpgldchcaaDoorLaw

namespace Go.Proofs.YtddnfbpgldchcaaDoor
open Go.ChangeShapes Go.WideShapes Go.ChangeAt Go.RowKit Go.Deep Go.Joins Go.Shelf

attribute [local go_sem] run_store_floatE

theorem pdZ (W : World) (o : Obj) (cs : Array Value) : Below W.heap.size W ((W.alloc o).setRow W.heap.size cs) := below_setRow ((Below.refl _ _).alloc (Nat.le_refl _) _) (Nat.le_refl _) _

theorem laid_allP (cs vs : Array Value) (h : cs.size = vs.size) : laid cs vs 0 = vs := by
  apply Array.ext'
  simp [laid]
  rw [← h]; simp

set_option maxRecDepth 100000 in
set_option maxHeartbeats 16000000 in
theorem lawPd_core (wd hg : Int) (sv : Value) (ws : List Wn) (le : Nat) (mn : Int) (ts : List (Int × Int)) (hts : ts.length ≤ 100) (v1 : Int) (e0 e1 e2 e3 : Addr)
    (hS : ∀ (s : Value) (W : World), WinsAt W s ws → Calls Tryd.prog 5 #[.agg (roomC wd hg s), .float .f32 le, .int .i64 mn] W fun e w' => (∃ v, e = .returned (.tuple #[v, .int .i64 v1]) ∧ w'.ownsRow W.heap.size 48 2 v ts.length (tlV ts)) ∧ Below W.heap.size W w')
    (hI : ∀ (s : Value) (W : World), WinsAt W s ws → ErrsAt W e0 e1 e2 e3 → Calls Tryd.prog 7 #[.agg (roomC wd hg s), .float .f32 le, .int .i64 mn] W fun e w' => (∃ v, e = .returned (.tuple #[v, .int .i64 v1]) ∧ w'.ownsRow W.heap.size 48 2 v ts.length (tlV ts)) ∧ Below W.heap.size W w')
    (w : World) (hws : WinsAt w sv ws) (hE : ErrsAt w e0 e1 e2 e3) :
    Calls Tryd.prog 3 #[.agg (roomC wd hg sv), .float .f32 le, .int .i64 mn] w fun e w' => e = .returned (.bool true) ∧ Below w.heap.size w w' := by
  have HA := Lib.hid hws
  have HX := Lib.hid hE
  have HA0 := Lib.hid hws
  have HX0 := Lib.hid hE
  have HS := Lib.hid hS
  have HI := Lib.hid hI
  have zc : (v1 != v1) = false := by simp
  obtain ⟨a0, cap0, esv, hl1, hl2, _⟩ := hws
  unfold maxLen at hl2
  have HZ1 := Lib.hid (fun w => szRoom_any wd hg a0 ws.length cap0 1048576 (by omega) (by decide) (by decide) w)
  rw [← esv] at HZ1
  have hr1 : leftI ws.length 1048576 < 0 ∨ (0 ≤ leftI ws.length 1048576 ∧ leftI ws.length 1048576 ≤ 1048576 ∧ ws.length ≤ 1048576) := by unfold leftI; split <;> omega
  generalize leftI (ws.length : Int) 1048576 = lf1 at *
  clear hl1 hl2 hE hS hI esv
  go_enter Tryd.func3, Tryd.ntmps3
  go_upto_region 1 with (fail)
  refine abs_world (fun W => W.heap[w.heap.size]? = some (.cells (roomC wd hg sv) 25 (0, 0)) ∧ Below w.heap.size w W) ⟨heap_alloc_new _ _, (Below.refl _ _).alloc (Nat.le_refl _) _⟩ ?_
  rintro W ⟨h0, hb⟩
  have H0 := Lib.hid h0
  replace HA := Lib.hid (wins_below HA.out hb)
  replace HX := Lib.hid (errs_below HX.out hb)
  clear h0
  rcases hr1 with hlf1 | ⟨ha1, hb1', hnw⟩
  · go_wp2_with (first | (refine wpList_load_part rfl 25 _ rfl w.heap.size 0 3 rfl 25 (roomC wd hg sv) (0, 0) _ H0.out Tryd.underlying25 rfl info_roomL (room_fits _ _ _) _ (room_all _ _ _) ?_) | (go_at_call 4; refine (HZ1.out _).mono ?_; rintro e W1 ⟨rfl, hb1⟩; replace H0 := Lib.hid (below_row hb1 H0.out); replace HA := Lib.hid (wins_below HA.out hb1); replace HX := Lib.hid (errs_below HX.out hb1); replace hb := hb.trans (hb1.mono hb.size); clear hb1))
    go_ret
    exact ⟨rfl, hb⟩
  have na1 : ¬ lf1 < 0 := by omega
  go_upto_region 5 with (first | (refine wpList_load_part rfl 25 _ rfl w.heap.size 0 3 rfl 25 (roomC wd hg sv) (0, 0) _ H0.out Tryd.underlying25 rfl info_roomL (room_fits _ _ _) _ (room_all _ _ _) ?_) | (go_at_call 4; refine (HZ1.out _).mono ?_; rintro e W1 ⟨rfl, hb1⟩; replace H0 := Lib.hid (below_row hb1 H0.out); replace HA := Lib.hid (wins_below HA.out hb1); replace HX := Lib.hid (errs_below HX.out hb1); replace hb := hb.trans (hb1.mono hb.size); clear hb1))
  clear HZ1
  have hl1w := row_lt H0.out
  go_upto_region 6 with (first | (refine wpList_load_part rfl 25 _ rfl w.heap.size 0 3 rfl 25 (roomC wd hg sv) (0, 0) _ H0.out Tryd.underlying25 rfl info_roomL (room_fits _ _ _) _ (room_all _ _ _) ?_) | (go_at_call 6; refine (toRoom_any wd hg sv ws hnw _ HA.out).mono ?_; rintro e W2a ⟨⟨v3, rfl, hv⟩, hb1⟩; have O3 := Lib.hid hv; clear hv; have s2a := hb1.size; replace H0 := Lib.hid (below_row hb1 H0.out); replace HA := Lib.hid (wins_below HA.out hb1); replace HX := Lib.hid (errs_below HX.out hb1); replace hb := hb.trans (hb1.mono hb.size); clear hb1) | (go_at_call 5; refine (HS.out _ _ (ownW_at O3.out)).mono ?_; rintro e W3 ⟨⟨v4, rfl, hv⟩, hb1⟩; have Q4 := Lib.hid hv; clear hv; have s3 := hb1.size; replace H0 := Lib.hid (below_row hb1 H0.out); replace HA := Lib.hid (wins_below HA.out hb1); replace HX := Lib.hid (errs_below HX.out hb1); replace hb := hb.trans (hb1.mono hb.size); clear hb1))
  have N4 : Hid (∀ j, Value.ownBlock v4 = some j → w.heap.size < j ∧ j < W3.heap.size) := Lib.hid (fun j hj => by have := Q4.out.lt j hj; omega)
  clear O3 HS
  go_upto_region 7 with (first | (refine wpList_load_part rfl 25 _ rfl w.heap.size 0 3 rfl 25 (roomC wd hg sv) (0, 0) _ H0.out Tryd.underlying25 rfl info_roomL (room_fits _ _ _) _ (room_all _ _ _) ?_) | (go_at_call 6; refine (toRoom_any wd hg sv ws hnw _ HA.out).mono ?_; rintro e W5 ⟨⟨v6, rfl, hv⟩, hb1⟩; have O6 := Lib.hid hv; clear hv; have s5 := hb1.size; replace H0 := Lib.hid (below_row hb1 H0.out); replace HA := Lib.hid (wins_below HA.out hb1); replace HX := Lib.hid (errs_below HX.out hb1); replace Q4 := Lib.hid (owns_bE Q4.out hb1); replace hb := hb.trans (hb1.mono hb.size); clear hb1) | (refine wpList_store_part rfl 33 _ _ rfl _ 0 (roomC wd hg v6) rfl rfl 33 _ (heap_alloc_new _ _) info_room (Nat.le_refl _) (room_one _ _ O6.out) ?_; rw [laid_allP _ _ (by rfl)]))
  have N6 : Hid (∀ j, Value.ownBlock v6 = some j → W3.heap.size ≤ j ∧ j < W5.heap.size) := Lib.hid (fun j hj => ownQ_rng (ownQ_ofW O6.out) j hj)
  refine abs_world (fun X => X.heap[w.heap.size]? = some (.cells (roomC wd hg sv) 25 (0, 0)) ∧ WinsAt X sv ws ∧ ErrsAt X e0 e1 e2 e3 ∧ X.ownsRow W2a.heap.size 48 2 v4 ts.length (tlV ts) ∧ X.heap[W5.heap.size]? = some (.cells (roomC wd hg v6) 33 (0, 0)) ∧ OwnQ X W3.heap.size v6 ws ∧ Below w.heap.size w X) ⟨below_row (pdZ _ _ _) H0.out, wins_below HA.out (pdZ _ _ _), errs_below HX.out (pdZ _ _ _), owns_bE Q4.out (pdZ _ _ _), setRow_heap _ _ _ _ _ _ (heap_alloc_new _ _), ownQ_below (ownQ_ofW O6.out) (pdZ _ _ _), hb.trans ((pdZ _ _ _).mono hb.size)⟩ ?_
  clear H0 HA HX Q4 O6 hb
  generalize W5.heap.size = b6 at *
  rintro Y2 ⟨h0, ha, hx, q4, h6, q6, hb⟩
  have H0 := Lib.hid h0
  have HA := Lib.hid ha
  have HX := Lib.hid hx
  have Q4 := Lib.hid q4
  have R6 := Lib.hid h6
  have Q6 := Lib.hid q6
  have hlb6 := row_lt h6
  clear h0 ha hx q4 h6 q6
  go_upto_region 8 with (first | (refine wpList_load_part rfl 33 _ rfl b6 0 3 rfl 33 (roomC wd hg v6) (0, 0) _ R6.out Tryd.underlying33 rfl info_room (room_fits _ _ _) _ (room_all _ _ _) ?_) | (go_at_call 7; refine (HI.out _ _ (ownQ_at Q6.out) HX.out).mono ?_; rintro e W9 ⟨⟨v9, rfl, hv⟩, hb1⟩; have Q9 := Lib.hid hv; clear hv; replace H0 := Lib.hid (below_row hb1 H0.out); replace HA := Lib.hid (wins_below HA.out hb1); replace HX := Lib.hid (errs_below HX.out hb1); replace Q4 := Lib.hid (owns_bE Q4.out hb1); replace R6 := Lib.hid (below_row hb1 R6.out); replace Q6 := Lib.hid (ownQ_below Q6.out hb1); replace hb := hb.trans (hb1.mono hb.size); clear hb1))
  have N9 : Hid (∀ j, Value.ownBlock v9 = some j → Y2.heap.size ≤ j) := Lib.hid (fun j hj => (Q9.out.lt j hj).1)
  go_upto_region 10 with (go_at_call 8; refine (eqTl_same ts hts v9 v4 _ _ _ Q9.out Q4.out).mono ?_; rintro e W10 ⟨rfl, hb1⟩; replace H0 := Lib.hid (below_row hb1 H0.out); replace HA := Lib.hid (wins_below HA.out hb1); replace HX := Lib.hid (errs_below HX.out hb1); replace Q4 := Lib.hid (owns_bE Q4.out hb1); replace R6 := Lib.hid (below_row hb1 R6.out); replace Q6 := Lib.hid (ownQ_below Q6.out hb1); replace Q9 := Lib.hid (owns_bE Q9.out hb1); replace hb := hb.trans (hb1.mono hb.size); clear hb1)
  refine wp_region_held_drew (S := (fun V => Below W10.heap.size W10 V)) (by kernel_rfl) ((Below.refl _ _).drew) (fun hHeld => ?_)
  refine take_op (i := 0) (d := 49) (v := .agg (roomC wd hg v6)) rfl rfl (by kernel_rfl) (by kernel_rfl) (by kernel_rfl) (fun _ _ _ h => h) (yields_row (by rfl) 33 (.tmp 10) (by rfl) b6 0 3 (by rfl) 33 (roomC wd hg v6) (0, 0) _ (fun _ h => below_row h R6.out) Tryd.underlying33 rfl info_room (room_fits _ _ _) (roomC wd hg v6) (room_all _ _ _)) hHeld ?_
  simp only [List.setIfInBounds_toArray, List.set_cons_zero, List.set_cons_succ]
  refine take_op (i := 1) (d := 50) (v := .agg (roomC wd hg sv)) rfl rfl (by kernel_rfl) (by kernel_rfl) (by kernel_rfl) (fun _ _ _ h => h) (yields_row (by rfl) 25 (.tmp 3) (by rfl) w.heap.size 0 3 (by rfl) 25 (roomC wd hg sv) (0, 0) _ (fun _ h => below_row h H0.out) Tryd.underlying25 rfl info_roomL (room_fits _ _ _) (roomC wd hg sv) (room_all _ _ _)) hHeld ?_
  simp only [List.setIfInBounds_toArray, List.set_cons_zero, List.set_cons_succ]
  refine wpAnyH_ready (rs := [2]) (by kernel_rfl) (by simp) ?_
  refine AllReadyH.cons rfl (fun K hK => ?_) AllReadyH.nil
  go_simp
  refine (toRoom_any wd hg sv ws hnw _ (wins_below HA.out hHeld)).mono ?_
  rintro e Wa ⟨⟨v9a, rfl, hv9⟩, hb1⟩
  have HV9 := Lib.hid (ownW_at hv9)
  clear hv9
  refine hK.out _ _ (hHeld.trans (hb1.mono hHeld.size)) (fun hHeld2 => ?_)
  clear hK K
  replace hHeld := hHeld2
  clear hHeld2
  clear hb1
  refine wpAnyH_ready (rs := [3]) (by kernel_rfl) (by simp) ?_
  refine AllReadyH.cons rfl (fun K hK => ?_) AllReadyH.nil
  go_simp
  refine (eqRoom_any wd hg v6 v9a ws _ (ownQ_at (ownQ_below Q6.out hHeld)) HV9.out).mono ?_
  rintro e Wb ⟨rfl, hb1⟩
  refine hK.out _ _ (hHeld.trans (hb1.mono hHeld.size)) (fun hHeld2 => ?_)
  clear hK K
  replace hHeld := hHeld2
  clear hHeld2
  clear hb1 HV9
  refine take_op (i := 4) (d := 53) (v := ?_) rfl rfl (by kernel_rfl) (by kernel_rfl) (by kernel_rfl) (fun _ _ _ h => h) (Or.inl ⟨by rfl, ?hy4u8⟩) hHeld ?rest4u8
  case hy4u8 =>
    intro w' hS'
    go_simp
    try with_reducible rfl
  simp only [List.setIfInBounds_toArray, List.set_cons_zero, List.set_cons_succ]
  refine wpAnyH_done (by kernel_rfl) ?_ _
  replace H0 := Lib.hid (below_row hHeld H0.out)
  replace HA := Lib.hid (wins_below HA.out hHeld)
  replace HX := Lib.hid (errs_below HX.out hHeld)
  replace Q4 := Lib.hid (owns_bE Q4.out hHeld)
  replace Q9 := Lib.hid (owns_bE Q9.out hHeld)
  replace R6 := Lib.hid (below_row hHeld R6.out)
  replace Q6 := Lib.hid (ownQ_below Q6.out hHeld)
  replace hb := hb.trans (hHeld.mono hb.size)
  clear hHeld
  obtain ⟨k6, hk6⟩ : ∃ k6 : Int, k6 = 1 + 3 * (ws.length : Int) := ⟨_, rfl⟩
  have hz8 : ¬ k6 < 0 := by omega
  have hz8d : decide (k6 < 0) = false := decide_eq_false hz8
  have HMK6 : Hid (∀ (lo : Nat) (V : World), OwnQ V lo v6 ws → Calls Tryd.prog 10 #[.agg (roomC wd hg v6), .int .i64 1] V fun e w' => e = .returned (.int .i64 k6) ∧ MarkedQ w' v6 ws.length ∧ KeptBut V w' v6 ∧ (lo ≤ V.heap.size → Below lo V w')) := Lib.hid (by rw [hk6]; exact fun lo V h => markRoomQ wd hg lo v6 ws hnw V h)
  clear hk6
  go_upto_region 14 with (first | (refine wpList_load_part rfl 33 _ rfl b6 0 3 rfl 33 (roomC wd hg v6) (0, 0) _ R6.out Tryd.underlying33 rfl info_room (room_fits _ _ _) _ (room_all _ _ _) ?_) | (go_at_call 10; refine (HMK6.out _ _ Q6.out).mono ?_; rintro e W12 ⟨rfl, -, hkb, hbq⟩; replace H0 := Lib.hid (hkb _ _ _ _ H0.out (fun h => by have := N6.out _ h; omega)); replace Q4 := Lib.hid (ol_kept Q4.out hkb (fun j hj h => by have a := N4.out j hj; have b := N6.out j h; omega)); replace Q9 := Lib.hid (ol_kept Q9.out hkb (fun j hj h => by have a := N9.out j hj; have b := N6.out j h; omega)); replace hb := hb.trans ((hbq (by have := row_lt R6.out; omega)).mono (by omega)); clear hbq R6 Q6; replace HA := Lib.hid (wins_below HA0.out hb); replace HX := Lib.hid (errs_below HX0.out hb); clear hkb))
  clear HMK6
  go_upto_region 17 with (go_at_call 8; refine (eqTl_same ts hts v9 v4 _ _ _ Q9.out Q4.out).mono ?_; rintro e W13 ⟨rfl, hb1⟩; replace H0 := Lib.hid (below_row hb1 H0.out); replace HA := Lib.hid (wins_below HA.out hb1); replace HX := Lib.hid (errs_below HX.out hb1); replace Q4 := Lib.hid (owns_bE Q4.out hb1); replace Q9 := Lib.hid (owns_bE Q9.out hb1); replace hb := hb.trans (hb1.mono hb.size); clear hb1)
  have hzm : ¬ (1 + 2 * (ts.length : Int) < 0) := by omega
  have hzmd : decide (1 + 2 * (ts.length : Int) < 0) = false := decide_eq_false hzm
  have hzme : (1 + 2 * (ts.length : Int) != 1 + 2 * (ts.length : Int)) = false := by simp
  go_upto_region 18 with (go_at_call 11; refine (markT_any ts hts v9 _ _ Q9.out).mono ?_; rintro e W15 ⟨rfl, hm9, hbq, hkb⟩; replace H0 := Lib.hid (hkb _ _ _ _ H0.out (fun h => by have := N9.out _ h; omega)); replace Q4 := Lib.hid (ol_kept Q4.out hkb (fun j hj h => by have a := N4.out j hj; have b := N9.out j h; omega)); replace hb := hb.trans (hbq.mono (by omega)); clear hbq Q9; replace HA := Lib.hid (wins_below HA0.out hb); replace HX := Lib.hid (errs_below HX0.out hb); clear hkb; have M9 := Lib.hid hm9; clear hm9)
  go_upto_region 24 with (go_at_call 12; refine (heldT_any ts.length hts v9 _ _ M9.out).mono ?_; rintro e W11 ⟨rfl, hb1⟩; replace H0 := Lib.hid (below_row hb1 H0.out); replace HA := Lib.hid (wins_below HA.out hb1); replace HX := Lib.hid (errs_below HX.out hb1); replace Q4 := Lib.hid (owns_bE Q4.out hb1); replace M9 := Lib.hid (mkT_below M9.out hb1); replace hb := hb.trans (hb1.mono hb.size); clear hb1)
  go_upto_region 25 with (first | (refine wpList_load_part rfl 25 _ rfl w.heap.size 0 3 rfl 25 (roomC wd hg sv) (0, 0) _ H0.out Tryd.underlying25 rfl info_roomL (room_fits _ _ _) _ (room_all _ _ _) ?_) | (go_at_call 6; refine (toRoom_any wd hg sv ws hnw _ HA.out).mono ?_; rintro e W16a ⟨⟨v16, rfl, hv⟩, hb1⟩; have O16 := Lib.hid hv; clear hv; have s16a := hb1.size; replace H0 := Lib.hid (below_row hb1 H0.out); replace HA := Lib.hid (wins_below HA.out hb1); replace HX := Lib.hid (errs_below HX.out hb1); replace Q4 := Lib.hid (owns_bE Q4.out hb1); replace M9 := Lib.hid (mkT_below M9.out hb1); replace hb := hb.trans (hb1.mono hb.size); clear hb1) | (go_at_call 7; refine (HI.out _ _ (ownW_at O16.out) HX.out).mono ?_; rintro e W17 ⟨⟨v12, rfl, hv⟩, hb1⟩; have Q12 := Lib.hid hv; clear hv; replace H0 := Lib.hid (below_row hb1 H0.out); replace HA := Lib.hid (wins_below HA.out hb1); replace HX := Lib.hid (errs_below HX.out hb1); replace Q4 := Lib.hid (owns_bE Q4.out hb1); replace M9 := Lib.hid (mkT_below M9.out hb1); replace hb := hb.trans (hb1.mono hb.size); clear hb1))
  clear O16 HI
  go_wp2_with (first | (go_at_call 8; refine (eqTl_same ts hts v12 v4 _ _ _ Q12.out Q4.out).mono ?_; rintro e W18 ⟨rfl, hb1⟩; replace H0 := Lib.hid (below_row hb1 H0.out); replace HA := Lib.hid (wins_below HA.out hb1); replace HX := Lib.hid (errs_below HX.out hb1); replace Q4 := Lib.hid (owns_bE Q4.out hb1); replace M9 := Lib.hid (mkT_below M9.out hb1); replace Q12 := Lib.hid (owns_bE Q12.out hb1); replace hb := hb.trans (hb1.mono hb.size); clear hb1) | (go_at_call 12; refine (heldT_any ts.length hts v9 _ _ M9.out).mono ?_; rintro e W19 ⟨rfl, hb1⟩; replace H0 := Lib.hid (below_row hb1 H0.out); replace HA := Lib.hid (wins_below HA.out hb1); replace HX := Lib.hid (errs_below HX.out hb1); replace Q4 := Lib.hid (owns_bE Q4.out hb1); replace M9 := Lib.hid (mkT_below M9.out hb1); replace hb := hb.trans (hb1.mono hb.size); clear hb1))
  go_ret
  exact ⟨rfl, hb⟩

theorem FnExactPlaceDesks_walk (wd hg : Int) (sv : Value) (ws : List Wn) (rw0 : RmWf wd hg ws) (le : Nat) (_ : (Lit.float .f32 le).wf = true) (mn : Int) (w : World) (hws : WinsAt w sv ws) {e0 e1 e2 e3 : Addr} (hE : ErrsAt w e0 e1 e2 e3) :
    Calls Tryd.prog 3 #[.agg (roomC wd hg sv), .float .f32 le, .int .i64 mn] w fun e w' => e = .returned (.bool true) ∧ Below w.heap.size w w' := by
  obtain ⟨iw, ih, hwf⟩ := rw0
  cases hv : okRm wd hg ws with
  | false => exact lawPd_core wd hg sv ws le mn [] (by decide) 1 e0 e1 e2 e3 (fun s W h => sPd_n wd hg iw ih s ws hwf le mn 1 (by decide) W h (by rw [hv]; rfl)) (fun s W h k => iPd_n1 wd hg s ws le mn e0 e1 e2 e3 W h k hv) w hws hE
  | true =>
    cases hr : pdIn le mn with
    | false => exact lawPd_core wd hg sv ws le mn [] (by decide) 2 e0 e1 e2 e3 (fun s W h => sPd_n wd hg iw ih s ws hwf le mn 2 (by decide) W h (by rw [hv, hr]; rfl)) (fun s W h k => iPd_n2 wd hg s ws le mn e0 e1 e2 e3 W h k hv hr) w hws hE
    | true =>
      have ok := okRm_get hv
      obtain ⟨W, hW⟩ := Int.eq_ofNat_of_zero_le (by have := ok.w0; omega : 0 ≤ wd)
      obtain ⟨H, hH⟩ := Int.eq_ofNat_of_zero_le (by have := ok.h0; omega : 0 ≤ hg)
      have hmn : 0 ≤ mn ∧ mn ≤ 5 := by
        have hr2 := hr
        unfold pdIn at hr2
        rw [Bool.and_eq_true, Bool.and_eq_true] at hr2
        exact ⟨of_decide_eq_true hr2.1.2, of_decide_eq_true hr2.2⟩
      obtain ⟨n, hn⟩ := Int.eq_ofNat_of_zero_le hmn.1
      subst hW hH hn
      have w0 : 0 < W := by have := ok.w0; omega
      have h0 : 0 < H := by have := ok.h0; omega
      obtain ⟨g, hgd⟩ : ∃ g : Int × Int → Nat, g = fun t => litW (W : Int) (H : Int) t (fun _ => true) ws := ⟨_, rfl⟩
      obtain ⟨R, hR⟩ : ∃ R, R = putT (brT (fun t => enB le (g t)) (tks W H w0 h0 (W * H))) n [] 0 := ⟨_, rfl⟩
      have hRl : (R.getD []).length ≤ 100 := by
        cases hc : R with
        | none => exact Nat.zero_le _
        | some r =>
          have := put_len n [] 0 r (by rw [← hR]; exact hc)
          show r.length ≤ 100
          rw [this]
          simp
          omega
      exact lawPd_core (W : Int) (H : Int) sv ws le (n : Int) (R.getD []) hRl _ e0 e1 e2 e3 (fun s V h => sPd_y W H w0 h0 s ws hwf g hgd le n hr R hR V h hv) (fun s V h k => iPd_y (W : Int) (H : Int) W H rfl rfl w0 h0 s ws hwf g hgd le n hr R hR e0 e1 e2 e3 V h k hv) w hws hE

end Go.Proofs.YtddnfbpgldchcaaDoor

namespace Go.Proofs.YtddnfbpgldchcaaDoor
open Go.ChangeShapes Go.WideShapes Go.ChangeAt Go.RowKit

set_option maxRecDepth 100000 in
theorem cells_i16 : Tryd.prog.cellsOf 119 = 1 := by kernel_rfl

def rd16 : Value → Int | .int _ n => n | _ => 0

end Go.Proofs.YtddnfbpgldchcaaDoor
