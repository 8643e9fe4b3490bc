/-
  RyF, RyL.
-/
import Derived.Test.YtpcmcopfdghdgaaDoorMh3
import Derived.Test.YtpcmcopfdghdgaaDoorMh4
import Derived.Test.YtpcmcopfdghdgaaDoorMh1
import Derived.Test.YtpcmcopfdghdgaaDoorRoomE
import Derived.Test.YtpcmcopfdghdgaaDoorRoomK
import Derived.Test.YtpcmcopfdghdgaaDoorSameN
import Derived.Deep.Cut
import Derived.Deep.DeepCutAuto

namespace Go.Proofs.YtpcmcopfdghdgaaDoor
open Go.ChangeShapes Go.WideShapes Go.ChangeAt Go.RowKit Go.Deep Go.Joins

attribute [local go_sem] run_store_f

theorem laid_allY (cs vs : Array Value) (h : cs.size = vs.size) : laid cs vs 0 = vs := by
  apply Array.ext'
  simp [laid]
  rw [← h]; simp

theorem run_store_rowY {P : Program} (w : World) (g : Nat) (t : TypeId) (vs old : Array Value) (hg : w.heap[g]? = some (.cells old t (0, 0))) (hs : old.size = vs.size) (h1 : ∀ v ∈ vs, v.oneCell' = true) :
    (storeCells ⟨g, 0, none⟩ vs.toList).run P w = .ok () (w.setRow g vs) := by
  have hst := run_storeCells_at P g 0 t vs.toList 0 old w hg (by simp; omega) (fun v hv => h1 v (by simpa using hv))
  have hl := laid_allY old vs hs
  unfold laid at hl
  simp only [Nat.add_zero] at hst
  rw [hst]
  simp at hl ⊢
  rw [hl]

theorem ownQ_mono {w : World} {lo lo' : Nat} {v : Value} {ws : List Wn} (h : OwnQ w lo v ws) (hl : lo' ≤ lo) : OwnQ w lo' v ws := by
  rcases h with h | ⟨g, cap, cur, rfl, h2, h3, h4⟩
  · exact .inl h
  · exact .inr ⟨g, cap, cur, rfl, by omega, h3, h4⟩

theorem ownQ_set {w : World} {lo b : Nat} {v : Value} {ws : List Wn} (h : OwnQ w lo v ws) (hn : ∀ j, Value.ownBlock v = some j → j ≠ b) (cs : Array Value) : OwnQ (w.setRow b cs) lo v ws := by
  rcases h with h | ⟨g, cap, cur, rfl, h2, h3, h4⟩
  · exact .inl h
  · exact .inr ⟨g, cap, cur, rfl, h2, (setRow_other _ _ _ _ (hn g rfl)).trans h3, h4⟩

set_option maxRecDepth 100000 in
set_option maxHeartbeats 16000000 in
theorem lawLb_core (wd hg : Int) (sv : Value) (ws : List Wn) (hs ts : List Int) (hh : hs.length = 24) (ht : ts.length = 24) (hour north : Int) (ad ah : Int) (wq : List Wn) (hq : wq.length ≤ 12) (v1 : Int) (e0 e1 e2 e3 : Addr)
    (hS : ∀ (s : Value) (W : World) (lo : Nat), OwnW W lo s ws → Calls Tryd.prog 8 #[.agg (roomC wd hg s), .agg (sunC hs ts), .int .i64 hour, .int .i64 north] W fun e w' => (∃ v, e = .returned (.tuple #[.agg (roomC ad ah v), .int .i64 v1]) ∧ OwnQ w' W.heap.size v wq) ∧ Below W.heap.size W w')
    (hI : ∀ (s : Value) (W : World), WinsAt W s ws → ErrsAt W e0 e1 e2 e3 → Calls Tryd.prog 11 #[.agg (roomC wd hg s), .agg (sunC hs ts), .int .i64 hour, .int .i64 north] W fun e w' => (∃ v, e = .returned (.tuple #[.agg (roomC ad ah v), .int .i64 v1]) ∧ OwnQ w' W.heap.size v wq) ∧ Below W.heap.size W w')
    (w : World) (hws : WinsAt w sv ws) (hE : ErrsAt w e0 e1 e2 e3) :
    Calls Tryd.prog 3 #[.agg (roomC wd hg sv), .agg (sunC hs ts), .int .i64 hour, .int .i64 north] w fun e w' => e = .returned (.bool true) ∧ Below w.heap.size w w' := by
  have HA := Lib.hid hws
  have HX := Lib.hid hE
  have HA0 := Lib.hid hws
  have HX0 := Lib.hid hE
  have HS := Lib.hid hS
  have HI := Lib.hid hI
  have Hh := Lib.hid hh
  have Ht := Lib.hid ht
  have zc : (v1 != v1) = false := by simp
  have hsv := hws
  obtain ⟨a0, cap0, esv, hl1, hl2, _⟩ := hsv
  unfold maxLen at hl2
  have HZ := Lib.hid (fun w => szRoom_any wd hg a0 ws.length cap0 1048576 (by omega) (by decide) (by decide) w)
  rw [← esv] at HZ
  have hlr : (leftI ws.length 1048576 < 0 ∧ 1048576 < ws.length) ∨ (0 ≤ leftI ws.length 1048576 ∧ ws.length ≤ 1048576) := by unfold leftI; split <;> omega
  clear hws esv hl1 hl2 hE hS hI hh ht
  generalize leftI (ws.length : Int) 1048576 = lf at *
  go_enter Tryd.func3, Tryd.ntmps3
  go_upto_region 1 with (fail)
  refine abs_world (fun W => W.heap[w.heap.size]? = some (.cells (roomC wd hg sv) 25 (0, 0)) ∧ W.heap[w.heap.size + 1]? = some (.cells (sunC hs ts) 29 (0, 0)) ∧ Below w.heap.size w W) (two_at w (.cells (roomC wd hg sv) 25) (.cells (sunC hs ts) 29)) ?_
  rintro W ⟨h0, hs0, hb⟩
  have n0s : w.heap.size < w.heap.size + 1 := by omega
  have lbs := row_lt hs0
  generalize w.heap.size + 1 = bs at *
  have H0 := Lib.hid h0
  have RS := Lib.hid hs0
  replace HA := Lib.hid (wins_below HA.out hb)
  replace HX := Lib.hid (errs_below HX.out hb)
  clear h0 hs0 lbs
  rcases hlr with ⟨hlf, _⟩ | ⟨hlf, hlen⟩
  · go_wp2_with (first | (refine wpList_load_part rfl 25 _ rfl w.heap.size 0 3 rfl 25 (roomC wd hg sv) (0, 0) _ H0.out Tryd.underlying25 rfl info_roomL (room_fits _ _ _) _ (room_all _ _ _) ?_) | (go_at_call 7; refine (HZ.out _).mono ?_; rintro e W1 ⟨rfl, hb1⟩; replace H0 := Lib.hid (below_row hb1 H0.out); replace RS := Lib.hid (below_row hb1 RS.out); replace HA := Lib.hid (wins_below HA.out hb1); replace HX := Lib.hid (errs_below HX.out hb1); replace hb := hb.trans (hb1.mono hb.size); clear hb1))
    go_ret
    exact ⟨rfl, hb⟩
  · obtain ⟨k6, hk6⟩ : ∃ k6 : Int, k6 = 1 + 3 * (ws.length : Int) := ⟨_, rfl⟩
    obtain ⟨k7, hk7⟩ : ∃ k7 : Int, k7 = 1 + 3 * (wq.length : Int) := ⟨_, rfl⟩
    have hz6 : ¬ k6 < 0 := by omega
    have hz7 : ¬ k7 < 0 := by omega
    have hz6d : decide (k6 < 0) = false := decide_eq_false hz6
    have hz7d : decide (k7 < 0) = false := decide_eq_false hz7
    have hz7b : (k7 != k7) = false := by simp
    have HMK6 : Hid (∀ (v : Value) (lo : Nat) (V : World), OwnQ V lo v ws → Calls Tryd.prog 13 #[.agg (roomC wd hg v), .int .i64 1] V fun e w' => e = .returned (.int .i64 k6) ∧ MarkedQ w' v ws.length ∧ KeptBut V w' v ∧ (lo ≤ V.heap.size → Below lo V w')) := Lib.hid (by rw [hk6]; exact fun v lo V h => markRoomQ wd hg lo v ws hlen V h)
    have HMK7 : Hid (∀ (v : Value) (lo : Nat) (V : World), OwnQ V lo v wq → Calls Tryd.prog 13 #[.agg (roomC ad ah v), .int .i64 1] V fun e w' => e = .returned (.int .i64 k7) ∧ MarkedQ w' v wq.length ∧ KeptBut V w' v ∧ (lo ≤ V.heap.size → Below lo V w')) := Lib.hid (by rw [hk7]; exact fun v lo V h => markRoomQ ad ah lo v wq (by omega) V h)
    have HHD : Hid (∀ (v : Value) (V : World), MarkedQ V v wq.length → Calls Tryd.prog 14 #[.agg (roomC ad ah v), .int .i64 1] V fun e w' => e = .returned (.int .i64 k7) ∧ Below V.heap.size V w') := Lib.hid (by rw [hk7]; exact fun v V h => heldRoomQ ad ah v wq.length (by omega) V h)
    clear hk6 hk7
    go_upto_region 5 with (first | (refine wpList_load_part rfl 25 _ rfl w.heap.size 0 3 rfl 25 (roomC wd hg sv) (0, 0) _ H0.out Tryd.underlying25 rfl info_roomL (room_fits _ _ _) _ (room_all _ _ _) ?_) | (go_at_call 7; refine (HZ.out _).mono ?_; rintro e W1 ⟨rfl, hb1⟩; replace H0 := Lib.hid (below_row hb1 H0.out); replace RS := Lib.hid (below_row hb1 RS.out); replace HA := Lib.hid (wins_below HA.out hb1); replace HX := Lib.hid (errs_below HX.out hb1); replace hb := hb.trans (hb1.mono hb.size); clear hb1))
    have hlsz := row_lt RS.out
    go_cut [10, 11] (fun sb sc wx => ∃ (bb : Nat) (v : Value), sb = .pointer (some ⟨bb, 0, none⟩) ∧ sc = .int .i64 v1 ∧ W1.heap.size ≤ bb ∧ wx.heap[bb]? = some (.cells (roomC ad ah v) 33 (0, 0)) ∧ OwnQ wx W1.heap.size v wq ∧ (∀ j, Value.ownBlock v = some j → j ≠ bb) ∧ Below W1.heap.size W1 wx)
    case first =>
      refine wp_region_held_drew (S := (fun V => Below W1.heap.size W1 V)) (by kernel_rfl) ((Below.refl _ _).drew) (fun hHeld => ?_)
      generalize W1.drew = Y0 at *
      refine take_op (i := 0) (d := 26) (v := .agg (roomC wd hg sv)) rfl rfl (by kernel_rfl) (by kernel_rfl) (by kernel_rfl) (fun _ _ _ h => h) (yields_row (by rfl) 25 (.tmp 4) (by rfl) w.heap.size 0 3 (by rfl) 25 (roomC wd hg sv) (0, 0) _ (fun _ h => below_row h H0.out) Tryd.underlying25 rfl info_roomL (room_fits _ _ _) (roomC wd hg sv) (room_all _ _ _)) hHeld ?_
      simp only [List.setIfInBounds_toArray, List.set_cons_zero, List.set_cons_succ]
      refine take_op (i := 2) (d := 28) (v := .agg (sunC hs ts)) rfl rfl (by kernel_rfl) (by kernel_rfl) (by kernel_rfl) (fun _ _ _ h => h) (yields_row (by rfl) 29 (.tmp 5) (by rfl) bs 0 48 (by rfl) 29 (sunC hs ts) (0, 0) _ (fun _ h => below_row h RS.out) Tryd.underlying29 rfl info_sunL (sun_fits _ _ Hh.out Ht.out) (sunC hs ts) (sun_all _ _ Hh.out Ht.out)) hHeld ?_
      simp only [List.setIfInBounds_toArray, List.set_cons_zero, List.set_cons_succ]
      refine take_op (i := 4) (d := 30) (v := ?_) rfl rfl (by kernel_rfl) (by kernel_rfl) (by kernel_rfl) (fun _ _ _ h => h) (Or.inl ⟨by rfl, ?hy4y61⟩) hHeld ?rest4y61
      case hy4y61 =>
        intro w' hS'
        go_simp
        try with_reducible rfl
      simp only [List.setIfInBounds_toArray, List.set_cons_zero, List.set_cons_succ]
      refine take_op (i := 5) (d := 31) (v := ?_) rfl rfl (by kernel_rfl) (by kernel_rfl) (by kernel_rfl) (fun _ _ _ h => h) (Or.inl ⟨by rfl, ?hy5y62⟩) hHeld ?rest5y62
      case hy5y62 =>
        intro w' hS'
        go_simp
        try with_reducible rfl
      simp only [List.setIfInBounds_toArray, List.set_cons_zero, List.set_cons_succ]
      refine wpAnyH_ready (rs := [1, 10]) (by kernel_rfl) (by simp) ?_
      refine AllReadyH.cons rfl (fun K hK => ?_) (AllReadyH.cons rfl (fun K hK => ?_) AllReadyH.nil)
      · go_simp
        have hbv := hHeld.size
        refine (toRoom_any wd hg sv ws hlen _ (wins_below HA.out hHeld)).mono ?_
        rintro e Zy1 ⟨⟨v3, rfl, hv⟩, hb1⟩
        have O3 := Lib.hid hv
        clear hv
        clear hbv
        refine hK.out _ _ (hHeld.trans (hb1.mono hHeld.size)) (fun hHeld2 => ?_)
        clear hK K
        replace hHeld := hHeld2
        clear hHeld2
        clear hb1
        refine wpAnyH_ready (rs := [3, 10]) (by kernel_rfl) (by simp) ?_
        refine AllReadyH.cons rfl (fun K hK => ?_) (AllReadyH.cons rfl (fun K hK => ?_) AllReadyH.nil)
        · go_simp
          have hbv := hHeld.size
          refine (toSun_any hs ts Hh.out Ht.out _).mono ?_
          rintro e Zy2 ⟨rfl, hb1⟩
          clear hbv
          replace O3 := Lib.hid (ownW_below O3.out hb1 (Nat.le_refl _))
          refine hK.out _ _ (hHeld.trans (hb1.mono hHeld.size)) (fun hHeld2 => ?_)
          clear hK K
          replace hHeld := hHeld2
          clear hHeld2
          clear hb1
          refine wpAnyH_ready (rs := [6, 10]) (by kernel_rfl) (by simp) ?_
          refine AllReadyH.cons rfl (fun K hK => ?_) (AllReadyH.cons rfl (fun K hK => ?_) AllReadyH.nil)
          · go_simp
            have hbv := hHeld.size
            refine (HS.out _ _ _ O3.out).mono ?_
            rintro e Zy3 ⟨⟨v4, rfl, hv⟩, hb1⟩
            have Q4 := Lib.hid hv
            clear hv
            replace Q4 := Lib.hid (ownQ_mono Q4.out hbv)
            clear hbv
            replace O3 := Lib.hid (ownW_below O3.out hb1 (Nat.le_refl _))
            refine hK.out _ _ (hHeld.trans (hb1.mono hHeld.size)) (fun hHeld2 => ?_)
            clear hK K
            replace hHeld := hHeld2
            clear hHeld2
            clear hb1
            clear O3
            refine take_op (i := 7) (d := 25) (v := ?_) rfl rfl (by kernel_rfl) (by kernel_rfl) (by kernel_rfl) (fun _ _ _ h => h) (Or.inl ⟨by rfl, ?hy7y63⟩) hHeld ?rest7y63
            case hy7y63 =>
              intro w' hS'
              go_simp
              try with_reducible rfl
            simp only [List.setIfInBounds_toArray, List.set_cons_zero, List.set_cons_succ]
            refine take_op (i := 8) (d := 33) (v := ?_) rfl rfl (by kernel_rfl) (by kernel_rfl) (by kernel_rfl) (fun _ _ _ h => h) (Or.inl ⟨by rfl, ?hy8y64⟩) hHeld ?rest8y64
            case hy8y64 =>
              intro w' hS'
              go_simp
              try with_reducible rfl
            simp only [List.setIfInBounds_toArray, List.set_cons_zero, List.set_cons_succ]
            refine take_op (i := 9) (d := 34) (v := ?_) rfl rfl (by kernel_rfl) (by kernel_rfl) (by kernel_rfl) (fun _ _ _ h => h) (Or.inl ⟨by rfl, ?hy9y65⟩) hHeld ?rest9y65
            case hy9y65 =>
              intro w' hS'
              go_simp
              try with_reducible rfl
            simp only [List.setIfInBounds_toArray, List.set_cons_zero, List.set_cons_succ]
            refine wpAnyH_ready (rs := [10]) (by kernel_rfl) (by simp) ?_
            refine AllReadyH.cons rfl (fun K hK => ?_) AllReadyH.nil
            go_simp
            obtain ⟨bb, hbq⟩ : ∃ bb, bb = Zy3.heap.size := ⟨_, rfl⟩
            have NB : Hid (∀ j, Value.ownBlock v4 = some j → j ≠ bb) := Lib.hid (fun j hj => by have := ownQ_rng Q4.out j hj; omega)
            replace Q4 := Lib.hid (ownQ_below Q4.out ((Below.refl Zy3.heap.size Zy3).alloc (Nat.le_refl _) (.cells (roomC 0 0 (.slice none 0 0)) 33 (0, 0))))
            rw [← hbq]
            refine hK.out _ (Zy3.alloc (.cells (roomC 0 0 (.slice none 0 0)) 33 (0, 0))) (hHeld.alloc hHeld.size _) (fun hHeld2 => ?_)
            have HB : Hid ((Zy3.alloc (.cells (roomC 0 0 (.slice none 0 0)) 33 (0, 0))).heap[bb]? = some (.cells (roomC 0 0 (.slice none 0 0)) 33 (0, 0))) := Lib.hid (by rw [hbq]; exact heap_alloc_new _ _)
            have hbb : W1.heap.size ≤ bb := by rw [hbq]; exact hHeld.size
            clear hK K hHeld hbq
            have hHeld := hHeld2
            clear hHeld2
            generalize (Zy3.alloc (.cells (roomC 0 0 (.slice none 0 0)) 33 (0, 0))) = Zy4 at *
            have hst := run_store_rowY (P := Tryd.prog) _ bb 33 (roomC ad ah v4) _ HB.out rfl (room_oneQ _ _ Q4.out)
            refine wpAnyH_ready (rs := [11]) (by kernel_rfl) (by simp) ?_
            refine AllReadyH.cons rfl (fun K hK => ?_) AllReadyH.nil
            go_simp
            refine hK.out _ _ (below_setRow hHeld hbb _) (fun hHeld2 => ?_)
            clear hK K hst
            have HB2 := Lib.hid (setRow_heap _ _ _ (roomC ad ah v4) _ _ HB.out)
            replace Q4 := Lib.hid (ownQ_set Q4.out NB.out (roomC ad ah v4))
            clear hHeld HB
            have hHeld := hHeld2
            clear hHeld2
            refine take_op (i := 12) (d := 11) (v := ?_) rfl rfl (by kernel_rfl) (by kernel_rfl) (by kernel_rfl) (fun _ _ _ h => h) (Or.inl ⟨by rfl, ?hy12y66⟩) hHeld ?rest12y66
            case hy12y66 =>
              intro w' hS'
              go_simp
              try with_reducible rfl
            refine wpAnyH_done (by kernel_rfl) ?_ _
            go_wp2
            go_meet
            case rel => exact ⟨bb, v4, rfl, rfl, hbb, HB2.out, Q4.out, NB.out, hHeld⟩
          · go_simp
            obtain ⟨bb, hbq⟩ : ∃ bb, bb = Zy2.heap.size := ⟨_, rfl⟩
            replace O3 := Lib.hid (ownW_below O3.out ((Below.refl Zy2.heap.size Zy2).alloc (Nat.le_refl _) (.cells (roomC 0 0 (.slice none 0 0)) 33 (0, 0))) (Nat.le_refl _))
            rw [← hbq]
            refine hK.out _ (Zy2.alloc (.cells (roomC 0 0 (.slice none 0 0)) 33 (0, 0))) (hHeld.alloc hHeld.size _) (fun hHeld2 => ?_)
            have HB : Hid ((Zy2.alloc (.cells (roomC 0 0 (.slice none 0 0)) 33 (0, 0))).heap[bb]? = some (.cells (roomC 0 0 (.slice none 0 0)) 33 (0, 0))) := Lib.hid (by rw [hbq]; exact heap_alloc_new _ _)
            have hbb : W1.heap.size ≤ bb := by rw [hbq]; exact hHeld.size
            clear hK K hHeld hbq
            have hHeld := hHeld2
            clear hHeld2
            generalize (Zy2.alloc (.cells (roomC 0 0 (.slice none 0 0)) 33 (0, 0))) = Zy5 at *
            refine wpAnyH_ready (rs := [6]) (by kernel_rfl) (by simp) ?_
            refine AllReadyH.cons rfl (fun K hK => ?_) AllReadyH.nil
            go_simp
            have hbv := hHeld.size
            refine (HS.out _ _ _ O3.out).mono ?_
            rintro e Zy6 ⟨⟨v4, rfl, hv⟩, hb1⟩
            have Q4 := Lib.hid hv
            clear hv
            have NB : Hid (∀ j, Value.ownBlock v4 = some j → j ≠ bb) := Lib.hid (fun j hj => by have := ownQ_rng Q4.out j hj; have := row_lt HB.out; omega)
            replace Q4 := Lib.hid (ownQ_mono Q4.out hbv)
            clear hbv
            replace O3 := Lib.hid (ownW_below O3.out hb1 (Nat.le_refl _))
            refine hK.out _ _ (hHeld.trans (hb1.mono hHeld.size)) (fun hHeld2 => ?_)
            clear hK K
            replace hHeld := hHeld2
            clear hHeld2
            replace HB := Lib.hid (below_row hb1 HB.out)
            clear hb1
            clear O3
            refine take_op (i := 7) (d := 25) (v := ?_) rfl rfl (by kernel_rfl) (by kernel_rfl) (by kernel_rfl) (fun _ _ _ h => h) (Or.inl ⟨by rfl, ?hy7y67⟩) hHeld ?rest7y67
            case hy7y67 =>
              intro w' hS'
              go_simp
              try with_reducible rfl
            simp only [List.setIfInBounds_toArray, List.set_cons_zero, List.set_cons_succ]
            refine take_op (i := 8) (d := 33) (v := ?_) rfl rfl (by kernel_rfl) (by kernel_rfl) (by kernel_rfl) (fun _ _ _ h => h) (Or.inl ⟨by rfl, ?hy8y68⟩) hHeld ?rest8y68
            case hy8y68 =>
              intro w' hS'
              go_simp
              try with_reducible rfl
            simp only [List.setIfInBounds_toArray, List.set_cons_zero, List.set_cons_succ]
            refine take_op (i := 9) (d := 34) (v := ?_) rfl rfl (by kernel_rfl) (by kernel_rfl) (by kernel_rfl) (fun _ _ _ h => h) (Or.inl ⟨by rfl, ?hy9y69⟩) hHeld ?rest9y69
            case hy9y69 =>
              intro w' hS'
              go_simp
              try with_reducible rfl
            simp only [List.setIfInBounds_toArray, List.set_cons_zero, List.set_cons_succ]
            have hst := run_store_rowY (P := Tryd.prog) _ bb 33 (roomC ad ah v4) _ HB.out rfl (room_oneQ _ _ Q4.out)
            refine wpAnyH_ready (rs := [11]) (by kernel_rfl) (by simp) ?_
            refine AllReadyH.cons rfl (fun K hK => ?_) AllReadyH.nil
            go_simp
            refine hK.out _ _ (below_setRow hHeld hbb _) (fun hHeld2 => ?_)
            clear hK K hst
            have HB2 := Lib.hid (setRow_heap _ _ _ (roomC ad ah v4) _ _ HB.out)
            replace Q4 := Lib.hid (ownQ_set Q4.out NB.out (roomC ad ah v4))
            clear hHeld HB
            have hHeld := hHeld2
            clear hHeld2
            refine take_op (i := 12) (d := 11) (v := ?_) rfl rfl (by kernel_rfl) (by kernel_rfl) (by kernel_rfl) (fun _ _ _ h => h) (Or.inl ⟨by rfl, ?hy12y70⟩) hHeld ?rest12y70
            case hy12y70 =>
              intro w' hS'
              go_simp
              try with_reducible rfl
            refine wpAnyH_done (by kernel_rfl) ?_ _
            go_wp2
            go_meet
            case rel => exact ⟨bb, v4, rfl, rfl, hbb, HB2.out, Q4.out, NB.out, hHeld⟩
        · go_simp
          obtain ⟨bb, hbq⟩ : ∃ bb, bb = Zy1.heap.size := ⟨_, rfl⟩
          replace O3 := Lib.hid (ownW_below O3.out ((Below.refl Zy1.heap.size Zy1).alloc (Nat.le_refl _) (.cells (roomC 0 0 (.slice none 0 0)) 33 (0, 0))) (Nat.le_refl _))
          rw [← hbq]
          refine hK.out _ (Zy1.alloc (.cells (roomC 0 0 (.slice none 0 0)) 33 (0, 0))) (hHeld.alloc hHeld.size _) (fun hHeld2 => ?_)
          have HB : Hid ((Zy1.alloc (.cells (roomC 0 0 (.slice none 0 0)) 33 (0, 0))).heap[bb]? = some (.cells (roomC 0 0 (.slice none 0 0)) 33 (0, 0))) := Lib.hid (by rw [hbq]; exact heap_alloc_new _ _)
          have hbb : W1.heap.size ≤ bb := by rw [hbq]; exact hHeld.size
          clear hK K hHeld hbq
          have hHeld := hHeld2
          clear hHeld2
          generalize (Zy1.alloc (.cells (roomC 0 0 (.slice none 0 0)) 33 (0, 0))) = Zy7 at *
          refine wpAnyH_ready (rs := [3]) (by kernel_rfl) (by simp) ?_
          refine AllReadyH.cons rfl (fun K hK => ?_) AllReadyH.nil
          go_simp
          have hbv := hHeld.size
          refine (toSun_any hs ts Hh.out Ht.out _).mono ?_
          rintro e Zy8 ⟨rfl, hb1⟩
          clear hbv
          replace O3 := Lib.hid (ownW_below O3.out hb1 (Nat.le_refl _))
          refine hK.out _ _ (hHeld.trans (hb1.mono hHeld.size)) (fun hHeld2 => ?_)
          clear hK K
          replace hHeld := hHeld2
          clear hHeld2
          replace HB := Lib.hid (below_row hb1 HB.out)
          clear hb1
          refine wpAnyH_ready (rs := [6]) (by kernel_rfl) (by simp) ?_
          refine AllReadyH.cons rfl (fun K hK => ?_) AllReadyH.nil
          go_simp
          have hbv := hHeld.size
          refine (HS.out _ _ _ O3.out).mono ?_
          rintro e Zy9 ⟨⟨v4, rfl, hv⟩, hb1⟩
          have Q4 := Lib.hid hv
          clear hv
          have NB : Hid (∀ j, Value.ownBlock v4 = some j → j ≠ bb) := Lib.hid (fun j hj => by have := ownQ_rng Q4.out j hj; have := row_lt HB.out; omega)
          replace Q4 := Lib.hid (ownQ_mono Q4.out hbv)
          clear hbv
          replace O3 := Lib.hid (ownW_below O3.out hb1 (Nat.le_refl _))
          refine hK.out _ _ (hHeld.trans (hb1.mono hHeld.size)) (fun hHeld2 => ?_)
          clear hK K
          replace hHeld := hHeld2
          clear hHeld2
          replace HB := Lib.hid (below_row hb1 HB.out)
          clear hb1
          clear O3
          refine take_op (i := 7) (d := 25) (v := ?_) rfl rfl (by kernel_rfl) (by kernel_rfl) (by kernel_rfl) (fun _ _ _ h => h) (Or.inl ⟨by rfl, ?hy7y71⟩) hHeld ?rest7y71
          case hy7y71 =>
            intro w' hS'
            go_simp
            try with_reducible rfl
          simp only [List.setIfInBounds_toArray, List.set_cons_zero, List.set_cons_succ]
          refine take_op (i := 8) (d := 33) (v := ?_) rfl rfl (by kernel_rfl) (by kernel_rfl) (by kernel_rfl) (fun _ _ _ h => h) (Or.inl ⟨by rfl, ?hy8y72⟩) hHeld ?rest8y72
          case hy8y72 =>
            intro w' hS'
            go_simp
            try with_reducible rfl
          simp only [List.setIfInBounds_toArray, List.set_cons_zero, List.set_cons_succ]
          refine take_op (i := 9) (d := 34) (v := ?_) rfl rfl (by kernel_rfl) (by kernel_rfl) (by kernel_rfl) (fun _ _ _ h => h) (Or.inl ⟨by rfl, ?hy9y73⟩) hHeld ?rest9y73
          case hy9y73 =>
            intro w' hS'
            go_simp
            try with_reducible rfl
          simp only [List.setIfInBounds_toArray, List.set_cons_zero, List.set_cons_succ]
          have hst := run_store_rowY (P := Tryd.prog) _ bb 33 (roomC ad ah v4) _ HB.out rfl (room_oneQ _ _ Q4.out)
          refine wpAnyH_ready (rs := [11]) (by kernel_rfl) (by simp) ?_
          refine AllReadyH.cons rfl (fun K hK => ?_) AllReadyH.nil
          go_simp
          refine hK.out _ _ (below_setRow hHeld hbb _) (fun hHeld2 => ?_)
          clear hK K hst
          have HB2 := Lib.hid (setRow_heap _ _ _ (roomC ad ah v4) _ _ HB.out)
          replace Q4 := Lib.hid (ownQ_set Q4.out NB.out (roomC ad ah v4))
          clear hHeld HB
          have hHeld := hHeld2
          clear hHeld2
          refine take_op (i := 12) (d := 11) (v := ?_) rfl rfl (by kernel_rfl) (by kernel_rfl) (by kernel_rfl) (fun _ _ _ h => h) (Or.inl ⟨by rfl, ?hy12y74⟩) hHeld ?rest12y74
          case hy12y74 =>
            intro w' hS'
            go_simp
            try with_reducible rfl
          refine wpAnyH_done (by kernel_rfl) ?_ _
          go_wp2
          go_meet
          case rel => exact ⟨bb, v4, rfl, rfl, hbb, HB2.out, Q4.out, NB.out, hHeld⟩
      · go_simp
        obtain ⟨bb, hbq⟩ : ∃ bb, bb = Y0.heap.size := ⟨_, rfl⟩
        rw [← hbq]
        refine hK.out _ (Y0.alloc (.cells (roomC 0 0 (.slice none 0 0)) 33 (0, 0))) (hHeld.alloc hHeld.size _) (fun hHeld2 => ?_)
        have HB : Hid ((Y0.alloc (.cells (roomC 0 0 (.slice none 0 0)) 33 (0, 0))).heap[bb]? = some (.cells (roomC 0 0 (.slice none 0 0)) 33 (0, 0))) := Lib.hid (by rw [hbq]; exact heap_alloc_new _ _)
        have hbb : W1.heap.size ≤ bb := by rw [hbq]; exact hHeld.size
        clear hK K hHeld hbq
        have hHeld := hHeld2
        clear hHeld2
        generalize (Y0.alloc (.cells (roomC 0 0 (.slice none 0 0)) 33 (0, 0))) = Zy10 at *
        refine wpAnyH_ready (rs := [1]) (by kernel_rfl) (by simp) ?_
        refine AllReadyH.cons rfl (fun K hK => ?_) AllReadyH.nil
        go_simp
        have hbv := hHeld.size
        refine (toRoom_any wd hg sv ws hlen _ (wins_below HA.out hHeld)).mono ?_
        rintro e Zy11 ⟨⟨v3, rfl, hv⟩, hb1⟩
        have O3 := Lib.hid hv
        clear hv
        clear hbv
        refine hK.out _ _ (hHeld.trans (hb1.mono hHeld.size)) (fun hHeld2 => ?_)
        clear hK K
        replace hHeld := hHeld2
        clear hHeld2
        replace HB := Lib.hid (below_row hb1 HB.out)
        clear hb1
        refine wpAnyH_ready (rs := [3]) (by kernel_rfl) (by simp) ?_
        refine AllReadyH.cons rfl (fun K hK => ?_) AllReadyH.nil
        go_simp
        have hbv := hHeld.size
        refine (toSun_any hs ts Hh.out Ht.out _).mono ?_
        rintro e Zy12 ⟨rfl, hb1⟩
        clear hbv
        replace O3 := Lib.hid (ownW_below O3.out hb1 (Nat.le_refl _))
        refine hK.out _ _ (hHeld.trans (hb1.mono hHeld.size)) (fun hHeld2 => ?_)
        clear hK K
        replace hHeld := hHeld2
        clear hHeld2
        replace HB := Lib.hid (below_row hb1 HB.out)
        clear hb1
        refine wpAnyH_ready (rs := [6]) (by kernel_rfl) (by simp) ?_
        refine AllReadyH.cons rfl (fun K hK => ?_) AllReadyH.nil
        go_simp
        have hbv := hHeld.size
        refine (HS.out _ _ _ O3.out).mono ?_
        rintro e Zy13 ⟨⟨v4, rfl, hv⟩, hb1⟩
        have Q4 := Lib.hid hv
        clear hv
        have NB : Hid (∀ j, Value.ownBlock v4 = some j → j ≠ bb) := Lib.hid (fun j hj => by have := ownQ_rng Q4.out j hj; have := row_lt HB.out; omega)
        replace Q4 := Lib.hid (ownQ_mono Q4.out hbv)
        clear hbv
        replace O3 := Lib.hid (ownW_below O3.out hb1 (Nat.le_refl _))
        refine hK.out _ _ (hHeld.trans (hb1.mono hHeld.size)) (fun hHeld2 => ?_)
        clear hK K
        replace hHeld := hHeld2
        clear hHeld2
        replace HB := Lib.hid (below_row hb1 HB.out)
        clear hb1
        clear O3
        refine take_op (i := 7) (d := 25) (v := ?_) rfl rfl (by kernel_rfl) (by kernel_rfl) (by kernel_rfl) (fun _ _ _ h => h) (Or.inl ⟨by rfl, ?hy7y75⟩) hHeld ?rest7y75
        case hy7y75 =>
          intro w' hS'
          go_simp
          try with_reducible rfl
        simp only [List.setIfInBounds_toArray, List.set_cons_zero, List.set_cons_succ]
        refine take_op (i := 8) (d := 33) (v := ?_) rfl rfl (by kernel_rfl) (by kernel_rfl) (by kernel_rfl) (fun _ _ _ h => h) (Or.inl ⟨by rfl, ?hy8y76⟩) hHeld ?rest8y76
        case hy8y76 =>
          intro w' hS'
          go_simp
          try with_reducible rfl
        simp only [List.setIfInBounds_toArray, List.set_cons_zero, List.set_cons_succ]
        refine take_op (i := 9) (d := 34) (v := ?_) rfl rfl (by kernel_rfl) (by kernel_rfl) (by kernel_rfl) (fun _ _ _ h => h) (Or.inl ⟨by rfl, ?hy9y77⟩) hHeld ?rest9y77
        case hy9y77 =>
          intro w' hS'
          go_simp
          try with_reducible rfl
        simp only [List.setIfInBounds_toArray, List.set_cons_zero, List.set_cons_succ]
        have hst := run_store_rowY (P := Tryd.prog) _ bb 33 (roomC ad ah v4) _ HB.out rfl (room_oneQ _ _ Q4.out)
        refine wpAnyH_ready (rs := [11]) (by kernel_rfl) (by simp) ?_
        refine AllReadyH.cons rfl (fun K hK => ?_) AllReadyH.nil
        go_simp
        refine hK.out _ _ (below_setRow hHeld hbb _) (fun hHeld2 => ?_)
        clear hK K hst
        have HB2 := Lib.hid (setRow_heap _ _ _ (roomC ad ah v4) _ _ HB.out)
        replace Q4 := Lib.hid (ownQ_set Q4.out NB.out (roomC ad ah v4))
        clear hHeld HB
        have hHeld := hHeld2
        clear hHeld2
        refine take_op (i := 12) (d := 11) (v := ?_) rfl rfl (by kernel_rfl) (by kernel_rfl) (by kernel_rfl) (fun _ _ _ h => h) (Or.inl ⟨by rfl, ?hy12y78⟩) hHeld ?rest12y78
        case hy12y78 =>
          intro w' hS'
          go_simp
          try with_reducible rfl
        refine wpAnyH_done (by kernel_rfl) ?_ _
        go_wp2
        go_meet
        case rel => exact ⟨bb, v4, rfl, rfl, hbb, HB2.out, Q4.out, NB.out, hHeld⟩
    case rest =>
      obtain ⟨b4, v4, rfl, rfl, hl_b4, hr_b4, hq_b4, hn_b4, hcb⟩ := hcut
      have R4 := Lib.hid hr_b4
      have Q4 := Lib.hid hq_b4
      have hsz_b4 := hcb.size
      replace H0 := Lib.hid (below_row hcb H0.out)
      replace RS := Lib.hid (below_row hcb RS.out)
      replace HA := Lib.hid (wins_below HA.out hcb)
      replace HX := Lib.hid (errs_below HX.out hcb)
      replace hb := hb.trans (hcb.mono hb.size)
      clear hcb hr_b4 hq_b4
      have hlb4 := row_lt R4.out
      have N4 : Hid (∀ j, Value.ownBlock v4 = some j → bs < j ∧ j ≠ b4 ∧ j < wc.heap.size) := Lib.hid (fun j hj => by have := ownQ_rng Q4.out j hj; have := hn_b4 j hj; omega)
      clear HZ HS
      obtain ⟨lo4, hlo4⟩ : ∃ lo4, lo4 = W1.heap.size := ⟨_, rfl⟩
      rw [← hlo4] at Q4 hl_b4 hsz_b4 hlsz
      go_upto_region 7 with (first | (refine wpList_load_part rfl 25 _ rfl w.heap.size 0 3 rfl 25 (roomC wd hg sv) (0, 0) _ H0.out Tryd.underlying25 rfl info_roomL (room_fits _ _ _) _ (room_all _ _ _) ?_) | (go_at_call 9; have hl0c := row_lt H0.out; have hbz := hb.size; have hl4c := row_lt R4.out; refine (toRoom_any wd hg sv ws hlen _ HA.out).mono ?_; rintro e W2 ⟨⟨v6, rfl, hv⟩, hb1⟩; have hsz6 := hb1.size; have O6 := Lib.hid hv; clear hv; replace H0 := Lib.hid (below_row hb1 H0.out); replace RS := Lib.hid (below_row hb1 RS.out); replace HA := Lib.hid (wins_below HA.out hb1); replace HX := Lib.hid (errs_below HX.out hb1); replace R4 := Lib.hid (below_row hb1 R4.out); replace Q4 := Lib.hid (ownQ_below Q4.out hb1); replace hb := hb.trans (hb1.mono hb.size); clear hb1) | (refine wpList_store_part rfl 33 _ _ rfl _ 0 (roomC wd hg v6) rfl rfl 33 _ (heap_alloc_new _ _) info_room (Nat.le_refl _) (room_oneQ _ _ (ownQ_ofW O6.out)) ?_; rw [laid_allr _ _ (by rfl)]))
      have N6 : Hid (∀ j, Value.ownBlock v6 = some j → wc.heap.size ≤ j ∧ j < W2.heap.size) := Lib.hid (fun j hj => ownQ_rng (ownQ_ofW O6.out) j hj)
      refine abs_world (fun X => X.heap[w.heap.size]? = some (.cells (roomC wd hg sv) 25 (0, 0)) ∧ X.heap[bs]? = some (.cells (sunC hs ts) 29 (0, 0)) ∧ WinsAt X sv ws ∧ ErrsAt X e0 e1 e2 e3 ∧ X.heap[b4]? = some (.cells (roomC ad ah v4) 33 (0, 0)) ∧ OwnQ X lo4 v4 wq ∧ X.heap[W2.heap.size]? = some (.cells (roomC wd hg v6) 33 (0, 0)) ∧ OwnQ X wc.heap.size v6 ws ∧ Below w.heap.size w X) ⟨below_row (rwZ _ _ _) H0.out, below_row (rwZ _ _ _) RS.out, wins_below HA.out (rwZ _ _ _), errs_below HX.out (rwZ _ _ _), below_row (rwZ _ _ _) R4.out, ownQ_below Q4.out (rwZ _ _ _), setRow_heap _ _ _ _ _ _ (heap_alloc_new _ _), ownQ_below (ownQ_ofW O6.out) (rwZ _ _ _), hb.trans ((rwZ _ _ _).mono hb.size)⟩ ?_
      clear H0 RS HA HX R4 Q4 O6 hl0c hbz hl4c hb
      generalize W2.heap.size = b6 at *
      generalize wc.heap.size = lo6 at *
      rintro Y2 ⟨h0, hs0, ha, hx, h4, q4, h6, q6, hb⟩
      have H0 := Lib.hid h0
      have RS := Lib.hid hs0
      have HA := Lib.hid ha
      have HX := Lib.hid hx
      have R4 := Lib.hid h4
      have Q4 := Lib.hid q4
      have R6 := Lib.hid h6
      have Q6 := Lib.hid q6
      clear h0 hs0 ha hx h4 q4 h6 q6
      have hlb6 := row_lt R6.out
      clear hn_b4 hlo4
      dsimp only [Act.put]
      go_cut [13, 14] (fun sb sc wx => ∃ (bb : Nat) (v : Value), sb = .pointer (some ⟨bb, 0, none⟩) ∧ sc = .int .i64 v1 ∧ Y2.heap.size ≤ bb ∧ wx.heap[bb]? = some (.cells (roomC ad ah v) 33 (0, 0)) ∧ OwnQ wx Y2.heap.size v wq ∧ (∀ j, Value.ownBlock v = some j → j ≠ bb) ∧ Below Y2.heap.size Y2 wx)
      case first =>
        refine wp_region_held_drew (S := (fun V => Below Y2.heap.size Y2 V)) (by kernel_rfl) ((Below.refl _ _).drew) (fun hHeld => ?_)
        generalize Y2.drew = Y0 at *
        refine take_op (i := 0) (d := 38) (v := .agg (roomC wd hg v6)) rfl rfl (by kernel_rfl) (by kernel_rfl) (by kernel_rfl) (fun _ _ _ h => h) (yields_row (by rfl) 33 (.tmp 12) (by rfl) b6 0 3 (by rfl) 33 (roomC wd hg v6) (0, 0) _ (fun _ h => below_row h R6.out) Tryd.underlying33 rfl info_room (room_fits _ _ _) (roomC wd hg v6) (room_all _ _ _)) hHeld ?_
        simp only [List.setIfInBounds_toArray, List.set_cons_zero, List.set_cons_succ]
        refine take_op (i := 1) (d := 39) (v := .agg (sunC hs ts)) rfl rfl (by kernel_rfl) (by kernel_rfl) (by kernel_rfl) (fun _ _ _ h => h) (yields_row (by rfl) 29 (.tmp 5) (by rfl) bs 0 48 (by rfl) 29 (sunC hs ts) (0, 0) _ (fun _ h => below_row h RS.out) Tryd.underlying29 rfl info_sunL (sun_fits _ _ Hh.out Ht.out) (sunC hs ts) (sun_all _ _ Hh.out Ht.out)) hHeld ?_
        simp only [List.setIfInBounds_toArray, List.set_cons_zero, List.set_cons_succ]
        refine take_op (i := 3) (d := 41) (v := ?_) rfl rfl (by kernel_rfl) (by kernel_rfl) (by kernel_rfl) (fun _ _ _ h => h) (Or.inl ⟨by rfl, ?hy3y79⟩) hHeld ?rest3y79
        case hy3y79 =>
          intro w' hS'
          go_simp
          try with_reducible rfl
        simp only [List.setIfInBounds_toArray, List.set_cons_zero, List.set_cons_succ]
        refine take_op (i := 4) (d := 42) (v := ?_) rfl rfl (by kernel_rfl) (by kernel_rfl) (by kernel_rfl) (fun _ _ _ h => h) (Or.inl ⟨by rfl, ?hy4y80⟩) hHeld ?rest4y80
        case hy4y80 =>
          intro w' hS'
          go_simp
          try with_reducible rfl
        simp only [List.setIfInBounds_toArray, List.set_cons_zero, List.set_cons_succ]
        refine wpAnyH_ready (rs := [2, 9]) (by kernel_rfl) (by simp) ?_
        refine AllReadyH.cons rfl (fun K hK => ?_) (AllReadyH.cons rfl (fun K hK => ?_) AllReadyH.nil)
        · go_simp
          have hbv := hHeld.size
          refine (toSun_any hs ts Hh.out Ht.out _).mono ?_
          rintro e Zy1 ⟨rfl, hb1⟩
          clear hbv
          refine hK.out _ _ (hHeld.trans (hb1.mono hHeld.size)) (fun hHeld2 => ?_)
          clear hK K
          replace hHeld := hHeld2
          clear hHeld2
          clear hb1
          refine wpAnyH_ready (rs := [5, 9]) (by kernel_rfl) (by simp) ?_
          refine AllReadyH.cons rfl (fun K hK => ?_) (AllReadyH.cons rfl (fun K hK => ?_) AllReadyH.nil)
          · go_simp
            have hbv := hHeld.size
            refine (HI.out _ _ (ownQ_at (ownQ_below Q6.out hHeld)) (errs_below HX.out hHeld)).mono ?_
            rintro e Zy2 ⟨⟨v7, rfl, hv⟩, hb1⟩
            have Q7 := Lib.hid hv
            clear hv
            replace Q7 := Lib.hid (ownQ_mono Q7.out hbv)
            clear hbv
            refine hK.out _ _ (hHeld.trans (hb1.mono hHeld.size)) (fun hHeld2 => ?_)
            clear hK K
            replace hHeld := hHeld2
            clear hHeld2
            clear hb1
            refine take_op (i := 6) (d := 37) (v := ?_) rfl rfl (by kernel_rfl) (by kernel_rfl) (by kernel_rfl) (fun _ _ _ h => h) (Or.inl ⟨by rfl, ?hy6y81⟩) hHeld ?rest6y81
            case hy6y81 =>
              intro w' hS'
              go_simp
              try with_reducible rfl
            simp only [List.setIfInBounds_toArray, List.set_cons_zero, List.set_cons_succ]
            refine take_op (i := 7) (d := 44) (v := ?_) rfl rfl (by kernel_rfl) (by kernel_rfl) (by kernel_rfl) (fun _ _ _ h => h) (Or.inl ⟨by rfl, ?hy7y82⟩) hHeld ?rest7y82
            case hy7y82 =>
              intro w' hS'
              go_simp
              try with_reducible rfl
            simp only [List.setIfInBounds_toArray, List.set_cons_zero, List.set_cons_succ]
            refine take_op (i := 8) (d := 45) (v := ?_) rfl rfl (by kernel_rfl) (by kernel_rfl) (by kernel_rfl) (fun _ _ _ h => h) (Or.inl ⟨by rfl, ?hy8y83⟩) hHeld ?rest8y83
            case hy8y83 =>
              intro w' hS'
              go_simp
              try with_reducible rfl
            simp only [List.setIfInBounds_toArray, List.set_cons_zero, List.set_cons_succ]
            refine wpAnyH_ready (rs := [9]) (by kernel_rfl) (by simp) ?_
            refine AllReadyH.cons rfl (fun K hK => ?_) AllReadyH.nil
            go_simp
            obtain ⟨bb, hbq⟩ : ∃ bb, bb = Zy2.heap.size := ⟨_, rfl⟩
            have NB : Hid (∀ j, Value.ownBlock v7 = some j → j ≠ bb) := Lib.hid (fun j hj => by have := ownQ_rng Q7.out j hj; omega)
            replace Q7 := Lib.hid (ownQ_below Q7.out ((Below.refl Zy2.heap.size Zy2).alloc (Nat.le_refl _) (.cells (roomC 0 0 (.slice none 0 0)) 33 (0, 0))))
            rw [← hbq]
            refine hK.out _ (Zy2.alloc (.cells (roomC 0 0 (.slice none 0 0)) 33 (0, 0))) (hHeld.alloc hHeld.size _) (fun hHeld2 => ?_)
            have HB : Hid ((Zy2.alloc (.cells (roomC 0 0 (.slice none 0 0)) 33 (0, 0))).heap[bb]? = some (.cells (roomC 0 0 (.slice none 0 0)) 33 (0, 0))) := Lib.hid (by rw [hbq]; exact heap_alloc_new _ _)
            have hbb : Y2.heap.size ≤ bb := by rw [hbq]; exact hHeld.size
            clear hK K hHeld hbq
            have hHeld := hHeld2
            clear hHeld2
            generalize (Zy2.alloc (.cells (roomC 0 0 (.slice none 0 0)) 33 (0, 0))) = Zy3 at *
            have hst := run_store_rowY (P := Tryd.prog) _ bb 33 (roomC ad ah v7) _ HB.out rfl (room_oneQ _ _ Q7.out)
            refine wpAnyH_ready (rs := [10]) (by kernel_rfl) (by simp) ?_
            refine AllReadyH.cons rfl (fun K hK => ?_) AllReadyH.nil
            go_simp
            refine hK.out _ _ (below_setRow hHeld hbb _) (fun hHeld2 => ?_)
            clear hK K hst
            have HB2 := Lib.hid (setRow_heap _ _ _ (roomC ad ah v7) _ _ HB.out)
            replace Q7 := Lib.hid (ownQ_set Q7.out NB.out (roomC ad ah v7))
            clear hHeld HB
            have hHeld := hHeld2
            clear hHeld2
            refine take_op (i := 11) (d := 14) (v := ?_) rfl rfl (by kernel_rfl) (by kernel_rfl) (by kernel_rfl) (fun _ _ _ h => h) (Or.inl ⟨by rfl, ?hy11y84⟩) hHeld ?rest11y84
            case hy11y84 =>
              intro w' hS'
              go_simp
              try with_reducible rfl
            refine wpAnyH_done (by kernel_rfl) ?_ _
            go_wp2
            go_meet
            case rel => exact ⟨bb, v7, rfl, rfl, hbb, HB2.out, Q7.out, NB.out, hHeld⟩
          · go_simp
            obtain ⟨bb, hbq⟩ : ∃ bb, bb = Zy1.heap.size := ⟨_, rfl⟩
            rw [← hbq]
            refine hK.out _ (Zy1.alloc (.cells (roomC 0 0 (.slice none 0 0)) 33 (0, 0))) (hHeld.alloc hHeld.size _) (fun hHeld2 => ?_)
            have HB : Hid ((Zy1.alloc (.cells (roomC 0 0 (.slice none 0 0)) 33 (0, 0))).heap[bb]? = some (.cells (roomC 0 0 (.slice none 0 0)) 33 (0, 0))) := Lib.hid (by rw [hbq]; exact heap_alloc_new _ _)
            have hbb : Y2.heap.size ≤ bb := by rw [hbq]; exact hHeld.size
            clear hK K hHeld hbq
            have hHeld := hHeld2
            clear hHeld2
            generalize (Zy1.alloc (.cells (roomC 0 0 (.slice none 0 0)) 33 (0, 0))) = Zy4 at *
            refine wpAnyH_ready (rs := [5]) (by kernel_rfl) (by simp) ?_
            refine AllReadyH.cons rfl (fun K hK => ?_) AllReadyH.nil
            go_simp
            have hbv := hHeld.size
            refine (HI.out _ _ (ownQ_at (ownQ_below Q6.out hHeld)) (errs_below HX.out hHeld)).mono ?_
            rintro e Zy5 ⟨⟨v7, rfl, hv⟩, hb1⟩
            have Q7 := Lib.hid hv
            clear hv
            have NB : Hid (∀ j, Value.ownBlock v7 = some j → j ≠ bb) := Lib.hid (fun j hj => by have := ownQ_rng Q7.out j hj; have := row_lt HB.out; omega)
            replace Q7 := Lib.hid (ownQ_mono Q7.out hbv)
            clear hbv
            refine hK.out _ _ (hHeld.trans (hb1.mono hHeld.size)) (fun hHeld2 => ?_)
            clear hK K
            replace hHeld := hHeld2
            clear hHeld2
            replace HB := Lib.hid (below_row hb1 HB.out)
            clear hb1
            refine take_op (i := 6) (d := 37) (v := ?_) rfl rfl (by kernel_rfl) (by kernel_rfl) (by kernel_rfl) (fun _ _ _ h => h) (Or.inl ⟨by rfl, ?hy6y85⟩) hHeld ?rest6y85
            case hy6y85 =>
              intro w' hS'
              go_simp
              try with_reducible rfl
            simp only [List.setIfInBounds_toArray, List.set_cons_zero, List.set_cons_succ]
            refine take_op (i := 7) (d := 44) (v := ?_) rfl rfl (by kernel_rfl) (by kernel_rfl) (by kernel_rfl) (fun _ _ _ h => h) (Or.inl ⟨by rfl, ?hy7y86⟩) hHeld ?rest7y86
            case hy7y86 =>
              intro w' hS'
              go_simp
              try with_reducible rfl
            simp only [List.setIfInBounds_toArray, List.set_cons_zero, List.set_cons_succ]
            refine take_op (i := 8) (d := 45) (v := ?_) rfl rfl (by kernel_rfl) (by kernel_rfl) (by kernel_rfl) (fun _ _ _ h => h) (Or.inl ⟨by rfl, ?hy8y87⟩) hHeld ?rest8y87
            case hy8y87 =>
              intro w' hS'
              go_simp
              try with_reducible rfl
            simp only [List.setIfInBounds_toArray, List.set_cons_zero, List.set_cons_succ]
            have hst := run_store_rowY (P := Tryd.prog) _ bb 33 (roomC ad ah v7) _ HB.out rfl (room_oneQ _ _ Q7.out)
            refine wpAnyH_ready (rs := [10]) (by kernel_rfl) (by simp) ?_
            refine AllReadyH.cons rfl (fun K hK => ?_) AllReadyH.nil
            go_simp
            refine hK.out _ _ (below_setRow hHeld hbb _) (fun hHeld2 => ?_)
            clear hK K hst
            have HB2 := Lib.hid (setRow_heap _ _ _ (roomC ad ah v7) _ _ HB.out)
            replace Q7 := Lib.hid (ownQ_set Q7.out NB.out (roomC ad ah v7))
            clear hHeld HB
            have hHeld := hHeld2
            clear hHeld2
            refine take_op (i := 11) (d := 14) (v := ?_) rfl rfl (by kernel_rfl) (by kernel_rfl) (by kernel_rfl) (fun _ _ _ h => h) (Or.inl ⟨by rfl, ?hy11y88⟩) hHeld ?rest11y88
            case hy11y88 =>
              intro w' hS'
              go_simp
              try with_reducible rfl
            refine wpAnyH_done (by kernel_rfl) ?_ _
            go_wp2
            go_meet
            case rel => exact ⟨bb, v7, rfl, rfl, hbb, HB2.out, Q7.out, NB.out, hHeld⟩
        · go_simp
          obtain ⟨bb, hbq⟩ : ∃ bb, bb = Y0.heap.size := ⟨_, rfl⟩
          rw [← hbq]
          refine hK.out _ (Y0.alloc (.cells (roomC 0 0 (.slice none 0 0)) 33 (0, 0))) (hHeld.alloc hHeld.size _) (fun hHeld2 => ?_)
          have HB : Hid ((Y0.alloc (.cells (roomC 0 0 (.slice none 0 0)) 33 (0, 0))).heap[bb]? = some (.cells (roomC 0 0 (.slice none 0 0)) 33 (0, 0))) := Lib.hid (by rw [hbq]; exact heap_alloc_new _ _)
          have hbb : Y2.heap.size ≤ bb := by rw [hbq]; exact hHeld.size
          clear hK K hHeld hbq
          have hHeld := hHeld2
          clear hHeld2
          generalize (Y0.alloc (.cells (roomC 0 0 (.slice none 0 0)) 33 (0, 0))) = Zy6 at *
          refine wpAnyH_ready (rs := [2]) (by kernel_rfl) (by simp) ?_
          refine AllReadyH.cons rfl (fun K hK => ?_) AllReadyH.nil
          go_simp
          have hbv := hHeld.size
          refine (toSun_any hs ts Hh.out Ht.out _).mono ?_
          rintro e Zy7 ⟨rfl, hb1⟩
          clear hbv
          refine hK.out _ _ (hHeld.trans (hb1.mono hHeld.size)) (fun hHeld2 => ?_)
          clear hK K
          replace hHeld := hHeld2
          clear hHeld2
          replace HB := Lib.hid (below_row hb1 HB.out)
          clear hb1
          refine wpAnyH_ready (rs := [5]) (by kernel_rfl) (by simp) ?_
          refine AllReadyH.cons rfl (fun K hK => ?_) AllReadyH.nil
          go_simp
          have hbv := hHeld.size
          refine (HI.out _ _ (ownQ_at (ownQ_below Q6.out hHeld)) (errs_below HX.out hHeld)).mono ?_
          rintro e Zy8 ⟨⟨v7, rfl, hv⟩, hb1⟩
          have Q7 := Lib.hid hv
          clear hv
          have NB : Hid (∀ j, Value.ownBlock v7 = some j → j ≠ bb) := Lib.hid (fun j hj => by have := ownQ_rng Q7.out j hj; have := row_lt HB.out; omega)
          replace Q7 := Lib.hid (ownQ_mono Q7.out hbv)
          clear hbv
          refine hK.out _ _ (hHeld.trans (hb1.mono hHeld.size)) (fun hHeld2 => ?_)
          clear hK K
          replace hHeld := hHeld2
          clear hHeld2
          replace HB := Lib.hid (below_row hb1 HB.out)
          clear hb1
          refine take_op (i := 6) (d := 37) (v := ?_) rfl rfl (by kernel_rfl) (by kernel_rfl) (by kernel_rfl) (fun _ _ _ h => h) (Or.inl ⟨by rfl, ?hy6y89⟩) hHeld ?rest6y89
          case hy6y89 =>
            intro w' hS'
            go_simp
            try with_reducible rfl
          simp only [List.setIfInBounds_toArray, List.set_cons_zero, List.set_cons_succ]
          refine take_op (i := 7) (d := 44) (v := ?_) rfl rfl (by kernel_rfl) (by kernel_rfl) (by kernel_rfl) (fun _ _ _ h => h) (Or.inl ⟨by rfl, ?hy7y90⟩) hHeld ?rest7y90
          case hy7y90 =>
            intro w' hS'
            go_simp
            try with_reducible rfl
          simp only [List.setIfInBounds_toArray, List.set_cons_zero, List.set_cons_succ]
          refine take_op (i := 8) (d := 45) (v := ?_) rfl rfl (by kernel_rfl) (by kernel_rfl) (by kernel_rfl) (fun _ _ _ h => h) (Or.inl ⟨by rfl, ?hy8y91⟩) hHeld ?rest8y91
          case hy8y91 =>
            intro w' hS'
            go_simp
            try with_reducible rfl
          simp only [List.setIfInBounds_toArray, List.set_cons_zero, List.set_cons_succ]
          have hst := run_store_rowY (P := Tryd.prog) _ bb 33 (roomC ad ah v7) _ HB.out rfl (room_oneQ _ _ Q7.out)
          refine wpAnyH_ready (rs := [10]) (by kernel_rfl) (by simp) ?_
          refine AllReadyH.cons rfl (fun K hK => ?_) AllReadyH.nil
          go_simp
          refine hK.out _ _ (below_setRow hHeld hbb _) (fun hHeld2 => ?_)
          clear hK K hst
          have HB2 := Lib.hid (setRow_heap _ _ _ (roomC ad ah v7) _ _ HB.out)
          replace Q7 := Lib.hid (ownQ_set Q7.out NB.out (roomC ad ah v7))
          clear hHeld HB
          have hHeld := hHeld2
          clear hHeld2
          refine take_op (i := 11) (d := 14) (v := ?_) rfl rfl (by kernel_rfl) (by kernel_rfl) (by kernel_rfl) (fun _ _ _ h => h) (Or.inl ⟨by rfl, ?hy11y92⟩) hHeld ?rest11y92
          case hy11y92 =>
            intro w' hS'
            go_simp
            try with_reducible rfl
          refine wpAnyH_done (by kernel_rfl) ?_ _
          go_wp2
          go_meet
          case rel => exact ⟨bb, v7, rfl, rfl, hbb, HB2.out, Q7.out, NB.out, hHeld⟩
      case rest =>
        obtain ⟨b7, v7, rfl, rfl, hl_b7, hr_b7, hq_b7, hn_b7, hcb⟩ := hcut
        have R7 := Lib.hid hr_b7
        have Q7 := Lib.hid hq_b7
        have hsz_b7 := hcb.size
        replace H0 := Lib.hid (below_row hcb H0.out)
        replace RS := Lib.hid (below_row hcb RS.out)
        replace HA := Lib.hid (wins_below HA.out hcb)
        replace HX := Lib.hid (errs_below HX.out hcb)
        replace R4 := Lib.hid (below_row hcb R4.out)
        replace Q4 := Lib.hid (ownQ_below Q4.out hcb)
        replace R6 := Lib.hid (below_row hcb R6.out)
        replace Q6 := Lib.hid (ownQ_below Q6.out hcb)
        replace hb := hb.trans (hcb.mono hb.size)
        clear hcb hr_b7 hq_b7
        have hlb7 := row_lt R7.out
        have N7 : Hid (∀ j, Value.ownBlock v7 = some j → b6 < j ∧ j ≠ b7) := Lib.hid (fun j hj => by have := ownQ_rng Q7.out j hj; have := hn_b7 j hj; omega)
        obtain ⟨lo7, hlo7⟩ : ∃ lo7, lo7 = Y2.heap.size := ⟨_, rfl⟩
        rw [← hlo7] at Q7 hl_b7 hsz_b7 hlb6
        clear hn_b7 hlo7
        go_upto_region 10 with (first | (refine wpList_load_part rfl 33 _ rfl b7 0 3 rfl 33 (roomC ad ah v7) (0, 0) _ R7.out Tryd.underlying33 rfl info_room (room_fits _ _ _) _ (room_all _ _ _) ?_) | (refine wpList_load_part rfl 33 _ rfl b4 0 3 rfl 33 (roomC ad ah v4) (0, 0) _ R4.out Tryd.underlying33 rfl info_room (room_fits _ _ _) _ (room_all _ _ _) ?_) | (go_at_call 12; refine (eqRoom_any ad ah v7 v4 wq _ (ownQ_at Q7.out) (ownQ_at Q4.out)).mono ?_; rintro e W8 ⟨rfl, hb1⟩; replace H0 := Lib.hid (below_row hb1 H0.out); replace RS := Lib.hid (below_row hb1 RS.out); replace HA := Lib.hid (wins_below HA.out hb1); replace HX := Lib.hid (errs_below HX.out hb1); replace R4 := Lib.hid (below_row hb1 R4.out); replace Q4 := Lib.hid (ownQ_below Q4.out hb1); replace R6 := Lib.hid (below_row hb1 R6.out); replace Q6 := Lib.hid (ownQ_below Q6.out hb1); replace R7 := Lib.hid (below_row hb1 R7.out); replace Q7 := Lib.hid (ownQ_below Q7.out hb1); replace hb := hb.trans (hb1.mono hb.size); clear hb1))
        refine wp_region_held_drew (S := (fun V => Below W8.heap.size W8 V)) (by kernel_rfl) ((Below.refl _ _).drew) (fun hHeld => ?_)
        refine take_op (i := 0) (d := 55) (v := .agg (roomC wd hg v6)) rfl rfl (by kernel_rfl) (by kernel_rfl) (by kernel_rfl) (fun _ _ _ h => h) (yields_row (by rfl) 33 (.tmp 12) (by rfl) b6 0 3 (by rfl) 33 (roomC wd hg v6) (0, 0) _ (fun _ h => below_row h R6.out) Tryd.underlying33 rfl info_room (room_fits _ _ _) (roomC wd hg v6) (room_all _ _ _)) hHeld ?_
        simp only [List.setIfInBounds_toArray, List.set_cons_zero, List.set_cons_succ]
        refine take_op (i := 1) (d := 56) (v := .agg (roomC wd hg sv)) rfl rfl (by kernel_rfl) (by kernel_rfl) (by kernel_rfl) (fun _ _ _ h => h) (yields_row (by rfl) 25 (.tmp 4) (by rfl) w.heap.size 0 3 (by rfl) 25 (roomC wd hg sv) (0, 0) _ (fun _ h => below_row h H0.out) Tryd.underlying25 rfl info_roomL (room_fits _ _ _) (roomC wd hg sv) (room_all _ _ _)) hHeld ?_
        simp only [List.setIfInBounds_toArray, List.set_cons_zero, List.set_cons_succ]
        refine wpAnyH_ready (rs := [2]) (by kernel_rfl) (by simp) ?_
        refine AllReadyH.cons rfl (fun K hK => ?_) AllReadyH.nil
        go_simp
        refine (toRoom_any wd hg sv ws hlen _ (wins_below HA.out hHeld)).mono ?_
        rintro e Wa ⟨⟨v9, rfl, hv9⟩, hb1⟩
        have HV9 := Lib.hid (ownW_at hv9)
        clear hv9
        refine hK.out _ _ (hHeld.trans (hb1.mono hHeld.size)) (fun hHeld2 => ?_)
        clear hK K
        replace hHeld := hHeld2
        clear hHeld2 hb1
        refine wpAnyH_ready (rs := [3]) (by kernel_rfl) (by simp) ?_
        refine AllReadyH.cons rfl (fun K hK => ?_) AllReadyH.nil
        go_simp
        refine (eqRoom_any wd hg v6 v9 ws _ (ownQ_at (ownQ_below Q6.out hHeld)) HV9.out).mono ?_
        rintro e Wb ⟨rfl, hb1⟩
        refine hK.out _ _ (hHeld.trans (hb1.mono hHeld.size)) (fun hHeld2 => ?_)
        clear hK K HV9
        replace hHeld := hHeld2
        clear hHeld2 hb1
        refine take_op (i := 4) (d := 59) (v := ?_) rfl rfl (by kernel_rfl) (by kernel_rfl) (by kernel_rfl) (fun _ _ _ h => h) (Or.inl ⟨by rfl, ?hy4y111⟩) hHeld ?rest4y111
        case hy4y111 =>
          intro w' hS'
          go_simp
          try with_reducible rfl
        simp only [List.setIfInBounds_toArray, List.set_cons_zero, List.set_cons_succ]
        refine wpAnyH_done (by kernel_rfl) ?_ _
        replace H0 := Lib.hid (below_row hHeld H0.out)
        replace RS := Lib.hid (below_row hHeld RS.out)
        replace HA := Lib.hid (wins_below HA.out hHeld)
        replace HX := Lib.hid (errs_below HX.out hHeld)
        replace R4 := Lib.hid (below_row hHeld R4.out)
        replace Q4 := Lib.hid (ownQ_below Q4.out hHeld)
        replace R6 := Lib.hid (below_row hHeld R6.out)
        replace Q6 := Lib.hid (ownQ_below Q6.out hHeld)
        replace R7 := Lib.hid (below_row hHeld R7.out)
        replace Q7 := Lib.hid (ownQ_below Q7.out hHeld)
        replace hb := hb.trans (hHeld.mono hb.size)
        clear hHeld
        go_upto_region 16 with (first | (refine wpList_load_part rfl 33 _ rfl b6 0 3 rfl 33 (roomC wd hg v6) (0, 0) _ R6.out Tryd.underlying33 rfl info_room (room_fits _ _ _) _ (room_all _ _ _) ?_) | (go_at_call 13; refine (HMK6.out _ _ _ Q6.out).mono ?_; rintro e W9 ⟨rfl, -, hkb, hbq⟩; replace H0 := Lib.hid (hkb _ _ _ _ H0.out (fun h => by have := N6.out _ h; omega)); replace RS := Lib.hid (hkb _ _ _ _ RS.out (fun h => by have := N6.out _ h; omega)); replace R4 := Lib.hid (hkb _ _ _ _ R4.out (fun h => by have := N6.out _ h; omega)); replace Q4 := Lib.hid (ownQ_keep Q4.out hkb (fun j hj h => by have a := N4.out j hj; have b := N6.out j h; omega)); replace R7 := Lib.hid (hkb _ _ _ _ R7.out (fun h => by have := N6.out _ h; omega)); replace Q7 := Lib.hid (ownQ_keep Q7.out hkb (fun j hj h => by have a := N7.out j hj; have b := N6.out j h; omega)); replace hb := hb.trans ((hbq (by have := row_lt R6.out; omega)).mono (by omega)); replace HA := Lib.hid (wins_below HA0.out hb); replace HX := Lib.hid (errs_below HX0.out hb); clear hkb hbq R6 Q6) | (refine wpList_load_partG 33 _ rfl b7 0 3 rfl rfl 33 (roomC ad ah v7) (0, 0) _ R7.out Tryd.underlying33 rfl info_room (room_fits _ _ _) _ (room_all _ _ _) ?_) | (refine wpList_load_partG 33 _ rfl b4 0 3 rfl rfl 33 (roomC ad ah v4) (0, 0) _ R4.out Tryd.underlying33 rfl info_room (room_fits _ _ _) _ (room_all _ _ _) ?_) | (go_at_call 12; refine (eqRoom_any ad ah v7 v4 wq _ (ownQ_at Q7.out) (ownQ_at Q4.out)).mono ?_; rintro e W8 ⟨rfl, hb1⟩; replace H0 := Lib.hid (below_row hb1 H0.out); replace RS := Lib.hid (below_row hb1 RS.out); replace HA := Lib.hid (wins_below HA.out hb1); replace HX := Lib.hid (errs_below HX.out hb1); replace R4 := Lib.hid (below_row hb1 R4.out); replace Q4 := Lib.hid (ownQ_below Q4.out hb1); replace R7 := Lib.hid (below_row hb1 R7.out); replace Q7 := Lib.hid (ownQ_below Q7.out hb1); replace hb := hb.trans (hb1.mono hb.size); clear hb1))
        clear HMK6
        go_upto_region 18 with (first | (refine wpList_load_part rfl 33 _ rfl b7 0 3 rfl 33 (roomC ad ah v7) (0, 0) _ R7.out Tryd.underlying33 rfl info_room (room_fits _ _ _) _ (room_all _ _ _) ?_) | (go_at_call 13; refine (HMK7.out _ _ _ Q7.out).mono ?_; rintro e W10 ⟨rfl, hm7, hkb, hbq⟩; replace H0 := Lib.hid (hkb _ _ _ _ H0.out (fun h => by have := N7.out _ h; omega)); replace RS := Lib.hid (hkb _ _ _ _ RS.out (fun h => by have := N7.out _ h; omega)); replace R4 := Lib.hid (hkb _ _ _ _ R4.out (fun h => by have := N7.out _ h; omega)); replace Q4 := Lib.hid (ownQ_keep Q4.out hkb (fun j hj h => by have a := N4.out j hj; have b := N7.out j h; omega)); have hl7v := row_lt R7.out; replace R7 := Lib.hid (hkb _ _ _ _ R7.out (fun h => by have := N7.out _ h; omega)); replace hb := hb.trans ((hbq (by omega)).mono (by omega)); replace HA := Lib.hid (wins_below HA0.out hb); replace HX := Lib.hid (errs_below HX0.out hb); clear hkb hbq Q7 hl7v; have M7 := Lib.hid hm7; clear hm7))
        clear HMK7
        go_upto_region 24 with (first | (refine wpList_load_part rfl 33 _ rfl b7 0 3 rfl 33 (roomC ad ah v7) (0, 0) _ R7.out Tryd.underlying33 rfl info_room (room_fits _ _ _) _ (room_all _ _ _) ?_) | (go_at_call 14; refine (HHD.out _ _ M7.out).mono ?_; rintro e W11 ⟨rfl, hb1⟩; replace H0 := Lib.hid (below_row hb1 H0.out); replace RS := Lib.hid (below_row hb1 RS.out); replace HA := Lib.hid (wins_below HA.out hb1); replace HX := Lib.hid (errs_below HX.out hb1); replace R4 := Lib.hid (below_row hb1 R4.out); replace Q4 := Lib.hid (ownQ_below Q4.out hb1); replace R7 := Lib.hid (below_row hb1 R7.out); replace M7 := Lib.hid (markedQ_below M7.out hb1); replace hb := hb.trans (hb1.mono hb.size); clear hb1))
        go_cut [18, 19] (fun sb sc wx => ∃ (bb : Nat) (v : Value), sb = .pointer (some ⟨bb, 0, none⟩) ∧ sc = .int .i64 v1 ∧ W11.heap.size ≤ bb ∧ wx.heap[bb]? = some (.cells (roomC ad ah v) 33 (0, 0)) ∧ OwnQ wx W11.heap.size v wq ∧ (∀ j, Value.ownBlock v = some j → j ≠ bb) ∧ Below W11.heap.size W11 wx)
        case first =>
          refine wp_region_held_drew (S := (fun V => Below W11.heap.size W11 V)) (by kernel_rfl) ((Below.refl _ _).drew) (fun hHeld => ?_)
          generalize W11.drew = Y0 at *
          refine take_op (i := 0) (d := 88) (v := .agg (roomC wd hg sv)) rfl rfl (by kernel_rfl) (by kernel_rfl) (by kernel_rfl) (fun _ _ _ h => h) (yields_row (by rfl) 25 (.tmp 4) (by rfl) w.heap.size 0 3 (by rfl) 25 (roomC wd hg sv) (0, 0) _ (fun _ h => below_row h H0.out) Tryd.underlying25 rfl info_roomL (room_fits _ _ _) (roomC wd hg sv) (room_all _ _ _)) hHeld ?_
          simp only [List.setIfInBounds_toArray, List.set_cons_zero, List.set_cons_succ]
          refine take_op (i := 2) (d := 90) (v := .agg (sunC hs ts)) rfl rfl (by kernel_rfl) (by kernel_rfl) (by kernel_rfl) (fun _ _ _ h => h) (yields_row (by rfl) 29 (.tmp 5) (by rfl) bs 0 48 (by rfl) 29 (sunC hs ts) (0, 0) _ (fun _ h => below_row h RS.out) Tryd.underlying29 rfl info_sunL (sun_fits _ _ Hh.out Ht.out) (sunC hs ts) (sun_all _ _ Hh.out Ht.out)) hHeld ?_
          simp only [List.setIfInBounds_toArray, List.set_cons_zero, List.set_cons_succ]
          refine take_op (i := 4) (d := 92) (v := ?_) rfl rfl (by kernel_rfl) (by kernel_rfl) (by kernel_rfl) (fun _ _ _ h => h) (Or.inl ⟨by rfl, ?hy4y93⟩) hHeld ?rest4y93
          case hy4y93 =>
            intro w' hS'
            go_simp
            try with_reducible rfl
          simp only [List.setIfInBounds_toArray, List.set_cons_zero, List.set_cons_succ]
          refine take_op (i := 5) (d := 93) (v := ?_) rfl rfl (by kernel_rfl) (by kernel_rfl) (by kernel_rfl) (fun _ _ _ h => h) (Or.inl ⟨by rfl, ?hy5y94⟩) hHeld ?rest5y94
          case hy5y94 =>
            intro w' hS'
            go_simp
            try with_reducible rfl
          simp only [List.setIfInBounds_toArray, List.set_cons_zero, List.set_cons_succ]
          refine wpAnyH_ready (rs := [1, 10]) (by kernel_rfl) (by simp) ?_
          refine AllReadyH.cons rfl (fun K hK => ?_) (AllReadyH.cons rfl (fun K hK => ?_) AllReadyH.nil)
          · go_simp
            have hbv := hHeld.size
            refine (toRoom_any wd hg sv ws hlen _ (wins_below HA.out hHeld)).mono ?_
            rintro e Zy1 ⟨⟨v3, rfl, hv⟩, hb1⟩
            have O3 := Lib.hid hv
            clear hv
            clear hbv
            refine hK.out _ _ (hHeld.trans (hb1.mono hHeld.size)) (fun hHeld2 => ?_)
            clear hK K
            replace hHeld := hHeld2
            clear hHeld2
            clear hb1
            refine wpAnyH_ready (rs := [3, 10]) (by kernel_rfl) (by simp) ?_
            refine AllReadyH.cons rfl (fun K hK => ?_) (AllReadyH.cons rfl (fun K hK => ?_) AllReadyH.nil)
            · go_simp
              have hbv := hHeld.size
              refine (toSun_any hs ts Hh.out Ht.out _).mono ?_
              rintro e Zy2 ⟨rfl, hb1⟩
              clear hbv
              replace O3 := Lib.hid (ownW_below O3.out hb1 (Nat.le_refl _))
              refine hK.out _ _ (hHeld.trans (hb1.mono hHeld.size)) (fun hHeld2 => ?_)
              clear hK K
              replace hHeld := hHeld2
              clear hHeld2
              clear hb1
              refine wpAnyH_ready (rs := [6, 10]) (by kernel_rfl) (by simp) ?_
              refine AllReadyH.cons rfl (fun K hK => ?_) (AllReadyH.cons rfl (fun K hK => ?_) AllReadyH.nil)
              · go_simp
                have hbv := hHeld.size
                refine (HI.out _ _ (ownW_at O3.out) (errs_below HX.out hHeld)).mono ?_
                rintro e Zy3 ⟨⟨v12, rfl, hv⟩, hb1⟩
                have Q12 := Lib.hid hv
                clear hv
                replace Q12 := Lib.hid (ownQ_mono Q12.out hbv)
                clear hbv
                replace O3 := Lib.hid (ownW_below O3.out hb1 (Nat.le_refl _))
                refine hK.out _ _ (hHeld.trans (hb1.mono hHeld.size)) (fun hHeld2 => ?_)
                clear hK K
                replace hHeld := hHeld2
                clear hHeld2
                clear hb1
                clear O3
                refine take_op (i := 7) (d := 87) (v := ?_) rfl rfl (by kernel_rfl) (by kernel_rfl) (by kernel_rfl) (fun _ _ _ h => h) (Or.inl ⟨by rfl, ?hy7y95⟩) hHeld ?rest7y95
                case hy7y95 =>
                  intro w' hS'
                  go_simp
                  try with_reducible rfl
                simp only [List.setIfInBounds_toArray, List.set_cons_zero, List.set_cons_succ]
                refine take_op (i := 8) (d := 95) (v := ?_) rfl rfl (by kernel_rfl) (by kernel_rfl) (by kernel_rfl) (fun _ _ _ h => h) (Or.inl ⟨by rfl, ?hy8y96⟩) hHeld ?rest8y96
                case hy8y96 =>
                  intro w' hS'
                  go_simp
                  try with_reducible rfl
                simp only [List.setIfInBounds_toArray, List.set_cons_zero, List.set_cons_succ]
                refine take_op (i := 9) (d := 96) (v := ?_) rfl rfl (by kernel_rfl) (by kernel_rfl) (by kernel_rfl) (fun _ _ _ h => h) (Or.inl ⟨by rfl, ?hy9y97⟩) hHeld ?rest9y97
                case hy9y97 =>
                  intro w' hS'
                  go_simp
                  try with_reducible rfl
                simp only [List.setIfInBounds_toArray, List.set_cons_zero, List.set_cons_succ]
                refine wpAnyH_ready (rs := [10]) (by kernel_rfl) (by simp) ?_
                refine AllReadyH.cons rfl (fun K hK => ?_) AllReadyH.nil
                go_simp
                obtain ⟨bb, hbq⟩ : ∃ bb, bb = Zy3.heap.size := ⟨_, rfl⟩
                have NB : Hid (∀ j, Value.ownBlock v12 = some j → j ≠ bb) := Lib.hid (fun j hj => by have := ownQ_rng Q12.out j hj; omega)
                replace Q12 := Lib.hid (ownQ_below Q12.out ((Below.refl Zy3.heap.size Zy3).alloc (Nat.le_refl _) (.cells (roomC 0 0 (.slice none 0 0)) 33 (0, 0))))
                rw [← hbq]
                refine hK.out _ (Zy3.alloc (.cells (roomC 0 0 (.slice none 0 0)) 33 (0, 0))) (hHeld.alloc hHeld.size _) (fun hHeld2 => ?_)
                have HB : Hid ((Zy3.alloc (.cells (roomC 0 0 (.slice none 0 0)) 33 (0, 0))).heap[bb]? = some (.cells (roomC 0 0 (.slice none 0 0)) 33 (0, 0))) := Lib.hid (by rw [hbq]; exact heap_alloc_new _ _)
                have hbb : W11.heap.size ≤ bb := by rw [hbq]; exact hHeld.size
                clear hK K hHeld hbq
                have hHeld := hHeld2
                clear hHeld2
                generalize (Zy3.alloc (.cells (roomC 0 0 (.slice none 0 0)) 33 (0, 0))) = Zy4 at *
                have hst := run_store_rowY (P := Tryd.prog) _ bb 33 (roomC ad ah v12) _ HB.out rfl (room_oneQ _ _ Q12.out)
                refine wpAnyH_ready (rs := [11]) (by kernel_rfl) (by simp) ?_
                refine AllReadyH.cons rfl (fun K hK => ?_) AllReadyH.nil
                go_simp
                refine hK.out _ _ (below_setRow hHeld hbb _) (fun hHeld2 => ?_)
                clear hK K hst
                have HB2 := Lib.hid (setRow_heap _ _ _ (roomC ad ah v12) _ _ HB.out)
                replace Q12 := Lib.hid (ownQ_set Q12.out NB.out (roomC ad ah v12))
                clear hHeld HB
                have hHeld := hHeld2
                clear hHeld2
                refine take_op (i := 12) (d := 19) (v := ?_) rfl rfl (by kernel_rfl) (by kernel_rfl) (by kernel_rfl) (fun _ _ _ h => h) (Or.inl ⟨by rfl, ?hy12y98⟩) hHeld ?rest12y98
                case hy12y98 =>
                  intro w' hS'
                  go_simp
                  try with_reducible rfl
                refine wpAnyH_done (by kernel_rfl) ?_ _
                go_wp2
                go_meet
                case rel => exact ⟨bb, v12, rfl, rfl, hbb, HB2.out, Q12.out, NB.out, hHeld⟩
              · go_simp
                obtain ⟨bb, hbq⟩ : ∃ bb, bb = Zy2.heap.size := ⟨_, rfl⟩
                replace O3 := Lib.hid (ownW_below O3.out ((Below.refl Zy2.heap.size Zy2).alloc (Nat.le_refl _) (.cells (roomC 0 0 (.slice none 0 0)) 33 (0, 0))) (Nat.le_refl _))
                rw [← hbq]
                refine hK.out _ (Zy2.alloc (.cells (roomC 0 0 (.slice none 0 0)) 33 (0, 0))) (hHeld.alloc hHeld.size _) (fun hHeld2 => ?_)
                have HB : Hid ((Zy2.alloc (.cells (roomC 0 0 (.slice none 0 0)) 33 (0, 0))).heap[bb]? = some (.cells (roomC 0 0 (.slice none 0 0)) 33 (0, 0))) := Lib.hid (by rw [hbq]; exact heap_alloc_new _ _)
                have hbb : W11.heap.size ≤ bb := by rw [hbq]; exact hHeld.size
                clear hK K hHeld hbq
                have hHeld := hHeld2
                clear hHeld2
                generalize (Zy2.alloc (.cells (roomC 0 0 (.slice none 0 0)) 33 (0, 0))) = Zy5 at *
                refine wpAnyH_ready (rs := [6]) (by kernel_rfl) (by simp) ?_
                refine AllReadyH.cons rfl (fun K hK => ?_) AllReadyH.nil
                go_simp
                have hbv := hHeld.size
                refine (HI.out _ _ (ownW_at O3.out) (errs_below HX.out hHeld)).mono ?_
                rintro e Zy6 ⟨⟨v12, rfl, hv⟩, hb1⟩
                have Q12 := Lib.hid hv
                clear hv
                have NB : Hid (∀ j, Value.ownBlock v12 = some j → j ≠ bb) := Lib.hid (fun j hj => by have := ownQ_rng Q12.out j hj; have := row_lt HB.out; omega)
                replace Q12 := Lib.hid (ownQ_mono Q12.out hbv)
                clear hbv
                replace O3 := Lib.hid (ownW_below O3.out hb1 (Nat.le_refl _))
                refine hK.out _ _ (hHeld.trans (hb1.mono hHeld.size)) (fun hHeld2 => ?_)
                clear hK K
                replace hHeld := hHeld2
                clear hHeld2
                replace HB := Lib.hid (below_row hb1 HB.out)
                clear hb1
                clear O3
                refine take_op (i := 7) (d := 87) (v := ?_) rfl rfl (by kernel_rfl) (by kernel_rfl) (by kernel_rfl) (fun _ _ _ h => h) (Or.inl ⟨by rfl, ?hy7y99⟩) hHeld ?rest7y99
                case hy7y99 =>
                  intro w' hS'
                  go_simp
                  try with_reducible rfl
                simp only [List.setIfInBounds_toArray, List.set_cons_zero, List.set_cons_succ]
                refine take_op (i := 8) (d := 95) (v := ?_) rfl rfl (by kernel_rfl) (by kernel_rfl) (by kernel_rfl) (fun _ _ _ h => h) (Or.inl ⟨by rfl, ?hy8y100⟩) hHeld ?rest8y100
                case hy8y100 =>
                  intro w' hS'
                  go_simp
                  try with_reducible rfl
                simp only [List.setIfInBounds_toArray, List.set_cons_zero, List.set_cons_succ]
                refine take_op (i := 9) (d := 96) (v := ?_) rfl rfl (by kernel_rfl) (by kernel_rfl) (by kernel_rfl) (fun _ _ _ h => h) (Or.inl ⟨by rfl, ?hy9y101⟩) hHeld ?rest9y101
                case hy9y101 =>
                  intro w' hS'
                  go_simp
                  try with_reducible rfl
                simp only [List.setIfInBounds_toArray, List.set_cons_zero, List.set_cons_succ]
                have hst := run_store_rowY (P := Tryd.prog) _ bb 33 (roomC ad ah v12) _ HB.out rfl (room_oneQ _ _ Q12.out)
                refine wpAnyH_ready (rs := [11]) (by kernel_rfl) (by simp) ?_
                refine AllReadyH.cons rfl (fun K hK => ?_) AllReadyH.nil
                go_simp
                refine hK.out _ _ (below_setRow hHeld hbb _) (fun hHeld2 => ?_)
                clear hK K hst
                have HB2 := Lib.hid (setRow_heap _ _ _ (roomC ad ah v12) _ _ HB.out)
                replace Q12 := Lib.hid (ownQ_set Q12.out NB.out (roomC ad ah v12))
                clear hHeld HB
                have hHeld := hHeld2
                clear hHeld2
                refine take_op (i := 12) (d := 19) (v := ?_) rfl rfl (by kernel_rfl) (by kernel_rfl) (by kernel_rfl) (fun _ _ _ h => h) (Or.inl ⟨by rfl, ?hy12y102⟩) hHeld ?rest12y102
                case hy12y102 =>
                  intro w' hS'
                  go_simp
                  try with_reducible rfl
                refine wpAnyH_done (by kernel_rfl) ?_ _
                go_wp2
                go_meet
                case rel => exact ⟨bb, v12, rfl, rfl, hbb, HB2.out, Q12.out, NB.out, hHeld⟩
            · go_simp
              obtain ⟨bb, hbq⟩ : ∃ bb, bb = Zy1.heap.size := ⟨_, rfl⟩
              replace O3 := Lib.hid (ownW_below O3.out ((Below.refl Zy1.heap.size Zy1).alloc (Nat.le_refl _) (.cells (roomC 0 0 (.slice none 0 0)) 33 (0, 0))) (Nat.le_refl _))
              rw [← hbq]
              refine hK.out _ (Zy1.alloc (.cells (roomC 0 0 (.slice none 0 0)) 33 (0, 0))) (hHeld.alloc hHeld.size _) (fun hHeld2 => ?_)
              have HB : Hid ((Zy1.alloc (.cells (roomC 0 0 (.slice none 0 0)) 33 (0, 0))).heap[bb]? = some (.cells (roomC 0 0 (.slice none 0 0)) 33 (0, 0))) := Lib.hid (by rw [hbq]; exact heap_alloc_new _ _)
              have hbb : W11.heap.size ≤ bb := by rw [hbq]; exact hHeld.size
              clear hK K hHeld hbq
              have hHeld := hHeld2
              clear hHeld2
              generalize (Zy1.alloc (.cells (roomC 0 0 (.slice none 0 0)) 33 (0, 0))) = Zy7 at *
              refine wpAnyH_ready (rs := [3]) (by kernel_rfl) (by simp) ?_
              refine AllReadyH.cons rfl (fun K hK => ?_) AllReadyH.nil
              go_simp
              have hbv := hHeld.size
              refine (toSun_any hs ts Hh.out Ht.out _).mono ?_
              rintro e Zy8 ⟨rfl, hb1⟩
              clear hbv
              replace O3 := Lib.hid (ownW_below O3.out hb1 (Nat.le_refl _))
              refine hK.out _ _ (hHeld.trans (hb1.mono hHeld.size)) (fun hHeld2 => ?_)
              clear hK K
              replace hHeld := hHeld2
              clear hHeld2
              replace HB := Lib.hid (below_row hb1 HB.out)
              clear hb1
              refine wpAnyH_ready (rs := [6]) (by kernel_rfl) (by simp) ?_
              refine AllReadyH.cons rfl (fun K hK => ?_) AllReadyH.nil
              go_simp
              have hbv := hHeld.size
              refine (HI.out _ _ (ownW_at O3.out) (errs_below HX.out hHeld)).mono ?_
              rintro e Zy9 ⟨⟨v12, rfl, hv⟩, hb1⟩
              have Q12 := Lib.hid hv
              clear hv
              have NB : Hid (∀ j, Value.ownBlock v12 = some j → j ≠ bb) := Lib.hid (fun j hj => by have := ownQ_rng Q12.out j hj; have := row_lt HB.out; omega)
              replace Q12 := Lib.hid (ownQ_mono Q12.out hbv)
              clear hbv
              replace O3 := Lib.hid (ownW_below O3.out hb1 (Nat.le_refl _))
              refine hK.out _ _ (hHeld.trans (hb1.mono hHeld.size)) (fun hHeld2 => ?_)
              clear hK K
              replace hHeld := hHeld2
              clear hHeld2
              replace HB := Lib.hid (below_row hb1 HB.out)
              clear hb1
              clear O3
              refine take_op (i := 7) (d := 87) (v := ?_) rfl rfl (by kernel_rfl) (by kernel_rfl) (by kernel_rfl) (fun _ _ _ h => h) (Or.inl ⟨by rfl, ?hy7y103⟩) hHeld ?rest7y103
              case hy7y103 =>
                intro w' hS'
                go_simp
                try with_reducible rfl
              simp only [List.setIfInBounds_toArray, List.set_cons_zero, List.set_cons_succ]
              refine take_op (i := 8) (d := 95) (v := ?_) rfl rfl (by kernel_rfl) (by kernel_rfl) (by kernel_rfl) (fun _ _ _ h => h) (Or.inl ⟨by rfl, ?hy8y104⟩) hHeld ?rest8y104
              case hy8y104 =>
                intro w' hS'
                go_simp
                try with_reducible rfl
              simp only [List.setIfInBounds_toArray, List.set_cons_zero, List.set_cons_succ]
              refine take_op (i := 9) (d := 96) (v := ?_) rfl rfl (by kernel_rfl) (by kernel_rfl) (by kernel_rfl) (fun _ _ _ h => h) (Or.inl ⟨by rfl, ?hy9y105⟩) hHeld ?rest9y105
              case hy9y105 =>
                intro w' hS'
                go_simp
                try with_reducible rfl
              simp only [List.setIfInBounds_toArray, List.set_cons_zero, List.set_cons_succ]
              have hst := run_store_rowY (P := Tryd.prog) _ bb 33 (roomC ad ah v12) _ HB.out rfl (room_oneQ _ _ Q12.out)
              refine wpAnyH_ready (rs := [11]) (by kernel_rfl) (by simp) ?_
              refine AllReadyH.cons rfl (fun K hK => ?_) AllReadyH.nil
              go_simp
              refine hK.out _ _ (below_setRow hHeld hbb _) (fun hHeld2 => ?_)
              clear hK K hst
              have HB2 := Lib.hid (setRow_heap _ _ _ (roomC ad ah v12) _ _ HB.out)
              replace Q12 := Lib.hid (ownQ_set Q12.out NB.out (roomC ad ah v12))
              clear hHeld HB
              have hHeld := hHeld2
              clear hHeld2
              refine take_op (i := 12) (d := 19) (v := ?_) rfl rfl (by kernel_rfl) (by kernel_rfl) (by kernel_rfl) (fun _ _ _ h => h) (Or.inl ⟨by rfl, ?hy12y106⟩) hHeld ?rest12y106
              case hy12y106 =>
                intro w' hS'
                go_simp
                try with_reducible rfl
              refine wpAnyH_done (by kernel_rfl) ?_ _
              go_wp2
              go_meet
              case rel => exact ⟨bb, v12, rfl, rfl, hbb, HB2.out, Q12.out, NB.out, hHeld⟩
          · go_simp
            obtain ⟨bb, hbq⟩ : ∃ bb, bb = Y0.heap.size := ⟨_, rfl⟩
            rw [← hbq]
            refine hK.out _ (Y0.alloc (.cells (roomC 0 0 (.slice none 0 0)) 33 (0, 0))) (hHeld.alloc hHeld.size _) (fun hHeld2 => ?_)
            have HB : Hid ((Y0.alloc (.cells (roomC 0 0 (.slice none 0 0)) 33 (0, 0))).heap[bb]? = some (.cells (roomC 0 0 (.slice none 0 0)) 33 (0, 0))) := Lib.hid (by rw [hbq]; exact heap_alloc_new _ _)
            have hbb : W11.heap.size ≤ bb := by rw [hbq]; exact hHeld.size
            clear hK K hHeld hbq
            have hHeld := hHeld2
            clear hHeld2
            generalize (Y0.alloc (.cells (roomC 0 0 (.slice none 0 0)) 33 (0, 0))) = Zy10 at *
            refine wpAnyH_ready (rs := [1]) (by kernel_rfl) (by simp) ?_
            refine AllReadyH.cons rfl (fun K hK => ?_) AllReadyH.nil
            go_simp
            have hbv := hHeld.size
            refine (toRoom_any wd hg sv ws hlen _ (wins_below HA.out hHeld)).mono ?_
            rintro e Zy11 ⟨⟨v3, rfl, hv⟩, hb1⟩
            have O3 := Lib.hid hv
            clear hv
            clear hbv
            refine hK.out _ _ (hHeld.trans (hb1.mono hHeld.size)) (fun hHeld2 => ?_)
            clear hK K
            replace hHeld := hHeld2
            clear hHeld2
            replace HB := Lib.hid (below_row hb1 HB.out)
            clear hb1
            refine wpAnyH_ready (rs := [3]) (by kernel_rfl) (by simp) ?_
            refine AllReadyH.cons rfl (fun K hK => ?_) AllReadyH.nil
            go_simp
            have hbv := hHeld.size
            refine (toSun_any hs ts Hh.out Ht.out _).mono ?_
            rintro e Zy12 ⟨rfl, hb1⟩
            clear hbv
            replace O3 := Lib.hid (ownW_below O3.out hb1 (Nat.le_refl _))
            refine hK.out _ _ (hHeld.trans (hb1.mono hHeld.size)) (fun hHeld2 => ?_)
            clear hK K
            replace hHeld := hHeld2
            clear hHeld2
            replace HB := Lib.hid (below_row hb1 HB.out)
            clear hb1
            refine wpAnyH_ready (rs := [6]) (by kernel_rfl) (by simp) ?_
            refine AllReadyH.cons rfl (fun K hK => ?_) AllReadyH.nil
            go_simp
            have hbv := hHeld.size
            refine (HI.out _ _ (ownW_at O3.out) (errs_below HX.out hHeld)).mono ?_
            rintro e Zy13 ⟨⟨v12, rfl, hv⟩, hb1⟩
            have Q12 := Lib.hid hv
            clear hv
            have NB : Hid (∀ j, Value.ownBlock v12 = some j → j ≠ bb) := Lib.hid (fun j hj => by have := ownQ_rng Q12.out j hj; have := row_lt HB.out; omega)
            replace Q12 := Lib.hid (ownQ_mono Q12.out hbv)
            clear hbv
            replace O3 := Lib.hid (ownW_below O3.out hb1 (Nat.le_refl _))
            refine hK.out _ _ (hHeld.trans (hb1.mono hHeld.size)) (fun hHeld2 => ?_)
            clear hK K
            replace hHeld := hHeld2
            clear hHeld2
            replace HB := Lib.hid (below_row hb1 HB.out)
            clear hb1
            clear O3
            refine take_op (i := 7) (d := 87) (v := ?_) rfl rfl (by kernel_rfl) (by kernel_rfl) (by kernel_rfl) (fun _ _ _ h => h) (Or.inl ⟨by rfl, ?hy7y107⟩) hHeld ?rest7y107
            case hy7y107 =>
              intro w' hS'
              go_simp
              try with_reducible rfl
            simp only [List.setIfInBounds_toArray, List.set_cons_zero, List.set_cons_succ]
            refine take_op (i := 8) (d := 95) (v := ?_) rfl rfl (by kernel_rfl) (by kernel_rfl) (by kernel_rfl) (fun _ _ _ h => h) (Or.inl ⟨by rfl, ?hy8y108⟩) hHeld ?rest8y108
            case hy8y108 =>
              intro w' hS'
              go_simp
              try with_reducible rfl
            simp only [List.setIfInBounds_toArray, List.set_cons_zero, List.set_cons_succ]
            refine take_op (i := 9) (d := 96) (v := ?_) rfl rfl (by kernel_rfl) (by kernel_rfl) (by kernel_rfl) (fun _ _ _ h => h) (Or.inl ⟨by rfl, ?hy9y109⟩) hHeld ?rest9y109
            case hy9y109 =>
              intro w' hS'
              go_simp
              try with_reducible rfl
            simp only [List.setIfInBounds_toArray, List.set_cons_zero, List.set_cons_succ]
            have hst := run_store_rowY (P := Tryd.prog) _ bb 33 (roomC ad ah v12) _ HB.out rfl (room_oneQ _ _ Q12.out)
            refine wpAnyH_ready (rs := [11]) (by kernel_rfl) (by simp) ?_
            refine AllReadyH.cons rfl (fun K hK => ?_) AllReadyH.nil
            go_simp
            refine hK.out _ _ (below_setRow hHeld hbb _) (fun hHeld2 => ?_)
            clear hK K hst
            have HB2 := Lib.hid (setRow_heap _ _ _ (roomC ad ah v12) _ _ HB.out)
            replace Q12 := Lib.hid (ownQ_set Q12.out NB.out (roomC ad ah v12))
            clear hHeld HB
            have hHeld := hHeld2
            clear hHeld2
            refine take_op (i := 12) (d := 19) (v := ?_) rfl rfl (by kernel_rfl) (by kernel_rfl) (by kernel_rfl) (fun _ _ _ h => h) (Or.inl ⟨by rfl, ?hy12y110⟩) hHeld ?rest12y110
            case hy12y110 =>
              intro w' hS'
              go_simp
              try with_reducible rfl
            refine wpAnyH_done (by kernel_rfl) ?_ _
            go_wp2
            go_meet
            case rel => exact ⟨bb, v12, rfl, rfl, hbb, HB2.out, Q12.out, NB.out, hHeld⟩
        case rest =>
          obtain ⟨b12, v12, rfl, rfl, hl_b12, hr_b12, hq_b12, hn_b12, hcb⟩ := hcut
          have R12 := Lib.hid hr_b12
          have Q12 := Lib.hid hq_b12
          have hsz_b12 := hcb.size
          replace H0 := Lib.hid (below_row hcb H0.out)
          replace RS := Lib.hid (below_row hcb RS.out)
          replace HA := Lib.hid (wins_below HA.out hcb)
          replace HX := Lib.hid (errs_below HX.out hcb)
          replace R4 := Lib.hid (below_row hcb R4.out)
          replace Q4 := Lib.hid (ownQ_below Q4.out hcb)
          replace R7 := Lib.hid (below_row hcb R7.out)
          replace M7 := Lib.hid (markedQ_below M7.out hcb)
          replace hb := hb.trans (hcb.mono hb.size)
          clear hcb hr_b12 hq_b12
          clear hn_b12
          go_wp2_with (first | (refine wpList_load_part rfl 33 _ rfl b12 0 3 rfl 33 (roomC ad ah v12) (0, 0) _ R12.out Tryd.underlying33 rfl info_room (room_fits _ _ _) _ (room_all _ _ _) ?_) | (refine wpList_load_part rfl 33 _ rfl b4 0 3 rfl 33 (roomC ad ah v4) (0, 0) _ R4.out Tryd.underlying33 rfl info_room (room_fits _ _ _) _ (room_all _ _ _) ?_) | (refine wpList_load_part rfl 33 _ rfl b7 0 3 rfl 33 (roomC ad ah v7) (0, 0) _ R7.out Tryd.underlying33 rfl info_room (room_fits _ _ _) _ (room_all _ _ _) ?_) | (go_at_call 12; refine (eqRoom_any ad ah v12 v4 wq _ (ownQ_at Q12.out) (ownQ_at Q4.out)).mono ?_; rintro e W8 ⟨rfl, hb1⟩; replace H0 := Lib.hid (below_row hb1 H0.out); replace RS := Lib.hid (below_row hb1 RS.out); replace HA := Lib.hid (wins_below HA.out hb1); replace HX := Lib.hid (errs_below HX.out hb1); replace R4 := Lib.hid (below_row hb1 R4.out); replace Q4 := Lib.hid (ownQ_below Q4.out hb1); replace R7 := Lib.hid (below_row hb1 R7.out); replace M7 := Lib.hid (markedQ_below M7.out hb1); replace R12 := Lib.hid (below_row hb1 R12.out); replace Q12 := Lib.hid (ownQ_below Q12.out hb1); replace hb := hb.trans (hb1.mono hb.size); clear hb1) | (go_at_call 14; refine (HHD.out _ _ M7.out).mono ?_; rintro e W11 ⟨rfl, hb1⟩; replace H0 := Lib.hid (below_row hb1 H0.out); replace RS := Lib.hid (below_row hb1 RS.out); replace HA := Lib.hid (wins_below HA.out hb1); replace HX := Lib.hid (errs_below HX.out hb1); replace R4 := Lib.hid (below_row hb1 R4.out); replace Q4 := Lib.hid (ownQ_below Q4.out hb1); replace R7 := Lib.hid (below_row hb1 R7.out); replace M7 := Lib.hid (markedQ_below M7.out hb1); replace hb := hb.trans (hb1.mono hb.size); clear hb1))
          go_ret
          exact ⟨rfl, hb⟩

end Go.Proofs.YtpcmcopfdghdgaaDoor

namespace Go.Proofs.YtpcmcopfdghdgaaDoor
open Go.RowKit

theorem FnExactLitBy_walk (wd hg : Int) (sv : Value) (ws : List Wn) (rw0 : RmWf wd hg ws) (hs ts : List Int) (hh : hs.length = 24) (ht : ts.length = 24) (rb : ∀ x ∈ hs ++ ts, -32768 ≤ x ∧ x ≤ 32767) (hour north : Int) (w : World) (hws : WinsAt w sv ws) {e0 e1 e2 e3 : Addr} (hE : ErrsAt w e0 e1 e2 e3) :
    Calls Tryd.prog 3 #[.agg (roomC wd hg sv), .agg (sunC hs ts), .int .i64 hour, .int .i64 north] w fun e w' => e = .returned (.bool true) ∧ Below w.heap.size w w' := by
  obtain ⟨iw, ih, hwf⟩ := rw0
  have bad : ∀ (c : Int) (hI : ∀ (s : Value) (W : World), WinsAt W s ws → ErrsAt W e0 e1 e2 e3 → Calls Tryd.prog 11 #[.agg (roomC wd hg s), .agg (sunC hs ts), .int .i64 hour, .int .i64 north] W fun e w' => e = .returned (.tuple #[.agg (roomC 0 0 (.slice none 0 0)), .int .i64 c]) ∧ Below W.heap.size W w')
      (hS : ∀ (s : Value) (W : World), WinsAt W s ws → Calls Tryd.prog 8 #[.agg (roomC wd hg s), .agg (sunC hs ts), .int .i64 hour, .int .i64 north] W fun e w' => e = .returned (.tuple #[.agg (roomC 0 0 (.slice none 0 0)), .int .i64 c]) ∧ Below W.heap.size W w'),
      Calls Tryd.prog 3 #[.agg (roomC wd hg sv), .agg (sunC hs ts), .int .i64 hour, .int .i64 north] w fun e w' => e = .returned (.bool true) ∧ Below w.heap.size w w' := fun c hI hS =>
    lawLb_core wd hg sv ws hs ts hh ht hour north 0 0 [] (by decide) c e0 e1 e2 e3 (fun s W lo h => (hS s W (ownW_at h)).mono (fun e w' h => ⟨⟨_, h.1, .inl ⟨rfl, rfl⟩⟩, h.2⟩)) (fun s W h k => (hI s W h k).mono (fun e w' h => ⟨⟨_, h.1, .inl ⟨rfl, rfl⟩⟩, h.2⟩)) w hws hE
  cases hv : okRm wd hg ws with
  | false =>
    have sp := fun s W h => sLb_f wd hg iw ih s ws hwf hs ts hh ht rb hour north W h hv
    cases hih : inH hour with
    | false => exact bad 1 (fun s W h k => iLb_ffff wd hg s ws hs ts hh ht hour north e0 e1 e2 e3 W h k hv hih) sp
    | true =>
      cases hif : inF north with
      | false => exact bad 1 (fun s W h k => iLb_fftf wd hg s ws hs ts hh ht hour north e0 e1 e2 e3 W h k hv hih hif) sp
      | true => exact bad 1 (fun s W h k => iLb_fftt wd hg s ws hs ts hh ht hour north e0 e1 e2 e3 W h k hv hih hif) sp
  | true =>
    cases hs2 : okB hs ts with
    | false =>
      have sp := fun s W h => sLb_tf wd hg iw ih s ws hwf hs ts hh ht rb hour north W h hv hs2
      cases hih : inH hour with
      | false => exact bad 1 (fun s W h k => iLb_tfff wd hg s ws hs ts hh ht hour north e0 e1 e2 e3 W h k hv hs2 hih) sp
      | true =>
        cases hif : inF north with
        | false => exact bad 1 (fun s W h k => iLb_tftf wd hg s ws hs ts hh ht hour north e0 e1 e2 e3 W h k hv hs2 hih hif) sp
        | true => exact bad 1 (fun s W h k => iLb_tftt wd hg s ws hs ts hh ht hour north e0 e1 e2 e3 W h k hv hs2 hih hif) sp
    | true =>
      cases hih : inH hour with
      | false => exact bad 2 (fun s W h k => iLb_ttff wd hg s ws hs ts hh ht hour north e0 e1 e2 e3 W h k hv hs2 hih) (fun s W h => sLb_ttf wd hg iw ih s ws hwf hs ts hh ht rb hour north W h hv hs2 hih)
      | true =>
        cases hif : inF north with
        | false => exact bad 2 (fun s W h k => iLb_tttf wd hg s ws hs ts hh ht hour north e0 e1 e2 e3 W h k hv hs2 hih hif) (fun s W h => sLb_tttf wd hg iw ih s ws hwf hs ts hh ht rb hour north W h hv hs2 hih hif)
        | true =>
          have ok := okRm_get hv
          have hb := inF_bd hif
          have hb2 := inH_bd hih
          have q : ∀ fc, 0 ≤ fc → fc ≤ 255 → HrOk hs ts hour fc := fun fc f0 f1 => hrok_of hh ht hs2 hb2.1 hb2.2 (by unfold inF inB; simp; omega)
          exact lawLb_core wd hg sv ws hs ts hh ht hour north wd hg (ws.map (litS hs ts hour north)) (by rw [List.length_map]; exact ok.len) 0 e0 e1 e2 e3 (fun s W lo h => sLb_y wd hg iw ih s ws hwf hs ts hh ht rb hour north ok q hb.1 hb.2 lo W h hv hs2 hih hif) (fun s W h k => iLb_y wd hg s ws hs ts hh ht hour north e0 e1 e2 e3 W h k ok hwf q hb.1 hb.2 hv hs2 hih hif) w hws hE

end Go.Proofs.YtpcmcopfdghdgaaDoor
