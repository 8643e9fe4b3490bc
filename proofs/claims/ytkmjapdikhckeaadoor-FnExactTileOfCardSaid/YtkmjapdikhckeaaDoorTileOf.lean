/-
  For every room and window, valid or not: the tile is what the model says, with the same code, and the room is as it was. No conditions.
-/
import Derived.Test.YtkmjapdikhckeaaDoorTileI
import Derived.Test.YtkmjapdikhckeaaDoorLightL
import Derived.Test.YtkmjapdikhckeaaDoorRoomE
import Derived.Test.YtkmjapdikhckeaaDoorLawC
import Derived.Test.YtkmjapdikhckeaaDoorCards
import Derived.Test.YtkmjapdikhckeaaDoorTie
import Derived.SevenTiedAt
namespace Go.Proofs.YtkmjapdikhckeaaDoor
open Go.ChangeShapes Go.WideShapes Go.ChangeAt Go.RowKit Go.Deep Go.Joins

attribute [local go_sem] run_store_f

theorem alloc_step {S0 : World} {K : Act → World → Prop} {R : Act → World → Prop} {f : Nat → Act} {W : World} {o : Obj} (hK : ∀ a w, Below S0.heap.size S0 w → (Below S0.heap.size S0 w → R a w) → K a w) (hH : Below S0.heap.size S0 W)
    (h : ∀ bb V, S0.heap.size ≤ bb → V.heap[bb]? = some o → Below W.heap.size W V → Below S0.heap.size S0 V → R (f bb) V) : K (f W.heap.size) (W.alloc o) :=
  hK _ _ (hH.alloc hH.size _) (fun h2 => h W.heap.size _ hH.size (heap_alloc_new _ _) ((Below.refl _ _).alloc (Nat.le_refl _) _) h2)

set_option maxRecDepth 100000 in
set_option maxHeartbeats 1000000 in
theorem eqTile_any (p q : Int) (w : World) : Calls Tryd.prog 17 #[.agg (tileC p q), .agg (tileC p q)] w fun e w' => e = .returned (.bool true) ∧ Below w.heap.size w w' := by
  have z1 : (p != p) = false := by simp
  have z2 : (q != q) = false := by simp
  have HA := Lib.hid (two_at w (.cells (tileC p q) 31) (.cells (tileC p q) 31))
  go_enter Tryd.func17, Tryd.ntmps17
  go_upto_region 1 with (fail)
  refine abs_world (fun W => W.heap[w.heap.size]? = some (.cells (tileC p q) 31 (0, 0)) ∧ W.heap[w.heap.size + 1]? = some (.cells (tileC p q) 31 (0, 0)) ∧ Below w.heap.size w W) HA.out ?_
  clear HA
  rintro W ⟨h0, h1, hb⟩
  obtain ⟨k0, k1⟩ := tile_cells h0
  obtain ⟨p0, p1⟩ := tile_cells h1
  clear h0 h1
  go_wp2
  go_ret
  exact ⟨rfl, hb⟩

set_option maxRecDepth 100000 in
set_option maxHeartbeats 1000000 in
theorem lawTileOf_core (wd hg : Int) (sv : Value) (ws : List Wn) (x : Wn) (t1 t2 : Int) (v1 : Int) (e0 e1 e2 e3 : Addr)
    (hS : ∀ (s : Value) (W : World), WinsAt W s ws → Calls Tryd.prog 13 #[.agg (roomC wd hg s), .agg (winC x)] W fun e w' => e = .returned (.tuple #[.agg (tileC t1 t2), .int .i64 v1]) ∧ Below W.heap.size W w')
    (hI : ∀ (s : Value) (W : World), WinsAt W s ws → ErrsAt W e0 e1 e2 e3 → Calls Tryd.prog 16 #[.agg (roomC wd hg s), .agg (winC x)] W fun e w' => e = .returned (.tuple #[.agg (tileC t1 t2), .int .i64 v1]) ∧ Below W.heap.size W w')
    (w : World) (hws : WinsAt w sv ws) (hE : ErrsAt w e0 e1 e2 e3) :
    Calls Tryd.prog 3 #[.agg (roomC wd hg sv), .agg (winC x)] w fun e w' => e = .returned (.bool true) ∧ Below w.heap.size w w' := by
  have HA := Lib.hid hws
  have HX := Lib.hid hE
  have HS := Lib.hid hS
  have HI := Lib.hid hI
  have hsv := hws
  obtain ⟨a0, cap0, esv, hl1, hl2, _⟩ := hsv
  unfold maxLen at hl2
  have HZ := Lib.hid (fun w => szRoom_any wd hg a0 ws.length cap0 1048576 (by omega) (by decide) (by decide) w)
  rw [← esv] at HZ
  have hlr : (leftI ws.length 1048576 < 0 ∧ 1048576 < ws.length) ∨ (0 ≤ leftI ws.length 1048576 ∧ ws.length ≤ 1048576) := by unfold leftI; split <;> omega
  clear hws esv hl1 hl2 hE hS hI
  generalize leftI (ws.length : Int) 1048576 = lf at *
  go_enter Tryd.func3, Tryd.ntmps3
  go_upto_region 1 with (fail)
  refine abs_world (fun W => W.heap[w.heap.size]? = some (.cells (roomC wd hg sv) 25 (0, 0)) ∧ W.heap[w.heap.size + 1]? = some (.cells (winC x) 28 (0, 0)) ∧ Below w.heap.size w W) (two_at w (.cells (roomC wd hg sv) 25) (.cells (winC x) 28)) ?_
  rintro W ⟨h0, h1, hb⟩
  have H0 := Lib.hid h0
  have H1 := Lib.hid h1
  replace HA := Lib.hid (wins_below HA.out hb)
  replace HX := Lib.hid (errs_below HX.out hb)
  clear h0 h1
  rcases hlr with ⟨hlf, _⟩ | ⟨hlf, hlen⟩
  · go_wp2_with (first | (refine wpList_load_part rfl 25 _ rfl w.heap.size 0 3 rfl 25 (roomC wd hg sv) (0, 0) _ H0.out Tryd.underlying25 rfl info_roomL (room_fits _ _ _) _ (room_all _ _ _) ?_) | (go_at_call 12; refine (HZ.out _).mono ?_; rintro e W1 ⟨rfl, hb1⟩))
    go_ret
    exact ⟨rfl, hb.trans (hb1.mono hb.size)⟩
  · go_upto_region 5 with (first | (refine wpList_load_part rfl 25 _ rfl w.heap.size 0 3 rfl 25 (roomC wd hg sv) (0, 0) _ H0.out Tryd.underlying25 rfl info_roomL (room_fits _ _ _) _ (room_all _ _ _) ?_) | (go_at_call 12; refine (HZ.out _).mono ?_; rintro e W1 ⟨rfl, hb1⟩; replace H0 := Lib.hid (below_row hb1 H0.out); replace H1 := Lib.hid (below_row hb1 H1.out); replace HA := Lib.hid (wins_below HA.out hb1); replace HX := Lib.hid (errs_below HX.out hb1); replace hb := hb.trans (hb1.mono hb.size); clear hb1))
    refine Code.wp_mono (Q := fun e a V => match e with | .normal => ∃ bb v3, a = { tmps := #[.agg (roomC wd hg sv), .agg (winC x), .pointer (some ⟨w.heap.size, 0, none⟩), .pointer (some ⟨(w.heap.size + 1), 0, none⟩), .bool false, .int .i64 lf, .pointer (some ⟨bb, 0, none⟩), .int .i64 v1, undef, undef, undef, .agg (roomC wd hg sv), .int .i64 1048576, .int .i64 lf, .int .i64 lf, .bool (decide (lf < 0)), .tuple #[.agg (tileC t1 t2), .int .i64 v1], .agg (roomC wd hg sv), .agg (roomC wd hg v3), .agg (winC x), .agg (winC x), .tuple #[.agg (tileC t1 t2), .int .i64 v1], .agg (tileC t1 t2), .int .i64 v1, undef, undef, undef, undef, undef, undef, undef, undef, undef, undef, undef, undef, undef, undef, undef, undef, undef, undef, undef, undef, undef, undef, undef], defers := [] } ∧ Below W1.heap.size W1 V ∧ W1.heap.size ≤ bb ∧ V.heap[bb]? = some (.cells (tileC t1 t2) 31 (0, 0)) | _ => False) ?_ ?_
    rotate_left
    · refine wp_region_held_drew (S := (fun W => Below W1.heap.size W1 W)) (by kernel_rfl) ((Below.refl _ _).drew) (fun hHeld => ?_)
      generalize W1.drew = Wd at *
      refine take_op (i := 0) (d := 17) (v := .agg (roomC wd hg sv)) rfl rfl (by kernel_rfl) (by kernel_rfl) (by kernel_rfl) (fun _ _ _ h => h) (yields_row (by rfl) 25 (.tmp 2) (by rfl) w.heap.size 0 3 (by rfl) 25 (roomC wd hg sv) (0, 0) _ (fun _ h => below_row h H0.out) Tryd.underlying25 rfl info_roomL (room_fits _ _ _) (roomC wd hg sv) (room_all _ _ _)) hHeld ?_
      simp only [List.setIfInBounds_toArray, List.set_cons_zero, List.set_cons_succ]
      refine take_op (i := 2) (d := 19) (v := .agg (winC x)) rfl rfl (by kernel_rfl) (by kernel_rfl) (by kernel_rfl) (fun _ _ _ h => h) (yields_row (by rfl) 28 (.tmp 3) (by rfl) (w.heap.size + 1) 0 3 (by rfl) 28 (winC x) (0, 0) _ (fun _ h => below_row h H1.out) Tryd.underlying28 rfl info_winL (win_fits _) (winC x) (win_all _)) hHeld ?_
      simp only [List.setIfInBounds_toArray, List.set_cons_zero, List.set_cons_succ]
      refine wpAnyH_ready (rs := [1, 8]) (by kernel_rfl) (by simp) ?_
      refine AllReadyH.cons rfl (fun K hK => ?_) (AllReadyH.cons rfl (fun K hK => ?_) AllReadyH.nil)
      · go_simp
        refine (toRoom_any wd hg sv ws hlen _ (wins_below HA.out hHeld)).mono ?_
        rintro e W2 ⟨⟨v3, rfl, hv3⟩, hb1⟩
        refine hK.out _ _ (hHeld.trans (hb1.mono hHeld.size)) (fun hHeld2 => ?_)
        clear hK K
        replace hHeld := hHeld2
        clear hHeld2
        have HV3 := Lib.hid (ownW_at hv3)
        clear hv3
        clear hb1
        refine wpAnyH_ready (rs := [3, 8]) (by kernel_rfl) (by simp) ?_
        refine AllReadyH.cons rfl (fun K hK => ?_) (AllReadyH.cons rfl (fun K hK => ?_) AllReadyH.nil)
        · go_simp
          refine (toWindow_any x _).mono ?_
          rintro e W3 ⟨rfl, hb1⟩
          refine hK.out _ _ (hHeld.trans (hb1.mono hHeld.size)) (fun hHeld2 => ?_)
          clear hK K
          replace hHeld := hHeld2
          clear hHeld2
          replace HV3 := Lib.hid (wins_below HV3.out hb1)
          clear hb1
          refine wpAnyH_ready (rs := [4, 8]) (by kernel_rfl) (by simp) ?_
          refine AllReadyH.cons rfl (fun K hK => ?_) (AllReadyH.cons rfl (fun K hK => ?_) AllReadyH.nil)
          · go_simp
            refine (HS.out v3 _ HV3.out).mono ?_
            rintro e W4 ⟨rfl, hb1⟩
            refine hK.out _ _ (hHeld.trans (hb1.mono hHeld.size)) (fun hHeld2 => ?_)
            clear hK K
            replace hHeld := hHeld2
            clear hHeld2
            replace HV3 := Lib.hid (wins_below HV3.out hb1)
            clear hb1
            refine take_op (i := 5) (d := 16) (v := ?_) rfl rfl (by kernel_rfl) (by kernel_rfl) (by kernel_rfl) (fun _ _ _ h => h) (Or.inl ⟨by rfl, ?hy5u2⟩) hHeld ?rest5u2
            case hy5u2 =>
              intro w' hS'
              go_simp
              try with_reducible rfl
            simp only [List.setIfInBounds_toArray, List.set_cons_zero, List.set_cons_succ]
            refine take_op (i := 6) (d := 22) (v := ?_) rfl rfl (by kernel_rfl) (by kernel_rfl) (by kernel_rfl) (fun _ _ _ h => h) (Or.inl ⟨by rfl, ?hy6u3⟩) hHeld ?rest6u3
            case hy6u3 =>
              intro w' hS'
              go_simp
              try with_reducible rfl
            simp only [List.setIfInBounds_toArray, List.set_cons_zero, List.set_cons_succ]
            refine take_op (i := 7) (d := 23) (v := ?_) rfl rfl (by kernel_rfl) (by kernel_rfl) (by kernel_rfl) (fun _ _ _ h => h) (Or.inl ⟨by rfl, ?hy7u4⟩) hHeld ?rest7u4
            case hy7u4 =>
              intro w' hS'
              go_simp
              try with_reducible rfl
            simp only [List.setIfInBounds_toArray, List.set_cons_zero, List.set_cons_succ]
            refine wpAnyH_ready (rs := [8]) (by kernel_rfl) (by simp) ?_
            refine AllReadyH.cons rfl (fun K hK => ?_) AllReadyH.nil
            go_simp
            obtain ⟨bb, hbq⟩ : ∃ bb, bb = W4.heap.size := ⟨_, rfl⟩
            rw [← hbq]
            refine hK.out _ (W4.alloc (.cells (tileC 0 0) 31 (0, 0))) (hHeld.alloc hHeld.size _) (fun hHeld2 => ?_)
            have HB : Hid ((W4.alloc (.cells (tileC 0 0) 31 (0, 0))).heap[bb]? = some (.cells (tileC 0 0) 31 (0, 0))) := Lib.hid (by rw [hbq]; exact heap_alloc_new _ _)
            have hbb : W1.heap.size ≤ bb := by rw [hbq]; exact hHeld.size
            have hb1 : Below W4.heap.size W4 (W4.alloc (.cells (tileC 0 0) 31 (0, 0))) := (Below.refl _ _).alloc (Nat.le_refl _) _
            clear hK K hHeld hbq
            have hHeld := hHeld2
            clear hHeld2
            replace HV3 := Lib.hid (wins_below HV3.out hb1)
            clear hb1
            generalize (W4.alloc (.cells (tileC 0 0) 31 (0, 0))) = V at *
            have hst := run_store_row (P := Tryd.prog) _ bb 31 (tileC t1 t2) _ HB.out rfl (tile_one _ _)
            refine wpAnyH_ready (rs := [9]) (by kernel_rfl) (by simp) ?_
            refine AllReadyH.cons rfl (fun K hK => ?_) AllReadyH.nil
            go_simp
            refine hK.out _ _ (below_setRow hHeld hbb _) (fun hHeld2 => ?_)
            clear hK K hst
            refine take_op (i := 10) (d := 7) (v := ?_) rfl rfl (by kernel_rfl) (by kernel_rfl) (by kernel_rfl) (fun _ _ _ h => h) (Or.inl ⟨by rfl, ?hy10u5⟩) hHeld2 ?rest10u5
            case hy10u5 =>
              intro w' hS'
              go_simp
              try with_reducible rfl
            refine wpAnyH_done (by kernel_rfl) ?_ _
            exact ⟨bb, v3, rfl, hHeld2, hbb, setRow_heap _ _ _ _ _ _ HB.out⟩
          · go_simp
            obtain ⟨bb, hbq⟩ : ∃ bb, bb = W3.heap.size := ⟨_, rfl⟩
            rw [← hbq]
            refine hK.out _ (W3.alloc (.cells (tileC 0 0) 31 (0, 0))) (hHeld.alloc hHeld.size _) (fun hHeld2 => ?_)
            have HB : Hid ((W3.alloc (.cells (tileC 0 0) 31 (0, 0))).heap[bb]? = some (.cells (tileC 0 0) 31 (0, 0))) := Lib.hid (by rw [hbq]; exact heap_alloc_new _ _)
            have hbb : W1.heap.size ≤ bb := by rw [hbq]; exact hHeld.size
            have hb1 : Below W3.heap.size W3 (W3.alloc (.cells (tileC 0 0) 31 (0, 0))) := (Below.refl _ _).alloc (Nat.le_refl _) _
            clear hK K hHeld hbq
            have hHeld := hHeld2
            clear hHeld2
            replace HV3 := Lib.hid (wins_below HV3.out hb1)
            clear hb1
            generalize (W3.alloc (.cells (tileC 0 0) 31 (0, 0))) = V at *
            refine wpAnyH_ready (rs := [4]) (by kernel_rfl) (by simp) ?_
            refine AllReadyH.cons rfl (fun K hK => ?_) AllReadyH.nil
            go_simp
            refine (HS.out v3 _ HV3.out).mono ?_
            rintro e W4 ⟨rfl, hb1⟩
            refine hK.out _ _ (hHeld.trans (hb1.mono hHeld.size)) (fun hHeld2 => ?_)
            clear hK K
            replace hHeld := hHeld2
            clear hHeld2
            replace HV3 := Lib.hid (wins_below HV3.out hb1)
            replace HB := Lib.hid (below_row hb1 HB.out)
            clear hb1
            refine take_op (i := 5) (d := 16) (v := ?_) rfl rfl (by kernel_rfl) (by kernel_rfl) (by kernel_rfl) (fun _ _ _ h => h) (Or.inl ⟨by rfl, ?hy5u6⟩) hHeld ?rest5u6
            case hy5u6 =>
              intro w' hS'
              go_simp
              try with_reducible rfl
            simp only [List.setIfInBounds_toArray, List.set_cons_zero, List.set_cons_succ]
            refine take_op (i := 6) (d := 22) (v := ?_) rfl rfl (by kernel_rfl) (by kernel_rfl) (by kernel_rfl) (fun _ _ _ h => h) (Or.inl ⟨by rfl, ?hy6u7⟩) hHeld ?rest6u7
            case hy6u7 =>
              intro w' hS'
              go_simp
              try with_reducible rfl
            simp only [List.setIfInBounds_toArray, List.set_cons_zero, List.set_cons_succ]
            refine take_op (i := 7) (d := 23) (v := ?_) rfl rfl (by kernel_rfl) (by kernel_rfl) (by kernel_rfl) (fun _ _ _ h => h) (Or.inl ⟨by rfl, ?hy7u8⟩) hHeld ?rest7u8
            case hy7u8 =>
              intro w' hS'
              go_simp
              try with_reducible rfl
            simp only [List.setIfInBounds_toArray, List.set_cons_zero, List.set_cons_succ]
            have hst := run_store_row (P := Tryd.prog) _ bb 31 (tileC t1 t2) _ HB.out rfl (tile_one _ _)
            refine wpAnyH_ready (rs := [9]) (by kernel_rfl) (by simp) ?_
            refine AllReadyH.cons rfl (fun K hK => ?_) AllReadyH.nil
            go_simp
            refine hK.out _ _ (below_setRow hHeld hbb _) (fun hHeld2 => ?_)
            clear hK K hst
            refine take_op (i := 10) (d := 7) (v := ?_) rfl rfl (by kernel_rfl) (by kernel_rfl) (by kernel_rfl) (fun _ _ _ h => h) (Or.inl ⟨by rfl, ?hy10u9⟩) hHeld2 ?rest10u9
            case hy10u9 =>
              intro w' hS'
              go_simp
              try with_reducible rfl
            refine wpAnyH_done (by kernel_rfl) ?_ _
            exact ⟨bb, v3, rfl, hHeld2, hbb, setRow_heap _ _ _ _ _ _ HB.out⟩
        · go_simp
          obtain ⟨bb, hbq⟩ : ∃ bb, bb = W2.heap.size := ⟨_, rfl⟩
          rw [← hbq]
          refine hK.out _ (W2.alloc (.cells (tileC 0 0) 31 (0, 0))) (hHeld.alloc hHeld.size _) (fun hHeld2 => ?_)
          have HB : Hid ((W2.alloc (.cells (tileC 0 0) 31 (0, 0))).heap[bb]? = some (.cells (tileC 0 0) 31 (0, 0))) := Lib.hid (by rw [hbq]; exact heap_alloc_new _ _)
          have hbb : W1.heap.size ≤ bb := by rw [hbq]; exact hHeld.size
          have hb1 : Below W2.heap.size W2 (W2.alloc (.cells (tileC 0 0) 31 (0, 0))) := (Below.refl _ _).alloc (Nat.le_refl _) _
          clear hK K hHeld hbq
          have hHeld := hHeld2
          clear hHeld2
          replace HV3 := Lib.hid (wins_below HV3.out hb1)
          clear hb1
          generalize (W2.alloc (.cells (tileC 0 0) 31 (0, 0))) = V at *
          refine wpAnyH_ready (rs := [3]) (by kernel_rfl) (by simp) ?_
          refine AllReadyH.cons rfl (fun K hK => ?_) AllReadyH.nil
          go_simp
          refine (toWindow_any x _).mono ?_
          rintro e W3 ⟨rfl, hb1⟩
          refine hK.out _ _ (hHeld.trans (hb1.mono hHeld.size)) (fun hHeld2 => ?_)
          clear hK K
          replace hHeld := hHeld2
          clear hHeld2
          replace HV3 := Lib.hid (wins_below HV3.out hb1)
          replace HB := Lib.hid (below_row hb1 HB.out)
          clear hb1
          refine wpAnyH_ready (rs := [4]) (by kernel_rfl) (by simp) ?_
          refine AllReadyH.cons rfl (fun K hK => ?_) AllReadyH.nil
          go_simp
          refine (HS.out v3 _ HV3.out).mono ?_
          rintro e W4 ⟨rfl, hb1⟩
          refine hK.out _ _ (hHeld.trans (hb1.mono hHeld.size)) (fun hHeld2 => ?_)
          clear hK K
          replace hHeld := hHeld2
          clear hHeld2
          replace HV3 := Lib.hid (wins_below HV3.out hb1)
          replace HB := Lib.hid (below_row hb1 HB.out)
          clear hb1
          refine take_op (i := 5) (d := 16) (v := ?_) rfl rfl (by kernel_rfl) (by kernel_rfl) (by kernel_rfl) (fun _ _ _ h => h) (Or.inl ⟨by rfl, ?hy5u10⟩) hHeld ?rest5u10
          case hy5u10 =>
            intro w' hS'
            go_simp
            try with_reducible rfl
          simp only [List.setIfInBounds_toArray, List.set_cons_zero, List.set_cons_succ]
          refine take_op (i := 6) (d := 22) (v := ?_) rfl rfl (by kernel_rfl) (by kernel_rfl) (by kernel_rfl) (fun _ _ _ h => h) (Or.inl ⟨by rfl, ?hy6u11⟩) hHeld ?rest6u11
          case hy6u11 =>
            intro w' hS'
            go_simp
            try with_reducible rfl
          simp only [List.setIfInBounds_toArray, List.set_cons_zero, List.set_cons_succ]
          refine take_op (i := 7) (d := 23) (v := ?_) rfl rfl (by kernel_rfl) (by kernel_rfl) (by kernel_rfl) (fun _ _ _ h => h) (Or.inl ⟨by rfl, ?hy7u12⟩) hHeld ?rest7u12
          case hy7u12 =>
            intro w' hS'
            go_simp
            try with_reducible rfl
          simp only [List.setIfInBounds_toArray, List.set_cons_zero, List.set_cons_succ]
          have hst := run_store_row (P := Tryd.prog) _ bb 31 (tileC t1 t2) _ HB.out rfl (tile_one _ _)
          refine wpAnyH_ready (rs := [9]) (by kernel_rfl) (by simp) ?_
          refine AllReadyH.cons rfl (fun K hK => ?_) AllReadyH.nil
          go_simp
          refine hK.out _ _ (below_setRow hHeld hbb _) (fun hHeld2 => ?_)
          clear hK K hst
          refine take_op (i := 10) (d := 7) (v := ?_) rfl rfl (by kernel_rfl) (by kernel_rfl) (by kernel_rfl) (fun _ _ _ h => h) (Or.inl ⟨by rfl, ?hy10u13⟩) hHeld2 ?rest10u13
          case hy10u13 =>
            intro w' hS'
            go_simp
            try with_reducible rfl
          refine wpAnyH_done (by kernel_rfl) ?_ _
          exact ⟨bb, v3, rfl, hHeld2, hbb, setRow_heap _ _ _ _ _ _ HB.out⟩
      · go_simp
        obtain ⟨bb, hbq⟩ : ∃ bb, bb = Wd.heap.size := ⟨_, rfl⟩
        rw [← hbq]
        refine hK.out _ (Wd.alloc (.cells (tileC 0 0) 31 (0, 0))) (hHeld.alloc hHeld.size _) (fun hHeld2 => ?_)
        have HB : Hid ((Wd.alloc (.cells (tileC 0 0) 31 (0, 0))).heap[bb]? = some (.cells (tileC 0 0) 31 (0, 0))) := Lib.hid (by rw [hbq]; exact heap_alloc_new _ _)
        have hbb : W1.heap.size ≤ bb := by rw [hbq]; exact hHeld.size
        have hb1 : Below Wd.heap.size Wd (Wd.alloc (.cells (tileC 0 0) 31 (0, 0))) := (Below.refl _ _).alloc (Nat.le_refl _) _
        clear hK K hHeld hbq
        have hHeld := hHeld2
        clear hHeld2

        clear hb1
        generalize (Wd.alloc (.cells (tileC 0 0) 31 (0, 0))) = V at *
        refine wpAnyH_ready (rs := [1]) (by kernel_rfl) (by simp) ?_
        refine AllReadyH.cons rfl (fun K hK => ?_) AllReadyH.nil
        go_simp
        refine (toRoom_any wd hg sv ws hlen _ (wins_below HA.out hHeld)).mono ?_
        rintro e W2 ⟨⟨v3, rfl, hv3⟩, hb1⟩
        refine hK.out _ _ (hHeld.trans (hb1.mono hHeld.size)) (fun hHeld2 => ?_)
        clear hK K
        replace hHeld := hHeld2
        clear hHeld2
        have HV3 := Lib.hid (ownW_at hv3)
        clear hv3
        replace HB := Lib.hid (below_row hb1 HB.out)
        clear hb1
        refine wpAnyH_ready (rs := [3]) (by kernel_rfl) (by simp) ?_
        refine AllReadyH.cons rfl (fun K hK => ?_) AllReadyH.nil
        go_simp
        refine (toWindow_any x _).mono ?_
        rintro e W3 ⟨rfl, hb1⟩
        refine hK.out _ _ (hHeld.trans (hb1.mono hHeld.size)) (fun hHeld2 => ?_)
        clear hK K
        replace hHeld := hHeld2
        clear hHeld2
        replace HV3 := Lib.hid (wins_below HV3.out hb1)
        replace HB := Lib.hid (below_row hb1 HB.out)
        clear hb1
        refine wpAnyH_ready (rs := [4]) (by kernel_rfl) (by simp) ?_
        refine AllReadyH.cons rfl (fun K hK => ?_) AllReadyH.nil
        go_simp
        refine (HS.out v3 _ HV3.out).mono ?_
        rintro e W4 ⟨rfl, hb1⟩
        refine hK.out _ _ (hHeld.trans (hb1.mono hHeld.size)) (fun hHeld2 => ?_)
        clear hK K
        replace hHeld := hHeld2
        clear hHeld2
        replace HV3 := Lib.hid (wins_below HV3.out hb1)
        replace HB := Lib.hid (below_row hb1 HB.out)
        clear hb1
        refine take_op (i := 5) (d := 16) (v := ?_) rfl rfl (by kernel_rfl) (by kernel_rfl) (by kernel_rfl) (fun _ _ _ h => h) (Or.inl ⟨by rfl, ?hy5u14⟩) hHeld ?rest5u14
        case hy5u14 =>
          intro w' hS'
          go_simp
          try with_reducible rfl
        simp only [List.setIfInBounds_toArray, List.set_cons_zero, List.set_cons_succ]
        refine take_op (i := 6) (d := 22) (v := ?_) rfl rfl (by kernel_rfl) (by kernel_rfl) (by kernel_rfl) (fun _ _ _ h => h) (Or.inl ⟨by rfl, ?hy6u15⟩) hHeld ?rest6u15
        case hy6u15 =>
          intro w' hS'
          go_simp
          try with_reducible rfl
        simp only [List.setIfInBounds_toArray, List.set_cons_zero, List.set_cons_succ]
        refine take_op (i := 7) (d := 23) (v := ?_) rfl rfl (by kernel_rfl) (by kernel_rfl) (by kernel_rfl) (fun _ _ _ h => h) (Or.inl ⟨by rfl, ?hy7u16⟩) hHeld ?rest7u16
        case hy7u16 =>
          intro w' hS'
          go_simp
          try with_reducible rfl
        simp only [List.setIfInBounds_toArray, List.set_cons_zero, List.set_cons_succ]
        have hst := run_store_row (P := Tryd.prog) _ bb 31 (tileC t1 t2) _ HB.out rfl (tile_one _ _)
        refine wpAnyH_ready (rs := [9]) (by kernel_rfl) (by simp) ?_
        refine AllReadyH.cons rfl (fun K hK => ?_) AllReadyH.nil
        go_simp
        refine hK.out _ _ (below_setRow hHeld hbb _) (fun hHeld2 => ?_)
        clear hK K hst
        refine take_op (i := 10) (d := 7) (v := ?_) rfl rfl (by kernel_rfl) (by kernel_rfl) (by kernel_rfl) (fun _ _ _ h => h) (Or.inl ⟨by rfl, ?hy10u17⟩) hHeld2 ?rest10u17
        case hy10u17 =>
          intro w' hS'
          go_simp
          try with_reducible rfl
        refine wpAnyH_done (by kernel_rfl) ?_ _
        exact ⟨bb, v3, rfl, hHeld2, hbb, setRow_heap _ _ _ _ _ _ HB.out⟩
    rintro e a V h
    cases e with
    | normal =>
      obtain ⟨b5, v3, rfl, hb1, hbb5, hB5⟩ := h
      have HB5 := Lib.hid hB5
      clear hB5 hbb5
      replace H0 := Lib.hid (below_row hb1 H0.out); replace H1 := Lib.hid (below_row hb1 H1.out); replace HA := Lib.hid (wins_below HA.out hb1); replace HX := Lib.hid (errs_below HX.out hb1); replace hb := hb.trans (hb1.mono hb.size); clear hb1
      dsimp only
      go_upto_region 7 with (first | (refine wpList_load_part rfl 25 _ rfl w.heap.size 0 3 rfl 25 (roomC wd hg sv) (0, 0) _ H0.out Tryd.underlying25 rfl info_roomL (room_fits _ _ _) _ (room_all _ _ _) ?_) | (go_at_call 14; refine (toRoom_any wd hg sv ws hlen _ HA.out).mono ?_; rintro e W5 ⟨⟨v1', rfl, hv⟩, hb1⟩; have HV1 := Lib.hid hv; clear hv; replace H0 := Lib.hid (below_row hb1 H0.out); replace H1 := Lib.hid (below_row hb1 H1.out); replace HA := Lib.hid (wins_below HA.out hb1); replace HX := Lib.hid (errs_below HX.out hb1); replace hb := hb.trans (hb1.mono hb.size); replace HB5 := Lib.hid (below_row hb1 HB5.out); clear hb1) | (refine wpList_store_part rfl 36 _ _ rfl _ 0 (roomC wd hg v1') rfl rfl 36 _ (heap_alloc_new _ _) (by kernel_rfl) (Nat.le_refl _) (room_one wd hg HV1.out) ?_; rw [laid_allr _ _ (by rfl)]))
      refine abs_world (fun V => Below W5.heap.size W5 V ∧ V.heap[W5.heap.size]? = some (.cells (roomC wd hg v1') 36 (0, 0))) ⟨below_setRow ((Below.refl _ _).alloc (Nat.le_refl _) _) (Nat.le_refl _) _, setRow_heap _ _ _ _ _ _ (heap_alloc_new _ _)⟩ ?_
      rintro W8 ⟨hb1, hr⟩
      have HR := Lib.hid hr
      replace HV1 := Lib.hid (wins_below (ownW_at HV1.out) hb1)
      replace H0 := Lib.hid (below_row hb1 H0.out); replace H1 := Lib.hid (below_row hb1 H1.out); replace HA := Lib.hid (wins_below HA.out hb1); replace HX := Lib.hid (errs_below HX.out hb1); replace hb := hb.trans (hb1.mono hb.size); replace HB5 := Lib.hid (below_row hb1 HB5.out); clear hb1
      clear hr
      generalize W5.heap.size = rb at *
      dsimp only [Act.put]
      refine Code.wp_mono (Q := fun e a V => match e with | .normal => ∃ bb, a = { tmps := #[.agg (roomC wd hg sv), .agg (winC x), .pointer (some ⟨w.heap.size, 0, none⟩), .pointer (some ⟨(w.heap.size + 1), 0, none⟩), .bool false, .int .i64 lf, .pointer (some ⟨b5, 0, none⟩), .int .i64 v1, .pointer (some ⟨rb, 0, none⟩), .pointer (some ⟨bb, 0, none⟩), .int .i64 v1, .agg (roomC wd hg sv), .int .i64 1048576, .int .i64 lf, .int .i64 lf, .bool (decide (lf < 0)), .tuple #[.agg (tileC t1 t2), .int .i64 v1], .agg (roomC wd hg sv), .agg (roomC wd hg v3), .agg (winC x), .agg (winC x), .tuple #[.agg (tileC t1 t2), .int .i64 v1], .agg (tileC t1 t2), .int .i64 v1, .agg (roomC wd hg sv), .agg (roomC wd hg v1'), .tuple #[.agg (tileC t1 t2), .int .i64 v1], .agg (roomC wd hg v1'), .agg (winC x), .agg (winC x), .tuple #[.agg (tileC t1 t2), .int .i64 v1], .agg (tileC t1 t2), .int .i64 v1, undef, undef, undef, undef, undef, undef, undef, undef, undef, undef, undef, undef, undef, undef], defers := [] } ∧ Below W8.heap.size W8 V ∧ W8.heap.size ≤ bb ∧ V.heap[bb]? = some (.cells (tileC t1 t2) 31 (0, 0)) | _ => False) ?_ ?_
      rotate_left
      · refine wp_region_held_drew (S := (fun W => Below W8.heap.size W8 W)) (by kernel_rfl) ((Below.refl _ _).drew) (fun hHeld => ?_)
        generalize W8.drew = Wd7 at *
        refine take_op (i := 0) (d := 27) (v := .agg (roomC wd hg v1')) rfl rfl (by kernel_rfl) (by kernel_rfl) (by kernel_rfl) (fun _ _ _ h => h) (yields_row (by rfl) 36 (.tmp 8) (by rfl) rb 0 3 (by rfl) 36 (roomC wd hg v1') (0, 0) _ (fun _ h => below_row h HR.out) Tryd.underlying36 rfl info_room (room_fits _ _ _) (roomC wd hg v1') (room_all _ _ _)) hHeld ?_
        simp only [List.setIfInBounds_toArray, List.set_cons_zero, List.set_cons_succ]
        refine take_op (i := 1) (d := 28) (v := .agg (winC x)) rfl rfl (by kernel_rfl) (by kernel_rfl) (by kernel_rfl) (fun _ _ _ h => h) (yields_row (by rfl) 28 (.tmp 3) (by rfl) (w.heap.size + 1) 0 3 (by rfl) 28 (winC x) (0, 0) _ (fun _ h => below_row h H1.out) Tryd.underlying28 rfl info_winL (win_fits _) (winC x) (win_all _)) hHeld ?_
        simp only [List.setIfInBounds_toArray, List.set_cons_zero, List.set_cons_succ]
        refine wpAnyH_ready (rs := [2, 7]) (by kernel_rfl) (by simp) ?_
        refine AllReadyH.cons rfl (fun K hK => ?_) (AllReadyH.cons rfl (fun K hK => ?_) AllReadyH.nil)
        · go_simp
          refine (toWindow_any x _).mono ?_
          rintro e W9 ⟨rfl, hb1⟩
          refine hK.out _ _ (hHeld.trans (hb1.mono hHeld.size)) (fun hHeld2 => ?_)
          clear hK K
          replace hHeld := hHeld2
          clear hHeld2
          clear hb1
          refine wpAnyH_ready (rs := [3, 7]) (by kernel_rfl) (by simp) ?_
          refine AllReadyH.cons rfl (fun K hK => ?_) (AllReadyH.cons rfl (fun K hK => ?_) AllReadyH.nil)
          · go_simp
            refine (HI.out v1' _ (wins_below HV1.out hHeld) (errs_below HX.out hHeld)).mono ?_
            rintro e W10 ⟨rfl, hb1⟩
            refine hK.out _ _ (hHeld.trans (hb1.mono hHeld.size)) (fun hHeld2 => ?_)
            clear hK K
            replace hHeld := hHeld2
            clear hHeld2
            clear hb1
            refine take_op (i := 4) (d := 26) (v := ?_) rfl rfl (by kernel_rfl) (by kernel_rfl) (by kernel_rfl) (fun _ _ _ h => h) (Or.inl ⟨by rfl, ?hy4u18⟩) hHeld ?rest4u18
            case hy4u18 =>
              intro w' hS'
              go_simp
              try with_reducible rfl
            simp only [List.setIfInBounds_toArray, List.set_cons_zero, List.set_cons_succ]
            refine take_op (i := 5) (d := 31) (v := ?_) rfl rfl (by kernel_rfl) (by kernel_rfl) (by kernel_rfl) (fun _ _ _ h => h) (Or.inl ⟨by rfl, ?hy5u19⟩) hHeld ?rest5u19
            case hy5u19 =>
              intro w' hS'
              go_simp
              try with_reducible rfl
            simp only [List.setIfInBounds_toArray, List.set_cons_zero, List.set_cons_succ]
            refine take_op (i := 6) (d := 32) (v := ?_) rfl rfl (by kernel_rfl) (by kernel_rfl) (by kernel_rfl) (fun _ _ _ h => h) (Or.inl ⟨by rfl, ?hy6u20⟩) hHeld ?rest6u20
            case hy6u20 =>
              intro w' hS'
              go_simp
              try with_reducible rfl
            simp only [List.setIfInBounds_toArray, List.set_cons_zero, List.set_cons_succ]
            refine wpAnyH_ready (rs := [7]) (by kernel_rfl) (by simp) ?_
            refine AllReadyH.cons rfl (fun K hK => ?_) AllReadyH.nil
            go_simp
            obtain ⟨bb, hbq⟩ : ∃ bb, bb = W10.heap.size := ⟨_, rfl⟩
            rw [← hbq]
            refine hK.out _ (W10.alloc (.cells (tileC 0 0) 31 (0, 0))) (hHeld.alloc hHeld.size _) (fun hHeld2 => ?_)
            have HB : Hid ((W10.alloc (.cells (tileC 0 0) 31 (0, 0))).heap[bb]? = some (.cells (tileC 0 0) 31 (0, 0))) := Lib.hid (by rw [hbq]; exact heap_alloc_new _ _)
            have hbb : W8.heap.size ≤ bb := by rw [hbq]; exact hHeld.size
            have hb1 : Below W10.heap.size W10 (W10.alloc (.cells (tileC 0 0) 31 (0, 0))) := (Below.refl _ _).alloc (Nat.le_refl _) _
            clear hK K hHeld hbq
            have hHeld := hHeld2
            clear hHeld2

            clear hb1
            generalize (W10.alloc (.cells (tileC 0 0) 31 (0, 0))) = V at *
            have hst := run_store_row (P := Tryd.prog) _ bb 31 (tileC t1 t2) _ HB.out rfl (tile_one _ _)
            refine wpAnyH_ready (rs := [8]) (by kernel_rfl) (by simp) ?_
            refine AllReadyH.cons rfl (fun K hK => ?_) AllReadyH.nil
            go_simp
            refine hK.out _ _ (below_setRow hHeld hbb _) (fun hHeld2 => ?_)
            clear hK K hst
            refine take_op (i := 9) (d := 10) (v := ?_) rfl rfl (by kernel_rfl) (by kernel_rfl) (by kernel_rfl) (fun _ _ _ h => h) (Or.inl ⟨by rfl, ?hy9u21⟩) hHeld2 ?rest9u21
            case hy9u21 =>
              intro w' hS'
              go_simp
              try with_reducible rfl
            refine wpAnyH_done (by kernel_rfl) ?_ _
            exact ⟨bb, rfl, hHeld2, hbb, setRow_heap _ _ _ _ _ _ HB.out⟩
          · go_simp
            obtain ⟨bb, hbq⟩ : ∃ bb, bb = W9.heap.size := ⟨_, rfl⟩
            rw [← hbq]
            refine hK.out _ (W9.alloc (.cells (tileC 0 0) 31 (0, 0))) (hHeld.alloc hHeld.size _) (fun hHeld2 => ?_)
            have HB : Hid ((W9.alloc (.cells (tileC 0 0) 31 (0, 0))).heap[bb]? = some (.cells (tileC 0 0) 31 (0, 0))) := Lib.hid (by rw [hbq]; exact heap_alloc_new _ _)
            have hbb : W8.heap.size ≤ bb := by rw [hbq]; exact hHeld.size
            have hb1 : Below W9.heap.size W9 (W9.alloc (.cells (tileC 0 0) 31 (0, 0))) := (Below.refl _ _).alloc (Nat.le_refl _) _
            clear hK K hHeld hbq
            have hHeld := hHeld2
            clear hHeld2

            clear hb1
            generalize (W9.alloc (.cells (tileC 0 0) 31 (0, 0))) = V at *
            refine wpAnyH_ready (rs := [3]) (by kernel_rfl) (by simp) ?_
            refine AllReadyH.cons rfl (fun K hK => ?_) AllReadyH.nil
            go_simp
            refine (HI.out v1' _ (wins_below HV1.out hHeld) (errs_below HX.out hHeld)).mono ?_
            rintro e W10 ⟨rfl, hb1⟩
            refine hK.out _ _ (hHeld.trans (hb1.mono hHeld.size)) (fun hHeld2 => ?_)
            clear hK K
            replace hHeld := hHeld2
            clear hHeld2
            replace HB := Lib.hid (below_row hb1 HB.out)
            clear hb1
            refine take_op (i := 4) (d := 26) (v := ?_) rfl rfl (by kernel_rfl) (by kernel_rfl) (by kernel_rfl) (fun _ _ _ h => h) (Or.inl ⟨by rfl, ?hy4u22⟩) hHeld ?rest4u22
            case hy4u22 =>
              intro w' hS'
              go_simp
              try with_reducible rfl
            simp only [List.setIfInBounds_toArray, List.set_cons_zero, List.set_cons_succ]
            refine take_op (i := 5) (d := 31) (v := ?_) rfl rfl (by kernel_rfl) (by kernel_rfl) (by kernel_rfl) (fun _ _ _ h => h) (Or.inl ⟨by rfl, ?hy5u23⟩) hHeld ?rest5u23
            case hy5u23 =>
              intro w' hS'
              go_simp
              try with_reducible rfl
            simp only [List.setIfInBounds_toArray, List.set_cons_zero, List.set_cons_succ]
            refine take_op (i := 6) (d := 32) (v := ?_) rfl rfl (by kernel_rfl) (by kernel_rfl) (by kernel_rfl) (fun _ _ _ h => h) (Or.inl ⟨by rfl, ?hy6u24⟩) hHeld ?rest6u24
            case hy6u24 =>
              intro w' hS'
              go_simp
              try with_reducible rfl
            simp only [List.setIfInBounds_toArray, List.set_cons_zero, List.set_cons_succ]
            have hst := run_store_row (P := Tryd.prog) _ bb 31 (tileC t1 t2) _ HB.out rfl (tile_one _ _)
            refine wpAnyH_ready (rs := [8]) (by kernel_rfl) (by simp) ?_
            refine AllReadyH.cons rfl (fun K hK => ?_) AllReadyH.nil
            go_simp
            refine hK.out _ _ (below_setRow hHeld hbb _) (fun hHeld2 => ?_)
            clear hK K hst
            refine take_op (i := 9) (d := 10) (v := ?_) rfl rfl (by kernel_rfl) (by kernel_rfl) (by kernel_rfl) (fun _ _ _ h => h) (Or.inl ⟨by rfl, ?hy9u25⟩) hHeld2 ?rest9u25
            case hy9u25 =>
              intro w' hS'
              go_simp
              try with_reducible rfl
            refine wpAnyH_done (by kernel_rfl) ?_ _
            exact ⟨bb, rfl, hHeld2, hbb, setRow_heap _ _ _ _ _ _ HB.out⟩
        · go_simp
          obtain ⟨bb, hbq⟩ : ∃ bb, bb = Wd7.heap.size := ⟨_, rfl⟩
          rw [← hbq]
          refine hK.out _ (Wd7.alloc (.cells (tileC 0 0) 31 (0, 0))) (hHeld.alloc hHeld.size _) (fun hHeld2 => ?_)
          have HB : Hid ((Wd7.alloc (.cells (tileC 0 0) 31 (0, 0))).heap[bb]? = some (.cells (tileC 0 0) 31 (0, 0))) := Lib.hid (by rw [hbq]; exact heap_alloc_new _ _)
          have hbb : W8.heap.size ≤ bb := by rw [hbq]; exact hHeld.size
          have hb1 : Below Wd7.heap.size Wd7 (Wd7.alloc (.cells (tileC 0 0) 31 (0, 0))) := (Below.refl _ _).alloc (Nat.le_refl _) _
          clear hK K hHeld hbq
          have hHeld := hHeld2
          clear hHeld2

          clear hb1
          generalize (Wd7.alloc (.cells (tileC 0 0) 31 (0, 0))) = V at *
          refine wpAnyH_ready (rs := [2]) (by kernel_rfl) (by simp) ?_
          refine AllReadyH.cons rfl (fun K hK => ?_) AllReadyH.nil
          go_simp
          refine (toWindow_any x _).mono ?_
          rintro e W9 ⟨rfl, hb1⟩
          refine hK.out _ _ (hHeld.trans (hb1.mono hHeld.size)) (fun hHeld2 => ?_)
          clear hK K
          replace hHeld := hHeld2
          clear hHeld2
          replace HB := Lib.hid (below_row hb1 HB.out)
          clear hb1
          refine wpAnyH_ready (rs := [3]) (by kernel_rfl) (by simp) ?_
          refine AllReadyH.cons rfl (fun K hK => ?_) AllReadyH.nil
          go_simp
          refine (HI.out v1' _ (wins_below HV1.out hHeld) (errs_below HX.out hHeld)).mono ?_
          rintro e W10 ⟨rfl, hb1⟩
          refine hK.out _ _ (hHeld.trans (hb1.mono hHeld.size)) (fun hHeld2 => ?_)
          clear hK K
          replace hHeld := hHeld2
          clear hHeld2
          replace HB := Lib.hid (below_row hb1 HB.out)
          clear hb1
          refine take_op (i := 4) (d := 26) (v := ?_) rfl rfl (by kernel_rfl) (by kernel_rfl) (by kernel_rfl) (fun _ _ _ h => h) (Or.inl ⟨by rfl, ?hy4u26⟩) hHeld ?rest4u26
          case hy4u26 =>
            intro w' hS'
            go_simp
            try with_reducible rfl
          simp only [List.setIfInBounds_toArray, List.set_cons_zero, List.set_cons_succ]
          refine take_op (i := 5) (d := 31) (v := ?_) rfl rfl (by kernel_rfl) (by kernel_rfl) (by kernel_rfl) (fun _ _ _ h => h) (Or.inl ⟨by rfl, ?hy5u27⟩) hHeld ?rest5u27
          case hy5u27 =>
            intro w' hS'
            go_simp
            try with_reducible rfl
          simp only [List.setIfInBounds_toArray, List.set_cons_zero, List.set_cons_succ]
          refine take_op (i := 6) (d := 32) (v := ?_) rfl rfl (by kernel_rfl) (by kernel_rfl) (by kernel_rfl) (fun _ _ _ h => h) (Or.inl ⟨by rfl, ?hy6u28⟩) hHeld ?rest6u28
          case hy6u28 =>
            intro w' hS'
            go_simp
            try with_reducible rfl
          simp only [List.setIfInBounds_toArray, List.set_cons_zero, List.set_cons_succ]
          have hst := run_store_row (P := Tryd.prog) _ bb 31 (tileC t1 t2) _ HB.out rfl (tile_one _ _)
          refine wpAnyH_ready (rs := [8]) (by kernel_rfl) (by simp) ?_
          refine AllReadyH.cons rfl (fun K hK => ?_) AllReadyH.nil
          go_simp
          refine hK.out _ _ (below_setRow hHeld hbb _) (fun hHeld2 => ?_)
          clear hK K hst
          refine take_op (i := 9) (d := 10) (v := ?_) rfl rfl (by kernel_rfl) (by kernel_rfl) (by kernel_rfl) (fun _ _ _ h => h) (Or.inl ⟨by rfl, ?hy9u29⟩) hHeld2 ?rest9u29
          case hy9u29 =>
            intro w' hS'
            go_simp
            try with_reducible rfl
          refine wpAnyH_done (by kernel_rfl) ?_ _
          exact ⟨bb, rfl, hHeld2, hbb, setRow_heap _ _ _ _ _ _ HB.out⟩
      rintro e a V9 h
      cases e with
      | normal =>
        obtain ⟨b9, rfl, hb1, hbb9, hB9⟩ := h
        have HB9 := Lib.hid hB9
        replace HB5 := Lib.hid (below_row hb1 HB5.out)
        replace H0 := Lib.hid (below_row hb1 H0.out); replace HA := Lib.hid (wins_below HA.out hb1); replace HR := Lib.hid (below_row hb1 HR.out); replace HV1 := Lib.hid (wins_below HV1.out hb1); replace hb := hb.trans (hb1.mono hb.size)
        clear hB9 hbb9 hb1 H1 HX
        dsimp only
        go_upto_region 10 with (first | (refine wpList_load_part rfl 31 _ rfl b9 0 2 rfl 31 (tileC t1 t2) (0, 0) _ HB9.out Tryd.underlying31 rfl info_tile (tile_fits _ _) _ (tile_all _ _) ?_) | (refine wpList_load_part rfl 31 _ rfl b5 0 2 rfl 31 (tileC t1 t2) (0, 0) _ HB5.out Tryd.underlying31 rfl info_tile (tile_fits _ _) _ (tile_all _ _) ?_) | (go_at_call 17; refine (eqTile_any _ _ _).mono ?_; rintro e W11 ⟨rfl, hb1⟩; replace H0 := Lib.hid (below_row hb1 H0.out); replace HA := Lib.hid (wins_below HA.out hb1); replace HR := Lib.hid (below_row hb1 HR.out); replace HV1 := Lib.hid (wins_below HV1.out hb1); replace hb := hb.trans (hb1.mono hb.size); clear hb1))
        refine wp_region_held_drew (S := (fun W => W.heap[rb]? = some (.cells (roomC wd hg v1') 36 (0, 0)) ∧ W.heap[w.heap.size]? = some (.cells (roomC wd hg sv) 25 (0, 0)) ∧ WinsAt W sv ws ∧ WinsAt W v1' ws ∧ Below w.heap.size w W)) (by kernel_rfl) ⟨HR.out, H0.out, HA.out, HV1.out, hb.drew⟩ (fun hHeld => ?_)
        refine take_op (i := 0) (d := 42) (v := .agg (roomC wd hg v1')) rfl rfl (by kernel_rfl) (by kernel_rfl) (by kernel_rfl) (fun _ _ _ h => h) (yields_row (by rfl) 36 (.tmp 8) (by rfl) rb 0 3 (by rfl) 36 (roomC wd hg v1') (0, 0) _ (fun _ h => h.1) Tryd.underlying36 rfl info_room (room_fits _ _ _) (roomC wd hg v1') (room_all _ _ _)) hHeld ?_
        simp only [List.setIfInBounds_toArray, List.set_cons_zero, List.set_cons_succ]
        refine take_op (i := 1) (d := 43) (v := .agg (roomC wd hg sv)) rfl rfl (by kernel_rfl) (by kernel_rfl) (by kernel_rfl) (fun _ _ _ h => h) (yields_row (by rfl) 25 (.tmp 2) (by rfl) w.heap.size 0 3 (by rfl) 25 (roomC wd hg sv) (0, 0) _ (fun _ h => h.2.1) Tryd.underlying25 rfl info_roomL (room_fits _ _ _) (roomC wd hg sv) (room_all _ _ _)) hHeld ?_
        simp only [List.setIfInBounds_toArray, List.set_cons_zero, List.set_cons_succ]
        refine wpAnyH_ready (rs := [2]) (by kernel_rfl) (by simp) ?_
        refine AllReadyH.cons rfl (fun K hK => ?_) AllReadyH.nil
        go_simp
        refine (toRoom_any wd hg sv ws hlen _ hHeld.2.2.1).mono ?_
        rintro e W1 ⟨⟨v9, rfl, hv9⟩, hb1⟩
        have HV9 := Lib.hid (ownW_at hv9)
        clear hv9
        refine hK.out _ _ (⟨below_row hb1 hHeld.1, below_row hb1 hHeld.2.1, wins_below hHeld.2.2.1 hb1, wins_below hHeld.2.2.2.1 hb1, hHeld.2.2.2.2.trans (hb1.mono hHeld.2.2.2.2.size)⟩) (fun hHeld2 => ?_)
        clear hK K
        replace hHeld := hHeld2
        clear hHeld2
        clear hb1
        refine wpAnyH_ready (rs := [3]) (by kernel_rfl) (by simp) ?_
        refine AllReadyH.cons rfl (fun K hK => ?_) AllReadyH.nil
        go_simp
        refine (eqRoom_any wd hg v1' v9 ws _ hHeld.2.2.2.1 HV9.out).mono ?_
        rintro e W2 ⟨rfl, hb1⟩
        refine hK.out _ _ (⟨below_row hb1 hHeld.1, below_row hb1 hHeld.2.1, wins_below hHeld.2.2.1 hb1, wins_below hHeld.2.2.2.1 hb1, hHeld.2.2.2.2.trans (hb1.mono hHeld.2.2.2.2.size)⟩) (fun hHeld2 => ?_)
        clear hK K
        replace hHeld := hHeld2
        clear hHeld2
        clear hb1
        refine take_op (i := 4) (d := 46) (v := ?_) rfl rfl (by kernel_rfl) (by kernel_rfl) (by kernel_rfl) (fun _ _ _ h => h) (Or.inl ⟨by rfl, ?hy4u30⟩) hHeld ?rest4u30
        case hy4u30 =>
          intro w' hS'
          go_simp
          try with_reducible rfl
        simp only [List.setIfInBounds_toArray, List.set_cons_zero, List.set_cons_succ]
        refine wpAnyH_done (by kernel_rfl) ?_ _
        have hbz := hHeld.2.2.2.2
        clear hHeld
        go_wp2
        go_ret
        exact ⟨rfl, hbz⟩
      | _ => exact h.elim
    | _ => exact h.elim

theorem lawTileOf_walk (wd hg : Int) (sv : Value) (ws : List Wn) (rw0 : RmWf wd hg ws) (x : Wn) (hx : WnWf x) (w : World) (hws : WinsAt w sv ws) {e0 e1 e2 e3 : Addr} (hE : ErrsAt w e0 e1 e2 e3) :
    Calls Tryd.prog 3 #[.agg (roomC wd hg sv), .agg (winC x)] w fun e w' => e = .returned (.bool true) ∧ Below w.heap.size w w' := by
  obtain ⟨iw, ih, hwf⟩ := rw0
  cases hv : okRm wd hg ws with
  | false => exact lawTileOf_core wd hg sv ws x 0 0 _ e0 e1 e2 e3 (fun s W h => STileOf_n1 wd hg s ws x iw ih hwf hx _ W h rfl (by rw [hv]; rfl)) (fun s W h k => TileOf_n1 wd hg s ws x _ _ e0 e1 e2 e3 W h k hv rfl rfl) w hws hE
  | true =>
    cases hr : fitB wd hg x with
    | false => exact lawTileOf_core wd hg sv ws x 0 0 _ e0 e1 e2 e3 (fun s W h => STileOf_n2 wd hg s ws x iw ih hwf hx _ W h hr (by rw [hv]; rfl)) (fun s W h k => TileOf_n2 wd hg s ws x _ _ e0 e1 e2 e3 W h k hv hr rfl) w hws hE
    | true =>
      have ok := okRm_get hv
      have hf := fit_get hx hr
      have hrb : RB wd hg := ⟨ok.w0, ok.w1, ok.h0, ok.h1⟩
      exact lawTileOf_core wd hg sv ws x _ _ _ e0 e1 e2 e3 (fun s W h => STileOf_y wd hg s ws x hf hrb iw ih hwf hx _ W h hr (by rw [hv]; rfl)) (fun s W h k => TileOf_y wd hg s ws x hf hrb _ _ e0 e1 e2 e3 W h k hv hr rfl) w hws hE

set_option maxRecDepth 100000 in
theorem FnExactTileOf_row : Rows.FnExactTileOfSaid :=
  OpenClaim.holds_of_wide 3 Tryd.f3 rfl rfl rfl rfl rfl rfl rfl ⟨rfl, rfl, rfl, rfl, rfl⟩ rfl rfl rfl rfl rfl (by kernel_rfl) Tryd.func3 (by kernel_rfl)
    (of_decide_eq_true (by kernel_rfl)) (by unfold Func.isWrapper; first | (rw [if_pos (by decide +kernel)]; kernel_rfl) | (rw [if_neg (by decide +kernel)]; exact ⟨rfl, rfl⟩))
    (fun os started H enc _ => law_liftedC 3 Tryd.f3 Rows.fnExactTileOfSpec Rows.fnExactTileOfRow.domain os started H enc (by kernel_rfl) Tryd.func3 (by kernel_rfl) rfl rfl
      (by rw [Tryd.params3]; intro t ht; simp only [List.mem_cons, List.not_mem_nil, or_false] at ht; rcases ht with rfl | rfl <;> exact ⟨by kernel_rfl, of_decide_eq_true (by kernel_rfl)⟩)
      (fun ds gs hl hg => by
        match ds, hl, gs, hg with
        | [d0, d1], _, [g0, g1, g2, g3], _ => rfl)
      (ChangeSpec.witness_shaped (enc := enc) (C := Tryd.checked) (os := os) (X := Met) false (World.doorLaid Tryd.prog 85 os) #[.agg #[.int .i8 0, .int .i8 0, .slice none 0 0], .agg #[.int .i8 0, .int .i8 0, .float .f32 0]] 8 rfl (World.shaped_of_RefB (by kernel_rfl) (by kernel_rfl)) (by kernel_rfl) (by kernel_rfl) (by kernel_rfl) (door_met os _))
      (fun W base args ds p hval hA hL => by
        rw [Tryd.params3] at hA hval
        obtain ⟨v0, vs0, d0, ds0, p0, q0, hargs, rfl, rfl, h0, r0⟩ := trodAll_cons hA
        obtain ⟨v1, vs1, d1, ds1, p1, q1, rfl, rfl, rfl, h1, r1⟩ := trodAll_cons r0
        obtain ⟨rfl, rfl, rfl⟩ := trodAll_nil r1
        obtain rfl : args = #[v0, v1] := by cases args; simp_all
        obtain ⟨wd0, hg0, sv0, ws0, rfl, rw0, hw0⟩ := open_room (hval 0 25 v0 rfl rfl) h0
        obtain ⟨wn1, wnw1, rfl⟩ := open_window (hval 1 28 v1 rfl rfl) h1
        obtain ⟨e0, e1, e2, e3, hE⟩ := errs_of hL
        exact lawTileOf_walk wd0 hg0 sv0 ws0 rw0 wn1 wnw1 W hw0 hE))

set_option maxRecDepth 100000 in
theorem FnExactTileOf_holds : Rows.FnExactTileOfCardSaid :=
  Claim7.holds_tied_plain_at .later [] [.sentinel, .sentinel, .sentinel, .sentinel] true Rows.fnExactTileOfCard.stood.harness true
    FnExactTileOf_row (fun _ h => by cases h) (by kernel_rfl) (fun _ h => by cases h) fnExactTileOf_row_tie rfl ⟨rfl, rfl⟩ (by kernel_rfl) rfl
    (fun f fn hf hfn => by
      obtain rfl : f = 3 := Option.some.inj ((show Tryd.prog.funcNamed "loop.example/g01367/laws.FnExactTileOf" = some 3 by kernel_rfl).symm.trans hf) |>.symm
      obtain rfl : fn = Tryd.f3 := (Option.some.inj (Tryd.func3.symm.trans hfn)).symm
      exact ⟨by kernel_rfl, fun j t ht => by
        rw [Tryd.params3] at ht
        have hm : t ∈ [25, 28] := by
          have := Array.mem_of_getElem? ht
          simpa using this
        simp only [List.mem_cons, List.not_mem_nil, or_false] at hm
        rcases hm with rfl | rfl <;> (show Tryd.prog.wantsStandIn _ = false; kernel_rfl)⟩)
    (by kernel_rfl)
#print axioms FnExactTileOf_holds

end Go.Proofs.YtkmjapdikhckeaaDoor
