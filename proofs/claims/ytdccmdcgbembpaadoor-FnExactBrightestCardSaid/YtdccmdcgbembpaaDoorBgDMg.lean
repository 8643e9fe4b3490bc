/-
  BgD.
-/
import Derived.Test.YtdccmdcgbembpaaDoorMb1
import Derived.Test.YtdccmdcgbembpaaDoorRoomE
import Derived.Test.YtdccmdcgbembpaaDoorRoomK
import Derived.Test.YtdccmdcgbembpaaDoorLawC
import Derived.Test.YtdccmdcgbembpaaDoorSameN

namespace Go.Proofs.YtdccmdcgbembpaaDoor
open Go.ChangeShapes Go.WideShapes Go.ChangeAt Go.RowKit Go.Deep Go.Joins

attribute [local go_sem] run_store_floatE

set_option maxRecDepth 100000 in
set_option maxHeartbeats 1000000 in
theorem eqTile_anyB (p q : Int) (w : World) : Calls Tryd.prog 15 #[.agg (tileC p q), .agg (tileC p q)] w fun e w' => e = .returned (.bool true) ∧ Below w.heap.size w w' := by
  have z1 : (p != p) = false := by simp
  have z2 : (q != q) = false := by simp
  have HA := Lib.hid (two_at w (.cells (tileC p q) 28) (.cells (tileC p q) 28))
  go_enter Tryd.func15, Tryd.ntmps15
  go_upto_region 1 with (fail)
  refine abs_world (fun W => W.heap[w.heap.size]? = some (.cells (tileC p q) 28 (0, 0)) ∧ W.heap[w.heap.size + 1]? = some (.cells (tileC p q) 28 (0, 0)) ∧ Below w.heap.size w W) HA.out ?_
  clear HA
  rintro W ⟨h0, h1, hb⟩
  obtain ⟨k0, k1⟩ := tile_cells h0
  obtain ⟨p0, p1⟩ := tile_cells h1
  clear h0 h1
  go_wp2
  go_ret
  exact ⟨rfl, hb⟩

set_option maxRecDepth 100000 in
set_option maxHeartbeats 8000000 in
theorem FnExactBrightest_core (wd hg : Int) (sv : Value) (ws : List Wn) (bx bY : Int) (v0 : Nat) (hf : fin32 v0 = true) (v1 : Int) (e0 e1 e2 e3 : Addr)
    (hS : ∀ (s : Value) (W : World), WinsAt W s ws → Calls Tryd.prog 12 #[.agg (roomC wd hg s)] W fun e w' => e = .returned (.tuple #[.agg (tileC bx bY), .float .f32 v0, .int .i64 v1]) ∧ Below W.heap.size W w')
    (hI : ∀ (s : Value) (W : World), WinsAt W s ws → ErrsAt W e0 e1 e2 e3 → Calls Tryd.prog 14 #[.agg (roomC wd hg s)] W fun e w' => e = .returned (.tuple #[.agg (tileC bx bY), .float .f32 v0, .int .i64 v1]) ∧ Below W.heap.size W w')
    (w : World) (hws : WinsAt w sv ws) (hE : ErrsAt w e0 e1 e2 e3) :
    Calls Tryd.prog 3 #[.agg (roomC wd hg sv)] w fun e w' => e = .returned (.bool true) ∧ Below w.heap.size w w' := by
  have HA := Lib.hid hws
  have HX := Lib.hid hE
  have HS := Lib.hid hS
  have HI := Lib.hid hI
  have hw0 := run_wide _ hf
  have Hf := Lib.hid hf
  have zc : (v1 != v1) = false := by simp
  have hsv := hws
  obtain ⟨a0, cap0, esv, hl1, hl2, _⟩ := hsv
  unfold maxLen at hl2
  have HZ := Lib.hid (fun w => szRoom_any wd hg a0 ws.length cap0 1048576 (by omega) (by decide) (by decide) w)
  rw [← esv] at HZ
  have hlr : (leftI ws.length 1048576 < 0 ∧ 1048576 < ws.length) ∨ (0 ≤ leftI ws.length 1048576 ∧ ws.length ≤ 1048576) := by unfold leftI; split <;> omega
  clear hws esv hl1 hl2 hE hS hI hf
  generalize leftI (ws.length : Int) 1048576 = lf at *
  go_enter Tryd.func3, Tryd.ntmps3
  go_upto_region 1 with (fail)
  refine abs_world (fun W => W.heap[w.heap.size]? = some (.cells (roomC wd hg sv) 25 (0, 0)) ∧ Below w.heap.size w W) ⟨heap_alloc_new _ _, (Below.refl _ _).alloc (Nat.le_refl _) _⟩ ?_
  rintro W ⟨h0, hb⟩
  have H0 := Lib.hid h0
  replace HA := Lib.hid (wins_below HA.out hb)
  replace HX := Lib.hid (errs_below HX.out hb)
  clear h0
  rcases hlr with ⟨hlf, _⟩ | ⟨hlf, hlen⟩
  · go_wp2_with (first | (refine wpList_load_part rfl 25 _ rfl w.heap.size 0 3 rfl 25 (roomC wd hg sv) (0, 0) _ H0.out Tryd.underlying25 rfl info_roomL (room_fits _ _ _) _ (room_all _ _ _) ?_) | (go_at_call 11; refine (HZ.out _).mono ?_; rintro e W1 ⟨rfl, hb1⟩; replace H0 := Lib.hid (below_row hb1 H0.out); replace HA := Lib.hid (wins_below HA.out hb1); replace HX := Lib.hid (errs_below HX.out hb1); replace hb := hb.trans (hb1.mono hb.size); clear hb1))
    go_ret
    exact ⟨rfl, hb⟩
  · go_upto_region 6 with (first | (refine wpList_load_part rfl 25 _ rfl w.heap.size 0 3 rfl 25 (roomC wd hg sv) (0, 0) _ H0.out Tryd.underlying25 rfl info_roomL (room_fits _ _ _) _ (room_all _ _ _) ?_) | (go_at_call 11; refine (HZ.out _).mono ?_; rintro e W1 ⟨rfl, hb1⟩; replace H0 := Lib.hid (below_row hb1 H0.out); replace HA := Lib.hid (wins_below HA.out hb1); replace HX := Lib.hid (errs_below HX.out hb1); replace hb := hb.trans (hb1.mono hb.size); clear hb1) | (go_at_call 13; refine (toRoom_any wd hg sv ws hlen _ HA.out).mono ?_; rintro e W2 ⟨⟨v3, rfl, hv⟩, hb1⟩; have HV1 := Lib.hid hv; clear hv; replace H0 := Lib.hid (below_row hb1 H0.out); replace HA := Lib.hid (wins_below HA.out hb1); replace HX := Lib.hid (errs_below HX.out hb1); replace hb := hb.trans (hb1.mono hb.size); clear hb1) | (go_at_call 12; refine (HS.out _ _ (ownW_at HV1.out)).mono ?_; rintro e W3 ⟨rfl, hb1⟩; replace H0 := Lib.hid (below_row hb1 H0.out); replace HA := Lib.hid (wins_below HA.out hb1); replace HX := Lib.hid (errs_below HX.out hb1); replace hb := hb.trans (hb1.mono hb.size); clear hb1) | (refine wpList_store_part rfl 28 _ _ rfl _ 0 (tileC bx bY) rfl rfl 28 _ (heap_alloc_new _ _) info_tile (Nat.le_refl _) (tile_one _ _) ?_; rw [laid_allwE _ _ (by rfl)]))
    have hl3 := row_lt H0.out
    refine abs_world (fun V => V.heap[w.heap.size]? = some (.cells (roomC wd hg sv) 25 (0, 0)) ∧ V.heap[W3.heap.size]? = some (.cells (tileC bx bY) 28 (0, 0)) ∧ Below w.heap.size w V ∧ Below W3.heap.size W3 V) ⟨below_row (zbelE _ _ _) H0.out, setRow_heap _ _ _ _ _ _ (heap_alloc_new _ _), below_setRow (hb.alloc hb.size _) hb.size _, zbelE _ _ _⟩ ?_
    have hw3 := hb.size
    generalize hg4 : W3.heap.size = g4 at *
    rintro V ⟨h0, g4r, hb', hb3⟩
    rw [← hg4] at hb3
    have H0' := Lib.hid h0
    have HA' := Lib.hid (wins_below HA.out hb3)
    have HX' := Lib.hid (errs_below HX.out hb3)
    clear H0 HA HX hb HV1 h0 hb3 hg4
    have H0 := H0'
    have HA := HA'
    have HX := HX'
    have hb := hb'
    have G4 := Lib.hid g4r
    clear H0' HA' HX' hb' g4r
    go_upto_region 7 with (first | (refine wpList_load_part rfl 25 _ rfl w.heap.size 0 3 rfl 25 (roomC wd hg sv) (0, 0) _ H0.out Tryd.underlying25 rfl info_roomL (room_fits _ _ _) _ (room_all _ _ _) ?_) | (go_at_call 13; refine (toRoom_any wd hg sv ws hlen _ HA.out).mono ?_; rintro e W5 ⟨⟨v5, rfl, hv⟩, hb1⟩; have HV1 := Lib.hid hv; clear hv; replace H0 := Lib.hid (below_row hb1 H0.out); replace HA := Lib.hid (wins_below HA.out hb1); replace HX := Lib.hid (errs_below HX.out hb1); replace hb := hb.trans (hb1.mono hb.size); replace G4 := Lib.hid (below_row hb1 G4.out); clear hb1) | (refine wpList_store_part rfl 34 _ _ rfl _ 0 (roomC wd hg v5) rfl rfl 34 _ (heap_alloc_new _ _) (by kernel_rfl) (Nat.le_refl _) (room_one wd hg HV1.out) ?_; rw [laid_allwE _ _ (by rfl)]))
    refine abs_world (fun X => X.heap[w.heap.size]? = some (.cells (roomC wd hg sv) 25 (0, 0)) ∧ X.heap[g4]? = some (.cells (tileC bx bY) 28 (0, 0)) ∧ X.heap[W5.heap.size]? = some (.cells (roomC wd hg v5) 34 (0, 0)) ∧ WinsAt X sv ws ∧ WinsAt X v5 ws ∧ ErrsAt X e0 e1 e2 e3 ∧ Below w.heap.size w X) ⟨below_row (zbelE _ _ _) H0.out, below_row (zbelE _ _ _) G4.out, setRow_heap _ _ _ _ _ _ (heap_alloc_new _ _), wins_below HA.out (zbelE _ _ _), wins_below (ownW_at HV1.out) (zbelE _ _ _), errs_below HX.out (zbelE _ _ _), below_setRow (hb.alloc hb.size _) hb.size _⟩ ?_
    clear H0 HA HX hb HV1 G4
    generalize W5.heap.size = rb at *
    rintro X ⟨h0, g4r, hr, ha, hw1, hx, hb⟩
    have H0 := Lib.hid h0
    have G4 := Lib.hid g4r
    have HR := Lib.hid hr
    have HA := Lib.hid ha
    have HW1 := Lib.hid hw1
    have HX := Lib.hid hx
    clear h0 g4r hr ha hw1 hx
    go_upto_region 8 with (first | (refine wpList_load_part rfl 34 _ rfl rb 0 3 rfl 34 (roomC wd hg v5) (0, 0) _ HR.out Tryd.underlying34 rfl info_room (room_fits _ _ _) _ (room_all _ _ _) ?_) | (go_at_call 14; refine (HI.out _ _ HW1.out HX.out).mono ?_; rintro e W6 ⟨rfl, hb1⟩; replace H0 := Lib.hid (below_row hb1 H0.out); replace HA := Lib.hid (wins_below HA.out hb1); replace HX := Lib.hid (errs_below HX.out hb1); replace hb := hb.trans (hb1.mono hb.size); replace HR := Lib.hid (below_row hb1 HR.out); replace HW1 := Lib.hid (wins_below HW1.out hb1); replace G4 := Lib.hid (below_row hb1 G4.out); clear hb1) | (refine wpList_store_part rfl 28 _ _ rfl _ 0 (tileC bx bY) rfl rfl 28 _ (heap_alloc_new _ _) info_tile (Nat.le_refl _) (tile_one _ _) ?_; rw [laid_allwE _ _ (by rfl)]))
    refine abs_world (fun X => X.heap[w.heap.size]? = some (.cells (roomC wd hg sv) 25 (0, 0)) ∧ X.heap[g4]? = some (.cells (tileC bx bY) 28 (0, 0)) ∧ X.heap[W6.heap.size]? = some (.cells (tileC bx bY) 28 (0, 0)) ∧ X.heap[rb]? = some (.cells (roomC wd hg v5) 34 (0, 0)) ∧ WinsAt X sv ws ∧ WinsAt X v5 ws ∧ ErrsAt X e0 e1 e2 e3 ∧ Below w.heap.size w X) ⟨below_row (zbelE _ _ _) H0.out, below_row (zbelE _ _ _) G4.out, setRow_heap _ _ _ _ _ _ (heap_alloc_new _ _), below_row (zbelE _ _ _) HR.out, wins_below HA.out (zbelE _ _ _), wins_below HW1.out (zbelE _ _ _), errs_below HX.out (zbelE _ _ _), below_setRow (hb.alloc hb.size _) hb.size _⟩ ?_
    clear H0 HA HX hb G4 HR HW1
    generalize W6.heap.size = g7 at *
    rintro Y ⟨h0, g4r, g7r, hr, ha, hw1, hx, hb⟩
    have H0 := Lib.hid h0
    have G4 := Lib.hid g4r
    have G7 := Lib.hid g7r
    have HR := Lib.hid hr
    have HA := Lib.hid ha
    have HW1 := Lib.hid hw1
    have HX := Lib.hid hx
    clear h0 g4r g7r hr ha hw1 hx
    go_upto_region 10 with (first | (refine wpList_load_part rfl 28 _ rfl g7 0 2 rfl 28 (tileC bx bY) (0, 0) _ G7.out Tryd.underlying28 rfl info_tile (tile_fits _ _) _ (tile_all _ _) ?_) | (refine wpList_load_part rfl 28 _ rfl g4 0 2 rfl 28 (tileC bx bY) (0, 0) _ G4.out Tryd.underlying28 rfl info_tile (tile_fits _ _) _ (tile_all _ _) ?_) | (go_at_call 15; refine (eqTile_anyB _ _ _).mono ?_; rintro e W8 ⟨rfl, hb1⟩; replace H0 := Lib.hid (below_row hb1 H0.out); replace HA := Lib.hid (wins_below HA.out hb1); replace HX := Lib.hid (errs_below HX.out hb1); replace hb := hb.trans (hb1.mono hb.size); replace HR := Lib.hid (below_row hb1 HR.out); replace HW1 := Lib.hid (wins_below HW1.out hb1); clear hb1) | (go_at_call 16; refine (same_wide _ Hf.out _).mono ?_; rintro e w1 ⟨rfl, rfl⟩))
    refine wp_region_held_drew (S := (fun W => W.heap[rb]? = some (.cells (roomC wd hg v5) 34 (0, 0)) ∧ W.heap[w.heap.size]? = some (.cells (roomC wd hg sv) 25 (0, 0)) ∧ WinsAt W sv ws ∧ WinsAt W v5 ws ∧ Below w.heap.size w W)) (by kernel_rfl) ⟨HR.out, H0.out, HA.out, HW1.out, hb.drew⟩ (fun hHeld => ?_)
    refine take_op (i := 0) (d := 48) (v := .agg (roomC wd hg v5)) rfl rfl (by kernel_rfl) (by kernel_rfl) (by kernel_rfl) (fun _ _ _ h => h) (yields_row (by rfl) 34 (.tmp 7) (by rfl) rb 0 3 (by rfl) 34 (roomC wd hg v5) (0, 0) _ (fun _ h => h.1) Tryd.underlying34 rfl info_room (room_fits _ _ _) (roomC wd hg v5) (room_all _ _ _)) hHeld ?_
    simp only [List.setIfInBounds_toArray, List.set_cons_zero, List.set_cons_succ]
    refine take_op (i := 1) (d := 49) (v := .agg (roomC wd hg sv)) rfl rfl (by kernel_rfl) (by kernel_rfl) (by kernel_rfl) (fun _ _ _ h => h) (yields_row (by rfl) 25 (.tmp 1) (by rfl) w.heap.size 0 3 (by rfl) 25 (roomC wd hg sv) (0, 0) _ (fun _ h => h.2.1) Tryd.underlying25 rfl info_roomL (room_fits _ _ _) (roomC wd hg sv) (room_all _ _ _)) hHeld ?_
    simp only [List.setIfInBounds_toArray, List.set_cons_zero, List.set_cons_succ]
    refine wpAnyH_ready (rs := [2]) (by kernel_rfl) (by simp) ?_
    refine AllReadyH.cons rfl (fun K hK => ?_) AllReadyH.nil
    go_simp
    refine (toRoom_any wd hg sv ws hlen _ hHeld.2.2.1).mono ?_
    rintro e W1 ⟨⟨v9, rfl, hv9⟩, hb1⟩
    have HV9 := Lib.hid (ownW_at hv9)
    clear hv9
    refine hK.out _ _ (⟨below_row hb1 hHeld.1, below_row hb1 hHeld.2.1, wins_below hHeld.2.2.1 hb1, wins_below hHeld.2.2.2.1 hb1, hHeld.2.2.2.2.trans (hb1.mono hHeld.2.2.2.2.size)⟩) (fun hHeld2 => ?_)
    clear hK K
    replace hHeld := hHeld2
    clear hHeld2
    clear hb1
    refine wpAnyH_ready (rs := [3]) (by kernel_rfl) (by simp) ?_
    refine AllReadyH.cons rfl (fun K hK => ?_) AllReadyH.nil
    go_simp
    refine (eqRoom_any wd hg v5 v9 ws _ hHeld.2.2.2.1 HV9.out).mono ?_
    rintro e W2 ⟨rfl, hb1⟩
    refine hK.out _ _ (⟨below_row hb1 hHeld.1, below_row hb1 hHeld.2.1, wins_below hHeld.2.2.1 hb1, wins_below hHeld.2.2.2.1 hb1, hHeld.2.2.2.2.trans (hb1.mono hHeld.2.2.2.2.size)⟩) (fun hHeld2 => ?_)
    clear hK K
    replace hHeld := hHeld2
    clear hHeld2
    clear hb1
    refine take_op (i := 4) (d := 52) (v := ?_) rfl rfl (by kernel_rfl) (by kernel_rfl) (by kernel_rfl) (fun _ _ _ h => h) (Or.inl ⟨by rfl, ?hy4e39⟩) hHeld ?rest4e39
    case hy4e39 =>
      intro w' hS'
      go_simp
      try with_reducible rfl
    simp only [List.setIfInBounds_toArray, List.set_cons_zero, List.set_cons_succ]
    refine wpAnyH_done (by kernel_rfl) ?_ _
    have hbz := hHeld.2.2.2.2
    clear hHeld
    go_wp2
    go_ret
    exact ⟨rfl, hbz⟩

theorem FnExactBrightest_walk (wd hg : Int) (sv : Value) (ws : List Wn) (rw0 : RmWf wd hg ws) (w : World) (hws : WinsAt w sv ws) {e0 e1 e2 e3 : Addr} (hE : ErrsAt w e0 e1 e2 e3) :
    Calls Tryd.prog 3 #[.agg (roomC wd hg sv)] w fun e w' => e = .returned (.bool true) ∧ Below w.heap.size w w' := by
  obtain ⟨iw, ih, hwf⟩ := rw0
  cases hv : okRm wd hg ws with
  | false => exact FnExactBrightest_core wd hg sv ws 0 0 0 zero_fin 1 e0 e1 e2 e3 (fun s W h => sBr_n wd hg iw ih s ws hwf W h hv) (fun s W h k => iBr_n wd hg s ws e0 e1 e2 e3 W h k hv) w hws hE
  | true =>
    have ok := okRm_get hv
    obtain ⟨W, hW⟩ := Int.eq_ofNat_of_zero_le (by have := ok.w0; omega : 0 ≤ wd)
    obtain ⟨H, hH⟩ := Int.eq_ofNat_of_zero_le (by have := ok.h0; omega : 0 ≤ hg)
    subst hW hH
    have w0 : 0 < W := by have := ok.w0; omega
    have h0 : 0 < H := by have := ok.h0; omega
    obtain ⟨g, hgd⟩ : ∃ g : Int × Int → Nat, g = fun t => litW (W : Int) (H : Int) t (fun _ => true) ws := ⟨_, rfl⟩
    obtain ⟨gk, hgk⟩ : ∃ gk : Nat → Nat, gk = fun k => g (tk W H w0 h0 k).1 := ⟨_, rfl⟩
    have hcap : ∀ x y : Nat, x < W → y < H → g ((x : Int), (y : Int)) ≤ floatOfInt .f32 (12 : Int) := by
      rw [hgd]
      exact fun x y hx hy => lit_cap ok hwf ⟨by show (0 : Int) ≤ (x : Int); omega, by show (x : Int) < (W : Int); omega, by show (0 : Int) ≤ (y : Int); omega, by show (y : Int) < (H : Int); omega⟩
    have hfin : fin32 (gk (bstK gk (W * H))) = true := by
      obtain ⟨x, y, hx, hy, -, e⟩ := tk_split W H w0 h0 (bstK_lt gk (Nat.mul_pos w0 h0) (W * H) (Nat.le_refl _))
      have hc := hcap x y hx hy
      have h12 := cap12
      have e2 : gk (bstK gk (W * H)) = g ((x : Int), (y : Int)) := by
        have e3 : ∀ k, gk k = g (tk W H w0 h0 k).1 := fun k => by rw [hgk]
        rw [e3, e]
      rw [e2]
      exact fin_of_lt (by omega)
    cases hdk : eqMp ((mpK g W H (W * H)).map nbB) (zM.map nbB) with
    | true => exact FnExactBrightest_core (W : Int) (H : Int) sv ws _ _ _ hfin 0 e0 e1 e2 e3 (fun s V h => sBr_y W H w0 h0 s ws hwf g hgd gk hgk V h hv) (fun s V h k => iBr_dark W H w0 h0 s ws hwf g hgd _ rfl gk hgk hcap e0 e1 e2 e3 V h k hv hdk) w hws hE
    | false => exact FnExactBrightest_core (W : Int) (H : Int) sv ws _ _ _ hfin 0 e0 e1 e2 e3 (fun s V h => sBr_y W H w0 h0 s ws hwf g hgd gk hgk V h hv) (fun s V h k => iBr_lit W H w0 h0 s ws hwf g hgd _ rfl gk hgk e0 e1 e2 e3 V h k hv hdk) w hws hE

end Go.Proofs.YtdccmdcgbembpaaDoor
