/-
  The law of LitTiles: the walk.
-/
import Derived.Test.YtdccmdcgbembpaaDoorLtC
import Derived.Test.YtdccmdcgbembpaaDoorRoomE
import Derived.Test.YtdccmdcgbembpaaDoorRoomK
import Derived.Test.YtdccmdcgbembpaaDoorLawC
import Derived.Test.YtdccmdcgbembpaaDoorSameN
namespace Go.Proofs.YtdccmdcgbembpaaDoor
open Go.ChangeShapes Go.WideShapes Go.ChangeAt Go.RowKit Go.Deep Go.Joins

attribute [local go_sem] run_store_floatE

set_option maxRecDepth 100000 in
set_option maxHeartbeats 2000000 in
theorem eqU10_same (xs : List Int) (hx : xs.length = 10) (w : World) :
    Calls Tryd.prog 20 #[.agg (u16s xs), .agg (u16s xs)] w fun e w' => e = .returned (.bool true) ∧ Below w.heap.size w w' := by
  have Hx := Lib.hid hx
  clear hx
  go_enter Tryd.func20, Tryd.ntmps20
  go_upto_region 1 with (fail)
  refine abs_code (fun W => W.heap[w.heap.size]? = some (.cells (u16s xs) 42 (0, 0)) ∧ W.heap[w.heap.size + 1]? = some (.cells (u16s xs) 42 (0, 0)) ∧ Below w.heap.size w W) (two_at w (.cells (u16s xs) 42) (.cells (u16s xs) 42)) ?_
  rintro W ⟨h0, h1, hb⟩
  generalize w.heap.size + 1 = b1 at *
  have H0 := Lib.hid h0
  have H1 := Lib.hid h1
  clear h0 h1
  go_wp2
  go_loopw [5] (fun i wr => ∃ k : Nat, k ≤ 10 ∧ i = .int .i64 k ∧ Below w.heap.size w wr ∧ wr.heap[w.heap.size]? = some (.cells (u16s xs) 42 (0, 0)) ∧ wr.heap[b1]? = some (.cells (u16s xs) 42 (0, 0))) (fun i _ => 10 - (intOf i).toNat)
  case atStart => exact ⟨0, Nat.zero_le _, rfl, hb, H0.out, H1.out⟩
  case round =>
    clear hb H0 H1
    obtain ⟨k, hk, rfl, hb, h0, h1⟩ := hrel
    have H0 := Lib.hid h0
    have H1 := Lib.hid h1
    by_cases hlt : k < 10
    · have c0 := u16s_cell h0 k (by rw [Hx.out]; exact hlt)
      have c1 := u16s_cell h1 k (by rw [Hx.out]; exact hlt)
      have z1 : (k : Int) < 10 := by omega
      have z2 : (0 : Int) ≤ (k : Int) := by omega
      clear h0 h1
      go_wp2
      go_quiet (fail)
      go_wp2
      go_roundw
      case rel => exact ⟨k + 1, by omega, by go_num, ⟨hb.os, hb.tape, hb.output, hb.size, hb.block⟩, H0.out, H1.out⟩
      case measure => simp [intOf]; omega
    · obtain rfl : k = 10 := by omega
      clear h0 h1
      go_wp2
      go_ret
      exact ⟨rfl, hb⟩

set_option maxRecDepth 100000 in
set_option maxHeartbeats 8000000 in
theorem FnExactLitTiles_core (wd hg : Int) (sv : Value) (ws : List Wn) (le : Nat) (xp : List Int) (hxp : xp.length = 10) (v1 : Int) (e0 e1 e2 e3 : Addr)
    (hS : ∀ (s : Value) (W : World), WinsAt W s ws → Calls Tryd.prog 18 #[.agg (roomC wd hg s), .float .f32 le] W fun e w' => e = .returned (.tuple #[.agg (u16s xp), .int .i64 v1]) ∧ Below W.heap.size W w')
    (hI : ∀ (s : Value) (W : World), WinsAt W s ws → ErrsAt W e0 e1 e2 e3 → Calls Tryd.prog 19 #[.agg (roomC wd hg s), .float .f32 le] W fun e w' => e = .returned (.tuple #[.agg (u16s xp), .int .i64 v1]) ∧ Below W.heap.size W w')
    (w : World) (hws : WinsAt w sv ws) (hE : ErrsAt w e0 e1 e2 e3) :
    Calls Tryd.prog 4 #[.agg (roomC wd hg sv), .float .f32 le] w fun e w' => e = .returned (.bool true) ∧ Below w.heap.size w w' := by
  have HA := Lib.hid hws
  have HX := Lib.hid hE
  have HS := Lib.hid hS
  have HI := Lib.hid hI
  have HEQ := Lib.hid (fun w => eqU10_same xp hxp w)
  have Hxp := Lib.hid hxp
  have zc : (v1 != v1) = false := by simp
  have hsv := hws
  obtain ⟨a0, cap0, esv, hl1, hl2, _⟩ := hsv
  unfold maxLen at hl2
  have HZ := Lib.hid (fun w => szRoom_any wd hg a0 ws.length cap0 1048576 (by omega) (by decide) (by decide) w)
  rw [← esv] at HZ
  have hlr : (leftI ws.length 1048576 < 0 ∧ 1048576 < ws.length) ∨ (0 ≤ leftI ws.length 1048576 ∧ ws.length ≤ 1048576) := by unfold leftI; split <;> omega
  clear hws esv hl1 hl2 hE hS hI hxp
  generalize leftI (ws.length : Int) 1048576 = lf at *
  go_enter Tryd.func4, Tryd.ntmps4
  go_upto_region 1 with (fail)
  refine abs_world (fun W => W.heap[w.heap.size]? = some (.cells (roomC wd hg sv) 25 (0, 0)) ∧ Below w.heap.size w W) ⟨heap_alloc_new _ _, (Below.refl _ _).alloc (Nat.le_refl _) _⟩ ?_
  rintro W ⟨h0, hb⟩
  have H0 := Lib.hid h0
  replace HA := Lib.hid (wins_below HA.out hb)
  replace HX := Lib.hid (errs_below HX.out hb)
  clear h0
  rcases hlr with ⟨hlf, _⟩ | ⟨hlf, hlen⟩
  · go_wp2_with (first | (refine wpList_load_part rfl 25 _ rfl w.heap.size 0 3 rfl 25 (roomC wd hg sv) (0, 0) _ H0.out Tryd.underlying25 rfl info_roomL (room_fits _ _ _) _ (room_all _ _ _) ?_) | (go_at_call 11; refine (HZ.out _).mono ?_; rintro e W1 ⟨rfl, hb1⟩; replace H0 := Lib.hid (below_row hb1 H0.out); replace HA := Lib.hid (wins_below HA.out hb1); replace HX := Lib.hid (errs_below HX.out hb1); replace hb := hb.trans (hb1.mono hb.size); clear hb1))
    go_ret
    exact ⟨rfl, hb⟩
  · go_upto_region 6 with (first | (refine wpList_load_part rfl 25 _ rfl w.heap.size 0 3 rfl 25 (roomC wd hg sv) (0, 0) _ H0.out Tryd.underlying25 rfl info_roomL (room_fits _ _ _) _ (room_all _ _ _) ?_) | (go_at_call 11; refine (HZ.out _).mono ?_; rintro e W1 ⟨rfl, hb1⟩; replace H0 := Lib.hid (below_row hb1 H0.out); replace HA := Lib.hid (wins_below HA.out hb1); replace HX := Lib.hid (errs_below HX.out hb1); replace hb := hb.trans (hb1.mono hb.size); clear hb1) | (go_at_call 13; refine (toRoom_any wd hg sv ws hlen _ HA.out).mono ?_; rintro e W2 ⟨⟨v3, rfl, hv⟩, hb1⟩; have HV1 := Lib.hid hv; clear hv; replace H0 := Lib.hid (below_row hb1 H0.out); replace HA := Lib.hid (wins_below HA.out hb1); replace HX := Lib.hid (errs_below HX.out hb1); replace hb := hb.trans (hb1.mono hb.size); clear hb1) | (go_at_call 18; refine (HS.out _ _ (ownW_at HV1.out)).mono ?_; rintro e W3 ⟨rfl, hb1⟩; replace H0 := Lib.hid (below_row hb1 H0.out); replace HA := Lib.hid (wins_below HA.out hb1); replace HX := Lib.hid (errs_below HX.out hb1); replace hb := hb.trans (hb1.mono hb.size); clear hb1) | (refine wpList_store_part rfl 42 _ _ rfl _ 0 (u16s xp) rfl rfl 42 _ (heap_alloc_new _ _) (by rw [u16s_size, Hxp.out]; exact info_u16) (by rw [u16s_size, Hxp.out]; decide) (u16s_one _) ?_; rw [laid_allwE _ _ (by rw [u16s_size, Hxp.out]; rfl)]))
    have hl3 := row_lt H0.out
    refine abs_world (fun V => V.heap[w.heap.size]? = some (.cells (roomC wd hg sv) 25 (0, 0)) ∧ V.heap[W3.heap.size]? = some (.cells (u16s xp) 42 (0, 0)) ∧ Below w.heap.size w V ∧ Below W3.heap.size W3 V) ⟨below_row (zbelE _ _ _) H0.out, setRow_heap _ _ _ _ _ _ (heap_alloc_new _ _), below_setRow (hb.alloc hb.size _) hb.size _, zbelE _ _ _⟩ ?_
    have hw3 := hb.size
    generalize hg4 : W3.heap.size = g4 at *
    rintro V ⟨h0, g4r, hb', hb3⟩
    rw [← hg4] at hb3
    have H0' := Lib.hid h0
    have HA' := Lib.hid (wins_below HA.out hb3)
    have HX' := Lib.hid (errs_below HX.out hb3)
    clear H0 HA HX hb HV1 h0 hb3 hg4
    have H0 := H0'
    have HA := HA'
    have HX := HX'
    have hb := hb'
    have G4 := Lib.hid g4r
    clear H0' HA' HX' hb' g4r
    go_upto_region 7 with (first | (refine wpList_load_part rfl 25 _ rfl w.heap.size 0 3 rfl 25 (roomC wd hg sv) (0, 0) _ H0.out Tryd.underlying25 rfl info_roomL (room_fits _ _ _) _ (room_all _ _ _) ?_) | (go_at_call 13; refine (toRoom_any wd hg sv ws hlen _ HA.out).mono ?_; rintro e W5 ⟨⟨v5, rfl, hv⟩, hb1⟩; have HV1 := Lib.hid hv; clear hv; replace H0 := Lib.hid (below_row hb1 H0.out); replace HA := Lib.hid (wins_below HA.out hb1); replace HX := Lib.hid (errs_below HX.out hb1); replace hb := hb.trans (hb1.mono hb.size); replace G4 := Lib.hid (below_row hb1 G4.out); clear hb1) | (refine wpList_store_part rfl 34 _ _ rfl _ 0 (roomC wd hg v5) rfl rfl 34 _ (heap_alloc_new _ _) (by kernel_rfl) (Nat.le_refl _) (room_one wd hg HV1.out) ?_; rw [laid_allwE _ _ (by rfl)]))
    refine abs_world (fun X => X.heap[w.heap.size]? = some (.cells (roomC wd hg sv) 25 (0, 0)) ∧ X.heap[g4]? = some (.cells (u16s xp) 42 (0, 0)) ∧ X.heap[W5.heap.size]? = some (.cells (roomC wd hg v5) 34 (0, 0)) ∧ WinsAt X sv ws ∧ WinsAt X v5 ws ∧ ErrsAt X e0 e1 e2 e3 ∧ Below w.heap.size w X) ⟨below_row (zbelE _ _ _) H0.out, below_row (zbelE _ _ _) G4.out, setRow_heap _ _ _ _ _ _ (heap_alloc_new _ _), wins_below HA.out (zbelE _ _ _), wins_below (ownW_at HV1.out) (zbelE _ _ _), errs_below HX.out (zbelE _ _ _), below_setRow (hb.alloc hb.size _) hb.size _⟩ ?_
    clear H0 HA HX hb HV1 G4
    generalize W5.heap.size = rb at *
    rintro X ⟨h0, g4r, hr, ha, hw1, hx, hb⟩
    have H0 := Lib.hid h0
    have G4 := Lib.hid g4r
    have HR := Lib.hid hr
    have HA := Lib.hid ha
    have HW1 := Lib.hid hw1
    have HX := Lib.hid hx
    clear h0 g4r hr ha hw1 hx
    go_upto_region 8 with (first | (refine wpList_load_part rfl 34 _ rfl rb 0 3 rfl 34 (roomC wd hg v5) (0, 0) _ HR.out Tryd.underlying34 rfl info_room (room_fits _ _ _) _ (room_all _ _ _) ?_) | (go_at_call 19; refine (HI.out _ _ HW1.out HX.out).mono ?_; rintro e W6 ⟨rfl, hb1⟩; replace H0 := Lib.hid (below_row hb1 H0.out); replace HA := Lib.hid (wins_below HA.out hb1); replace HX := Lib.hid (errs_below HX.out hb1); replace hb := hb.trans (hb1.mono hb.size); replace HR := Lib.hid (below_row hb1 HR.out); replace HW1 := Lib.hid (wins_below HW1.out hb1); replace G4 := Lib.hid (below_row hb1 G4.out); clear hb1) | (refine wpList_store_part rfl 42 _ _ rfl _ 0 (u16s xp) rfl rfl 42 _ (heap_alloc_new _ _) (by rw [u16s_size, Hxp.out]; exact info_u16) (by rw [u16s_size, Hxp.out]; decide) (u16s_one _) ?_; rw [laid_allwE _ _ (by rw [u16s_size, Hxp.out]; rfl)]))
    refine abs_world (fun X => X.heap[w.heap.size]? = some (.cells (roomC wd hg sv) 25 (0, 0)) ∧ X.heap[g4]? = some (.cells (u16s xp) 42 (0, 0)) ∧ X.heap[W6.heap.size]? = some (.cells (u16s xp) 42 (0, 0)) ∧ X.heap[rb]? = some (.cells (roomC wd hg v5) 34 (0, 0)) ∧ WinsAt X sv ws ∧ WinsAt X v5 ws ∧ ErrsAt X e0 e1 e2 e3 ∧ Below w.heap.size w X) ⟨below_row (zbelE _ _ _) H0.out, below_row (zbelE _ _ _) G4.out, setRow_heap _ _ _ _ _ _ (heap_alloc_new _ _), below_row (zbelE _ _ _) HR.out, wins_below HA.out (zbelE _ _ _), wins_below HW1.out (zbelE _ _ _), errs_below HX.out (zbelE _ _ _), below_setRow (hb.alloc hb.size _) hb.size _⟩ ?_
    clear H0 HA HX hb G4 HR HW1
    generalize W6.heap.size = g7 at *
    rintro Y ⟨h0, g4r, g7r, hr, ha, hw1, hx, hb⟩
    have H0 := Lib.hid h0
    have G4 := Lib.hid g4r
    have G7 := Lib.hid g7r
    have HR := Lib.hid hr
    have HA := Lib.hid ha
    have HW1 := Lib.hid hw1
    have HX := Lib.hid hx
    clear h0 g4r g7r hr ha hw1 hx
    go_upto_region 10 with (first | (refine wpList_load_part rfl 42 _ rfl g7 0 10 rfl 42 (u16s xp) (0, 0) _ G7.out Tryd.underlying42 rfl info_u16 (by rw [u16s_size, Hxp.out]; decide) (u16s xp) (u16s_all _ 10 Hxp.out) ?_) | (refine wpList_load_part rfl 42 _ rfl g4 0 10 rfl 42 (u16s xp) (0, 0) _ G4.out Tryd.underlying42 rfl info_u16 (by rw [u16s_size, Hxp.out]; decide) (u16s xp) (u16s_all _ 10 Hxp.out) ?_) | (go_at_call 20; refine (HEQ.out _).mono ?_; rintro e W8 ⟨rfl, hb1⟩; replace H0 := Lib.hid (below_row hb1 H0.out); replace HA := Lib.hid (wins_below HA.out hb1); replace HX := Lib.hid (errs_below HX.out hb1); replace hb := hb.trans (hb1.mono hb.size); replace HR := Lib.hid (below_row hb1 HR.out); replace HW1 := Lib.hid (wins_below HW1.out hb1); clear hb1))
    refine wp_region_held_drew (S := (fun W => W.heap[rb]? = some (.cells (roomC wd hg v5) 34 (0, 0)) ∧ W.heap[w.heap.size]? = some (.cells (roomC wd hg sv) 25 (0, 0)) ∧ WinsAt W sv ws ∧ WinsAt W v5 ws ∧ Below w.heap.size w W)) (by kernel_rfl) ⟨HR.out, H0.out, HA.out, HW1.out, hb.drew⟩ (fun hHeld => ?_)
    refine take_op (i := 0) (d := 40) (v := .agg (roomC wd hg v5)) rfl rfl (by kernel_rfl) (by kernel_rfl) (by kernel_rfl) (fun _ _ _ h => h) (yields_row (by rfl) 34 (.tmp 8) (by rfl) rb 0 3 (by rfl) 34 (roomC wd hg v5) (0, 0) _ (fun _ h => h.1) Tryd.underlying34 rfl info_room (room_fits _ _ _) (roomC wd hg v5) (room_all _ _ _)) hHeld ?_
    simp only [List.setIfInBounds_toArray, List.set_cons_zero, List.set_cons_succ]
    refine take_op (i := 1) (d := 41) (v := .agg (roomC wd hg sv)) rfl rfl (by kernel_rfl) (by kernel_rfl) (by kernel_rfl) (fun _ _ _ h => h) (yields_row (by rfl) 25 (.tmp 2) (by rfl) w.heap.size 0 3 (by rfl) 25 (roomC wd hg sv) (0, 0) _ (fun _ h => h.2.1) Tryd.underlying25 rfl info_roomL (room_fits _ _ _) (roomC wd hg sv) (room_all _ _ _)) hHeld ?_
    simp only [List.setIfInBounds_toArray, List.set_cons_zero, List.set_cons_succ]
    refine wpAnyH_ready (rs := [2]) (by kernel_rfl) (by simp) ?_
    refine AllReadyH.cons rfl (fun K hK => ?_) AllReadyH.nil
    go_simp
    refine (toRoom_any wd hg sv ws hlen _ hHeld.2.2.1).mono ?_
    rintro e W1 ⟨⟨v9, rfl, hv9⟩, hb1⟩
    have HV9 := Lib.hid (ownW_at hv9)
    clear hv9
    refine hK.out _ _ (⟨below_row hb1 hHeld.1, below_row hb1 hHeld.2.1, wins_below hHeld.2.2.1 hb1, wins_below hHeld.2.2.2.1 hb1, hHeld.2.2.2.2.trans (hb1.mono hHeld.2.2.2.2.size)⟩) (fun hHeld2 => ?_)
    clear hK K
    replace hHeld := hHeld2
    clear hHeld2
    clear hb1
    refine wpAnyH_ready (rs := [3]) (by kernel_rfl) (by simp) ?_
    refine AllReadyH.cons rfl (fun K hK => ?_) AllReadyH.nil
    go_simp
    refine (eqRoom_any wd hg v5 v9 ws _ hHeld.2.2.2.1 HV9.out).mono ?_
    rintro e W2 ⟨rfl, hb1⟩
    refine hK.out _ _ (⟨below_row hb1 hHeld.1, below_row hb1 hHeld.2.1, wins_below hHeld.2.2.1 hb1, wins_below hHeld.2.2.2.1 hb1, hHeld.2.2.2.2.trans (hb1.mono hHeld.2.2.2.2.size)⟩) (fun hHeld2 => ?_)
    clear hK K
    replace hHeld := hHeld2
    clear hHeld2
    clear hb1
    refine take_op (i := 4) (d := 44) (v := ?_) rfl rfl (by kernel_rfl) (by kernel_rfl) (by kernel_rfl) (fun _ _ _ h => h) (Or.inl ⟨by rfl, ?hy4e29⟩) hHeld ?rest4e29
    case hy4e29 =>
      intro w' hS'
      go_simp
      try with_reducible rfl
    simp only [List.setIfInBounds_toArray, List.set_cons_zero, List.set_cons_succ]
    refine wpAnyH_done (by kernel_rfl) ?_ _
    have hbz := hHeld.2.2.2.2
    clear hHeld
    go_wp2
    go_ret
    exact ⟨rfl, hbz⟩

theorem FnExactLitTiles_walk (wd hg : Int) (sv : Value) (ws : List Wn) (rw0 : RmWf wd hg ws) (le : Nat) (_ : (Lit.float .f32 le).wf = true) (w : World) (hws : WinsAt w sv ws) {e0 e1 e2 e3 : Addr} (hE : ErrsAt w e0 e1 e2 e3) :
    Calls Tryd.prog 4 #[.agg (roomC wd hg sv), .float .f32 le] w fun e w' => e = .returned (.bool true) ∧ Below w.heap.size w w' := by
  obtain ⟨iw, ih, hwf⟩ := rw0
  cases hv : okRm wd hg ws with
  | false => exact FnExactLitTiles_core wd hg sv ws le zU zU_len 1 e0 e1 e2 e3 (fun s W h => sLit_n wd hg iw ih s ws hwf le 1 (by decide) W h (by rw [hv]; rfl)) (fun s W h k => iLit_n1 wd hg s ws le e0 e1 e2 e3 W h k hv) w hws hE
  | true =>
    cases hn : fin32 le with
    | false => exact FnExactLitTiles_core wd hg sv ws le zU zU_len 2 e0 e1 e2 e3 (fun s W h => sLit_n wd hg iw ih s ws hwf le 2 (by decide) W h (by rw [hv, hn]; rfl)) (fun s W h k => iLit_n2 wd hg s ws le e0 e1 e2 e3 W h k hv hn) w hws hE
    | true =>
      have ok := okRm_get hv
      obtain ⟨W, hW⟩ := Int.eq_ofNat_of_zero_le (by have := ok.w0; omega : 0 ≤ wd)
      obtain ⟨H, hH⟩ := Int.eq_ofNat_of_zero_le (by have := ok.h0; omega : 0 ≤ hg)
      subst hW hH
      have w0 : 0 < W := by have := ok.w0; omega
      have h0 : 0 < H := by have := ok.h0; omega
      obtain ⟨g, hgd⟩ : ∃ g : Int × Int → Nat, g = fun t => litW (W : Int) (H : Int) t (fun _ => true) ws := ⟨_, rfl⟩
      obtain ⟨P, hP⟩ : ∃ P : Nat → Bool, P = fun k => enB le (g (tk W H w0 h0 k).1) := ⟨_, rfl⟩
      exact FnExactLitTiles_core (W : Int) (H : Int) sv ws le (litN P W (W * H)) (litN_len P W _) 0 e0 e1 e2 e3 (fun s V h => sLit_y W H w0 h0 s ws hwf g hgd le hn P hP V h hv) (fun s V h k => iLit_y (W : Int) (H : Int) W H rfl rfl w0 h0 s ws hwf g hgd le hn P hP e0 e1 e2 e3 V h k hv) w hws hE

end Go.Proofs.YtdccmdcgbembpaaDoor
