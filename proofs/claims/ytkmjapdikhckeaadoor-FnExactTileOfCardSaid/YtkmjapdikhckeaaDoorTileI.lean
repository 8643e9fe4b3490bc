/-
  TileOf, of the program and of the model.
-/
import Derived.Test.YtkmjapdikhckeaaDoorPlace2
import Derived.Test.YtkmjapdikhckeaaDoorIsTile
import Derived.Test.YtkmjapdikhckeaaDoorRoomF
import Derived.Test.YtkmjapdikhckeaaDoorRoomS
import Derived.Test.YtkmjapdikhckeaaDoorCode
namespace Go.Proofs.YtkmjapdikhckeaaDoor
open Go.RowKit

attribute [local go_sem] run_store_f

theorem tri_at (w : World) (a b c : Obj) : (((w.alloc a).alloc b).alloc c).heap[w.heap.size]? = some a ∧ (((w.alloc a).alloc b).alloc c).heap[w.heap.size + 1]? = some b ∧ (((w.alloc a).alloc b).alloc c).heap[w.heap.size + 1 + 1]? = some c ∧ Below w.heap.size w (((w.alloc a).alloc b).alloc c) :=
  ⟨by rw [Below.heap_alloc _ _ _ (by simp; omega)]; exact (two_at w a b).1, by rw [Below.heap_alloc _ _ _ (by simp)]; exact (two_at w a b).2.1, by have h := heap_alloc_new ((w.alloc a).alloc b) c; simpa using h, (two_at w a b).2.2.alloc (by simp; omega) _⟩

theorem results_tile {fn : Func} {p u : Tmp} (h : fn.results = #[.cell p 31, .tmp u]) (tmps : Array Value) (w : World) (g : Nat) (x y : Int) (hp : tmps.getD p undef = .pointer (some ⟨g, 0, none⟩)) (hg : w.heap[g]? = some (.cells (tileC x y) 31 (0, 0))) :
    (results fn tmps).run Tryd.prog w = .ok (.tuple #[.agg (tileC x y), tmps.getD u undef]) w := by
  rw [results_cell_tmp h, hp]
  have e := run_loadVar_row w g 31 31 (tileC x y) (0, 0) _ hg Tryd.underlying31 rfl info_tile
  simp only [asAddr, Sem.run_pure, Result.andThen_ok, e]

set_option maxRecDepth 100000 in
set_option maxHeartbeats 1000000 in
theorem TileOf_y (wd hg : Int) (sv : Value) (ws : List Wn) (x : Wn) (hf : FitOk wd hg x) (hrb : RB wd hg) (v r : Bool) (e0 e1 e2 e3 : Addr) (w : World) (hws : WinsAt w sv ws) (hE : ErrsAt w e0 e1 e2 e3)
    (hv : okRm wd hg ws = v) (hr : fitB wd hg x = r) (hc : refN v r true = 0) :
    Calls Tryd.prog 16 #[.agg (roomC wd hg sv), .agg (winC x)] w fun e w' => e = .returned (.tuple #[.agg (tileC (tlW wd hg x).1 (tlW wd hg x).2), .int .i64 0]) ∧ Below w.heap.size w w' := by
  have HC := Lib.hid hc
  clear hc
  have HW := Lib.hid hws
  have HX := Lib.hid hE
  clear hws hE
  have HL := Lib.hid (fun (W : World) => placeOf_any wd hg sv x hf hrb W)
  clear hf hrb
  obtain ⟨t1, t2, ht⟩ : ∃ t1 t2, tlW wd hg x = (t1, t2) := ⟨_, _, rfl⟩
  rw [ht] at HL ⊢
  dsimp only at HL ⊢
  go_enter Tryd.func16, Tryd.ntmps16
  go_upto_region 1 with (fail)
  refine abs_world (fun W => W.heap[w.heap.size]? = some (.cells (roomC wd hg sv) 36 (0, 0)) ∧ W.heap[w.heap.size + 1]? = some (.cells (winC x) 38 (0, 0)) ∧ W.heap[w.heap.size + 1 + 1]? = some (.cells (tileC 0 0) 31 (0, 0)) ∧ Below w.heap.size w W) (tri_at w (.cells (roomC wd hg sv) 36) (.cells (winC x) 38) (.cells (tileC 0 0) 31)) ?_
  rintro W ⟨h0, h1, h2, hb⟩
  have H0 := Lib.hid h0
  have H1 := Lib.hid h1
  have H2 := Lib.hid h2
  have HV := Lib.hid (wins_below HW.out hb)
  replace HX := Lib.hid (errs_below HX.out hb)
  clear h0 h1 h2
  refine wp_region_held_drew (S := (fun W => W.heap[w.heap.size]? = some (.cells (roomC wd hg sv) 36 (0, 0)) ∧ W.heap[w.heap.size + 1]? = some (.cells (winC x) 38 (0, 0)) ∧ WinsAt W sv ws ∧ ErrsAt W e0 e1 e2 e3 ∧ W.heap[w.heap.size + 1 + 1]? = some (.cells (tileC 0 0) 31 (0, 0)) ∧ Below w.heap.size w W)) (by kernel_rfl) ⟨H0.out, H1.out, HV.out, errs_below HX.out (Below.drew (Below.refl _ _)), H2.out, hb.drew⟩ (fun hHeld => ?_)
  refine take_op (i := 0) (d := 7) (v := .agg (roomC wd hg sv)) rfl rfl (by kernel_rfl) (by kernel_rfl) (by kernel_rfl) (fun _ _ _ h => h) (yields_row (by rfl) 36 (.tmp 2) (by rfl) w.heap.size 0 3 (by rfl) 36 (roomC wd hg sv) (0, 0) _ (fun _ h => h.1) Tryd.underlying36 rfl info_room (room_fits _ _ _) (roomC wd hg sv) (room_all _ _ _)) hHeld ?_
  simp only [List.setIfInBounds_toArray, List.set_cons_zero, List.set_cons_succ]
  refine take_op (i := 2) (d := 9) (v := .agg (roomC wd hg sv)) rfl rfl (by kernel_rfl) (by kernel_rfl) (by kernel_rfl) (fun _ _ _ h => h) (yields_row (by rfl) 36 (.tmp 2) (by rfl) w.heap.size 0 3 (by rfl) 36 (roomC wd hg sv) (0, 0) _ (fun _ h => h.1) Tryd.underlying36 rfl info_room (room_fits _ _ _) (roomC wd hg sv) (room_all _ _ _)) hHeld ?_
  simp only [List.setIfInBounds_toArray, List.set_cons_zero, List.set_cons_succ]
  refine take_op (i := 3) (d := 10) (v := .agg (winC x)) rfl rfl (by kernel_rfl) (by kernel_rfl) (by kernel_rfl) (fun _ _ _ h => h) (yields_row (by rfl) 38 (.tmp 3) (by rfl) (w.heap.size + 1) 0 3 (by rfl) 38 (winC x) (0, 0) _ (fun _ h => h.2.1) Tryd.underlying38 rfl info_win (win_fits _) (winC x) (win_all _)) hHeld ?_
  simp only [List.setIfInBounds_toArray, List.set_cons_zero, List.set_cons_succ]
  refine wpAnyH_ready (rs := [1]) (by kernel_rfl) (by simp) ?_
  refine AllReadyH.cons rfl (fun K hK => ?_) AllReadyH.nil
  go_simp
  refine (ValidRoom_any wd hg sv ws _ hHeld.2.2.1).mono ?_
  rintro e W1 ⟨rfl, hb1⟩
  refine hK.out _ _ (⟨below_row hb1 hHeld.1, below_row hb1 hHeld.2.1, wins_below hHeld.2.2.1 hb1, errs_below hHeld.2.2.2.1 hb1, below_row hb1 hHeld.2.2.2.2.1, hHeld.2.2.2.2.2.trans (hb1.mono hHeld.2.2.2.2.2.size)⟩) (fun hHeld2 => ?_)
  clear hK K
  replace hHeld := hHeld2
  clear hHeld2
  clear hb1
  rw [hv]
  refine wpAnyH_ready (rs := [4]) (by kernel_rfl) (by simp) ?_
  refine AllReadyH.cons rfl (fun K hK => ?_) AllReadyH.nil
  go_simp
  refine (fits_any wd hg sv x _).mono ?_
  rintro e W1 ⟨rfl, hb1⟩
  refine hK.out _ _ (⟨below_row hb1 hHeld.1, below_row hb1 hHeld.2.1, wins_below hHeld.2.2.1 hb1, errs_below hHeld.2.2.2.1 hb1, below_row hb1 hHeld.2.2.2.2.1, hHeld.2.2.2.2.2.trans (hb1.mono hHeld.2.2.2.2.2.size)⟩) (fun hHeld2 => ?_)
  clear hK K
  replace hHeld := hHeld2
  clear hHeld2
  clear hb1
  rw [hr]
  refine wpAnyH_ready (rs := [5]) (by kernel_rfl) (by simp) ?_
  refine AllReadyH.cons rfl (fun K hK => ?_) AllReadyH.nil
  go_simp
  refine (refusal_any hHeld.2.2.2.1 v r true).mono ?_
  rintro e W3 ⟨rfl, rfl⟩
  refine hK.out _ _ (hHeld) (fun hHeld2 => ?_)
  clear hK K
  replace hHeld := hHeld2
  clear hHeld2
  refine take_op (i := 6) (d := 6) (v := ?_) rfl rfl (by kernel_rfl) (by kernel_rfl) (by kernel_rfl) (fun _ _ _ h => h) (Or.inl ⟨by rfl, ?hy6u1⟩) hHeld ?rest6u1
  case hy6u1 =>
    intro w' hS'
    go_simp
    try with_reducible rfl
  simp only [List.setIfInBounds_toArray, List.set_cons_zero, List.set_cons_succ]
  refine wpAnyH_done (by kernel_rfl) ?_ _
  obtain ⟨g0, g1, g2, g3, g4, hbz⟩ := hHeld
  clear H0 H1 H2 HV HX
  have H0 := Lib.hid g0
  have H1 := Lib.hid g1
  have HX := Lib.hid g3
  have H2 := Lib.hid g4
  clear g0 g1 g2 g3 g4
  rw [HC.out]
  dsimp only [errOf, errV]
  have hn := fun w => run_neq_nil_nil (P := Tryd.prog) (w := w) 89 (by kernel_rfl)
  go_wp2_with (first | (refine wpList_load_part rfl 36 _ rfl w.heap.size 0 3 rfl 36 (roomC wd hg sv) (0, 0) _ H0.out Tryd.underlying36 rfl info_room (room_fits _ _ _) _ (room_all _ _ _) ?_) | (refine wpList_load_part rfl 38 _ rfl (w.heap.size + 1) 0 3 rfl 38 (winC x) (0, 0) _ H1.out Tryd.underlying38 rfl info_win (win_fits _) _ (win_all _) ?_) | (go_at_call 52; refine (HL.out _).mono ?_; rintro e W4 ⟨rfl, hb4⟩; replace hbz := hbz.trans (hb4.mono hbz.size); replace H2 := Lib.hid (below_row hb4 H2.out); clear hb4) | (refine wpList_store_part rfl 31 _ _ rfl (w.heap.size + 1 + 1) 0 (tileC t1 t2) rfl rfl 31 _ H2.out (by kernel_rfl) (Nat.le_refl _) (tile_one _ _) ?_; rw [laid_allr _ _ (by rfl)]))
  refine bodyPost_ret (results_tile rfl _ _ (w.heap.size + 1 + 1) t1 t2 rfl (setRow_heap _ _ _ _ _ _ H2.out)) rfl ⟨rfl, below_setRow hbz (by omega) _⟩

set_option maxRecDepth 100000 in
set_option maxHeartbeats 1000000 in
theorem TileOf_n1 (wd hg : Int) (sv : Value) (ws : List Wn) (x : Wn) (v r : Bool) (e0 e1 e2 e3 : Addr) (w : World) (hws : WinsAt w sv ws) (hE : ErrsAt w e0 e1 e2 e3)
    (hv : okRm wd hg ws = v) (hr : fitB wd hg x = r) (hc : refN v r true = 1) :
    Calls Tryd.prog 16 #[.agg (roomC wd hg sv), .agg (winC x)] w fun e w' => e = .returned (.tuple #[.agg (tileC 0 0), .int .i64 1]) ∧ Below w.heap.size w w' := by
  have HC := Lib.hid hc
  clear hc
  have HW := Lib.hid hws
  have HX := Lib.hid hE
  clear hws hE
  go_enter Tryd.func16, Tryd.ntmps16
  go_upto_region 1 with (fail)
  refine abs_world (fun W => W.heap[w.heap.size]? = some (.cells (roomC wd hg sv) 36 (0, 0)) ∧ W.heap[w.heap.size + 1]? = some (.cells (winC x) 38 (0, 0)) ∧ W.heap[w.heap.size + 1 + 1]? = some (.cells (tileC 0 0) 31 (0, 0)) ∧ Below w.heap.size w W) (tri_at w (.cells (roomC wd hg sv) 36) (.cells (winC x) 38) (.cells (tileC 0 0) 31)) ?_
  rintro W ⟨h0, h1, h2, hb⟩
  have H0 := Lib.hid h0
  have H1 := Lib.hid h1
  have H2 := Lib.hid h2
  have HV := Lib.hid (wins_below HW.out hb)
  replace HX := Lib.hid (errs_below HX.out hb)
  clear h0 h1 h2
  refine wp_region_held_drew (S := (fun W => W.heap[w.heap.size]? = some (.cells (roomC wd hg sv) 36 (0, 0)) ∧ W.heap[w.heap.size + 1]? = some (.cells (winC x) 38 (0, 0)) ∧ WinsAt W sv ws ∧ ErrsAt W e0 e1 e2 e3 ∧ W.heap[w.heap.size + 1 + 1]? = some (.cells (tileC 0 0) 31 (0, 0)) ∧ Below w.heap.size w W)) (by kernel_rfl) ⟨H0.out, H1.out, HV.out, errs_below HX.out (Below.drew (Below.refl _ _)), H2.out, hb.drew⟩ (fun hHeld => ?_)
  refine take_op (i := 0) (d := 7) (v := .agg (roomC wd hg sv)) rfl rfl (by kernel_rfl) (by kernel_rfl) (by kernel_rfl) (fun _ _ _ h => h) (yields_row (by rfl) 36 (.tmp 2) (by rfl) w.heap.size 0 3 (by rfl) 36 (roomC wd hg sv) (0, 0) _ (fun _ h => h.1) Tryd.underlying36 rfl info_room (room_fits _ _ _) (roomC wd hg sv) (room_all _ _ _)) hHeld ?_
  simp only [List.setIfInBounds_toArray, List.set_cons_zero, List.set_cons_succ]
  refine take_op (i := 2) (d := 9) (v := .agg (roomC wd hg sv)) rfl rfl (by kernel_rfl) (by kernel_rfl) (by kernel_rfl) (fun _ _ _ h => h) (yields_row (by rfl) 36 (.tmp 2) (by rfl) w.heap.size 0 3 (by rfl) 36 (roomC wd hg sv) (0, 0) _ (fun _ h => h.1) Tryd.underlying36 rfl info_room (room_fits _ _ _) (roomC wd hg sv) (room_all _ _ _)) hHeld ?_
  simp only [List.setIfInBounds_toArray, List.set_cons_zero, List.set_cons_succ]
  refine take_op (i := 3) (d := 10) (v := .agg (winC x)) rfl rfl (by kernel_rfl) (by kernel_rfl) (by kernel_rfl) (fun _ _ _ h => h) (yields_row (by rfl) 38 (.tmp 3) (by rfl) (w.heap.size + 1) 0 3 (by rfl) 38 (winC x) (0, 0) _ (fun _ h => h.2.1) Tryd.underlying38 rfl info_win (win_fits _) (winC x) (win_all _)) hHeld ?_
  simp only [List.setIfInBounds_toArray, List.set_cons_zero, List.set_cons_succ]
  refine wpAnyH_ready (rs := [1]) (by kernel_rfl) (by simp) ?_
  refine AllReadyH.cons rfl (fun K hK => ?_) AllReadyH.nil
  go_simp
  refine (ValidRoom_any wd hg sv ws _ hHeld.2.2.1).mono ?_
  rintro e W1 ⟨rfl, hb1⟩
  refine hK.out _ _ (⟨below_row hb1 hHeld.1, below_row hb1 hHeld.2.1, wins_below hHeld.2.2.1 hb1, errs_below hHeld.2.2.2.1 hb1, below_row hb1 hHeld.2.2.2.2.1, hHeld.2.2.2.2.2.trans (hb1.mono hHeld.2.2.2.2.2.size)⟩) (fun hHeld2 => ?_)
  clear hK K
  replace hHeld := hHeld2
  clear hHeld2
  clear hb1
  rw [hv]
  refine wpAnyH_ready (rs := [4]) (by kernel_rfl) (by simp) ?_
  refine AllReadyH.cons rfl (fun K hK => ?_) AllReadyH.nil
  go_simp
  refine (fits_any wd hg sv x _).mono ?_
  rintro e W1 ⟨rfl, hb1⟩
  refine hK.out _ _ (⟨below_row hb1 hHeld.1, below_row hb1 hHeld.2.1, wins_below hHeld.2.2.1 hb1, errs_below hHeld.2.2.2.1 hb1, below_row hb1 hHeld.2.2.2.2.1, hHeld.2.2.2.2.2.trans (hb1.mono hHeld.2.2.2.2.2.size)⟩) (fun hHeld2 => ?_)
  clear hK K
  replace hHeld := hHeld2
  clear hHeld2
  clear hb1
  rw [hr]
  refine wpAnyH_ready (rs := [5]) (by kernel_rfl) (by simp) ?_
  refine AllReadyH.cons rfl (fun K hK => ?_) AllReadyH.nil
  go_simp
  refine (refusal_any hHeld.2.2.2.1 v r true).mono ?_
  rintro e W3 ⟨rfl, rfl⟩
  refine hK.out _ _ (hHeld) (fun hHeld2 => ?_)
  clear hK K
  replace hHeld := hHeld2
  clear hHeld2
  refine take_op (i := 6) (d := 6) (v := ?_) rfl rfl (by kernel_rfl) (by kernel_rfl) (by kernel_rfl) (fun _ _ _ h => h) (Or.inl ⟨by rfl, ?hy6u2⟩) hHeld ?rest6u2
  case hy6u2 =>
    intro w' hS'
    go_simp
    try with_reducible rfl
  simp only [List.setIfInBounds_toArray, List.set_cons_zero, List.set_cons_succ]
  refine wpAnyH_done (by kernel_rfl) ?_ _
  obtain ⟨g0, g1, g2, g3, g4, hbz⟩ := hHeld
  clear H0 H1 H2 HV HX
  have H0 := Lib.hid g0
  have H1 := Lib.hid g1
  have HX := Lib.hid g3
  have H2 := Lib.hid g4
  clear g0 g1 g2 g3 g4
  rw [HC.out]
  dsimp only [errOf, errV]
  have hn := fun w => run_neq_held_nil (P := Tryd.prog) (w := w) 89 164 (.pointer (some e0)) (by kernel_rfl)
  go_wp2_with (first | (go_at_call 51; refine (codeOf_any HX.out 1).mono ?_; rintro e W4 ⟨rfl, rfl⟩) | (refine wpList_store_part rfl 31 _ _ rfl (w.heap.size + 1 + 1) 0 (tileC 0 0) rfl rfl 31 _ H2.out (by kernel_rfl) (Nat.le_refl _) (tile_one _ _) ?_; rw [laid_allr _ _ (by rfl)]))
  refine bodyPost_ret (results_tile rfl _ _ (w.heap.size + 1 + 1) 0 0 rfl (setRow_heap _ _ _ _ _ _ H2.out)) rfl ⟨rfl, below_setRow hbz (by omega) _⟩

set_option maxRecDepth 100000 in
set_option maxHeartbeats 1000000 in
theorem TileOf_n2 (wd hg : Int) (sv : Value) (ws : List Wn) (x : Wn) (v r : Bool) (e0 e1 e2 e3 : Addr) (w : World) (hws : WinsAt w sv ws) (hE : ErrsAt w e0 e1 e2 e3)
    (hv : okRm wd hg ws = v) (hr : fitB wd hg x = r) (hc : refN v r true = 2) :
    Calls Tryd.prog 16 #[.agg (roomC wd hg sv), .agg (winC x)] w fun e w' => e = .returned (.tuple #[.agg (tileC 0 0), .int .i64 2]) ∧ Below w.heap.size w w' := by
  have HC := Lib.hid hc
  clear hc
  have HW := Lib.hid hws
  have HX := Lib.hid hE
  clear hws hE
  go_enter Tryd.func16, Tryd.ntmps16
  go_upto_region 1 with (fail)
  refine abs_world (fun W => W.heap[w.heap.size]? = some (.cells (roomC wd hg sv) 36 (0, 0)) ∧ W.heap[w.heap.size + 1]? = some (.cells (winC x) 38 (0, 0)) ∧ W.heap[w.heap.size + 1 + 1]? = some (.cells (tileC 0 0) 31 (0, 0)) ∧ Below w.heap.size w W) (tri_at w (.cells (roomC wd hg sv) 36) (.cells (winC x) 38) (.cells (tileC 0 0) 31)) ?_
  rintro W ⟨h0, h1, h2, hb⟩
  have H0 := Lib.hid h0
  have H1 := Lib.hid h1
  have H2 := Lib.hid h2
  have HV := Lib.hid (wins_below HW.out hb)
  replace HX := Lib.hid (errs_below HX.out hb)
  clear h0 h1 h2
  refine wp_region_held_drew (S := (fun W => W.heap[w.heap.size]? = some (.cells (roomC wd hg sv) 36 (0, 0)) ∧ W.heap[w.heap.size + 1]? = some (.cells (winC x) 38 (0, 0)) ∧ WinsAt W sv ws ∧ ErrsAt W e0 e1 e2 e3 ∧ W.heap[w.heap.size + 1 + 1]? = some (.cells (tileC 0 0) 31 (0, 0)) ∧ Below w.heap.size w W)) (by kernel_rfl) ⟨H0.out, H1.out, HV.out, errs_below HX.out (Below.drew (Below.refl _ _)), H2.out, hb.drew⟩ (fun hHeld => ?_)
  refine take_op (i := 0) (d := 7) (v := .agg (roomC wd hg sv)) rfl rfl (by kernel_rfl) (by kernel_rfl) (by kernel_rfl) (fun _ _ _ h => h) (yields_row (by rfl) 36 (.tmp 2) (by rfl) w.heap.size 0 3 (by rfl) 36 (roomC wd hg sv) (0, 0) _ (fun _ h => h.1) Tryd.underlying36 rfl info_room (room_fits _ _ _) (roomC wd hg sv) (room_all _ _ _)) hHeld ?_
  simp only [List.setIfInBounds_toArray, List.set_cons_zero, List.set_cons_succ]
  refine take_op (i := 2) (d := 9) (v := .agg (roomC wd hg sv)) rfl rfl (by kernel_rfl) (by kernel_rfl) (by kernel_rfl) (fun _ _ _ h => h) (yields_row (by rfl) 36 (.tmp 2) (by rfl) w.heap.size 0 3 (by rfl) 36 (roomC wd hg sv) (0, 0) _ (fun _ h => h.1) Tryd.underlying36 rfl info_room (room_fits _ _ _) (roomC wd hg sv) (room_all _ _ _)) hHeld ?_
  simp only [List.setIfInBounds_toArray, List.set_cons_zero, List.set_cons_succ]
  refine take_op (i := 3) (d := 10) (v := .agg (winC x)) rfl rfl (by kernel_rfl) (by kernel_rfl) (by kernel_rfl) (fun _ _ _ h => h) (yields_row (by rfl) 38 (.tmp 3) (by rfl) (w.heap.size + 1) 0 3 (by rfl) 38 (winC x) (0, 0) _ (fun _ h => h.2.1) Tryd.underlying38 rfl info_win (win_fits _) (winC x) (win_all _)) hHeld ?_
  simp only [List.setIfInBounds_toArray, List.set_cons_zero, List.set_cons_succ]
  refine wpAnyH_ready (rs := [1]) (by kernel_rfl) (by simp) ?_
  refine AllReadyH.cons rfl (fun K hK => ?_) AllReadyH.nil
  go_simp
  refine (ValidRoom_any wd hg sv ws _ hHeld.2.2.1).mono ?_
  rintro e W1 ⟨rfl, hb1⟩
  refine hK.out _ _ (⟨below_row hb1 hHeld.1, below_row hb1 hHeld.2.1, wins_below hHeld.2.2.1 hb1, errs_below hHeld.2.2.2.1 hb1, below_row hb1 hHeld.2.2.2.2.1, hHeld.2.2.2.2.2.trans (hb1.mono hHeld.2.2.2.2.2.size)⟩) (fun hHeld2 => ?_)
  clear hK K
  replace hHeld := hHeld2
  clear hHeld2
  clear hb1
  rw [hv]
  refine wpAnyH_ready (rs := [4]) (by kernel_rfl) (by simp) ?_
  refine AllReadyH.cons rfl (fun K hK => ?_) AllReadyH.nil
  go_simp
  refine (fits_any wd hg sv x _).mono ?_
  rintro e W1 ⟨rfl, hb1⟩
  refine hK.out _ _ (⟨below_row hb1 hHeld.1, below_row hb1 hHeld.2.1, wins_below hHeld.2.2.1 hb1, errs_below hHeld.2.2.2.1 hb1, below_row hb1 hHeld.2.2.2.2.1, hHeld.2.2.2.2.2.trans (hb1.mono hHeld.2.2.2.2.2.size)⟩) (fun hHeld2 => ?_)
  clear hK K
  replace hHeld := hHeld2
  clear hHeld2
  clear hb1
  rw [hr]
  refine wpAnyH_ready (rs := [5]) (by kernel_rfl) (by simp) ?_
  refine AllReadyH.cons rfl (fun K hK => ?_) AllReadyH.nil
  go_simp
  refine (refusal_any hHeld.2.2.2.1 v r true).mono ?_
  rintro e W3 ⟨rfl, rfl⟩
  refine hK.out _ _ (hHeld) (fun hHeld2 => ?_)
  clear hK K
  replace hHeld := hHeld2
  clear hHeld2
  refine take_op (i := 6) (d := 6) (v := ?_) rfl rfl (by kernel_rfl) (by kernel_rfl) (by kernel_rfl) (fun _ _ _ h => h) (Or.inl ⟨by rfl, ?hy6u3⟩) hHeld ?rest6u3
  case hy6u3 =>
    intro w' hS'
    go_simp
    try with_reducible rfl
  simp only [List.setIfInBounds_toArray, List.set_cons_zero, List.set_cons_succ]
  refine wpAnyH_done (by kernel_rfl) ?_ _
  obtain ⟨g0, g1, g2, g3, g4, hbz⟩ := hHeld
  clear H0 H1 H2 HV HX
  have H0 := Lib.hid g0
  have H1 := Lib.hid g1
  have HX := Lib.hid g3
  have H2 := Lib.hid g4
  clear g0 g1 g2 g3 g4
  rw [HC.out]
  dsimp only [errOf, errV]
  have hn := fun w => run_neq_held_nil (P := Tryd.prog) (w := w) 89 164 (.pointer (some e1)) (by kernel_rfl)
  go_wp2_with (first | (go_at_call 51; refine (codeOf_any HX.out 2).mono ?_; rintro e W4 ⟨rfl, rfl⟩) | (refine wpList_store_part rfl 31 _ _ rfl (w.heap.size + 1 + 1) 0 (tileC 0 0) rfl rfl 31 _ H2.out (by kernel_rfl) (Nat.le_refl _) (tile_one _ _) ?_; rw [laid_allr _ _ (by rfl)]))
  refine bodyPost_ret (results_tile rfl _ _ (w.heap.size + 1 + 1) 0 0 rfl (setRow_heap _ _ _ _ _ _ H2.out)) rfl ⟨rfl, below_setRow hbz (by omega) _⟩

set_option maxRecDepth 100000 in
set_option maxHeartbeats 1000000 in
theorem STileOf_y (wd hg : Int) (sv : Value) (ws : List Wn) (x : Wn) (hf : FitOk wd hg x) (hrb : RB wd hg) (iw : I8 wd) (ih : I8 hg) (hwf : ∀ x ∈ ws, WnWf x) (hx : WnWf x) (r : Bool) (w : World) (hws : WinsAt w sv ws)
    (hr : fitB wd hg x = r) (hc : codeR (okRm wd hg ws) r = 0) :
    Calls Tryd.prog 13 #[.agg (roomC wd hg sv), .agg (winC x)] w fun e w' => e = .returned (.tuple #[.agg (tileC (tlW wd hg x).1 (tlW wd hg x).2), .int .i64 0]) ∧ Below w.heap.size w w' := by
  have HIs := Lib.hid (fun (W : World) (hW : W.heap[w.heap.size]? = some (.cells (roomC wd hg sv) 36 (0, 0))) => l03Window_any wd hg iw ih sv x hx w.heap.size 36 (0, 0) W hW)
  have HAs := Lib.hid (fun (W : World) (hW : W.heap[w.heap.size]? = some (.cells (roomC wd hg sv) 36 (0, 0))) (hV : WinsAt W sv ws) => l03Asked_any wd hg iw ih sv ws hwf r w.heap.size 36 (0, 0) W hW hV)
  have HL := Lib.hid (fun (W : World) (hW : W.heap[w.heap.size]? = some (.cells (roomC wd hg sv) 36 (0, 0))) => l03Tile_any wd hg sv x hf hrb w.heap.size 36 (0, 0) W hW)
  clear hf hrb
  obtain ⟨t1, t2, ht⟩ : ∃ t1 t2, tlW wd hg x = (t1, t2) := ⟨_, _, rfl⟩
  rw [ht] at HL ⊢
  dsimp only at HL ⊢
  unfold Hid at HIs HAs
  rw [hr] at HIs
  rw [hc] at HAs
  replace HIs := Lib.hid HIs
  replace HAs := Lib.hid HAs
  have HW := Lib.hid hws
  clear hws hr hc hwf iw ih hx
  go_enter Tryd.func13, Tryd.ntmps13
  go_upto_region 1 with (fail)
  refine abs_world (fun W => W.heap[w.heap.size]? = some (.cells (roomC wd hg sv) 36 (0, 0)) ∧ W.heap[w.heap.size + 1]? = some (.cells (winC x) 38 (0, 0)) ∧ W.heap[w.heap.size + 1 + 1]? = some (.cells (tileC 0 0) 31 (0, 0)) ∧ Below w.heap.size w W) (tri_at w (.cells (roomC wd hg sv) 36) (.cells (winC x) 38) (.cells (tileC 0 0) 31)) ?_
  rintro W ⟨h0, h1, h2, hb⟩
  have H0 := Lib.hid h0
  have H1 := Lib.hid h1
  have H2 := Lib.hid h2
  have HV := Lib.hid (wins_below HW.out hb)
  clear h0 h1 h2
  go_wp2_with (first | (refine wpList_load_part rfl 38 _ rfl (w.heap.size + 1) 0 3 rfl 38 (winC x) (0, 0) _ H1.out Tryd.underlying38 rfl info_win (win_fits _) _ (win_all _) ?_) | (go_at_call 45; refine (HIs.out _ H0.out).mono ?_; rintro e W1 ⟨rfl, hb1⟩; replace H0 := Lib.hid (below_row hb1 H0.out); replace H1 := Lib.hid (below_row hb1 H1.out); replace H2 := Lib.hid (below_row hb1 H2.out); replace HV := Lib.hid (wins_below HV.out hb1); replace hb := hb.trans (hb1.mono hb.size); clear hb1) | (go_at_call 44; refine (HAs.out _ H0.out HV.out).mono ?_; rintro e W1 ⟨rfl, hb1⟩; replace H0 := Lib.hid (below_row hb1 H0.out); replace H1 := Lib.hid (below_row hb1 H1.out); replace H2 := Lib.hid (below_row hb1 H2.out); replace HV := Lib.hid (wins_below HV.out hb1); replace hb := hb.trans (hb1.mono hb.size); clear hb1) | (go_at_call 46; refine (HL.out _ H0.out).mono ?_; rintro e W1 ⟨rfl, hb1⟩; replace H0 := Lib.hid (below_row hb1 H0.out); replace H1 := Lib.hid (below_row hb1 H1.out); replace H2 := Lib.hid (below_row hb1 H2.out); replace HV := Lib.hid (wins_below HV.out hb1); replace hb := hb.trans (hb1.mono hb.size); clear hb1) | (refine wpList_store_part rfl 31 _ _ rfl (w.heap.size + 1 + 1) 0 (tileC t1 t2) rfl rfl 31 _ H2.out (by kernel_rfl) (Nat.le_refl _) (tile_one _ _) ?_; rw [laid_allr _ _ (by rfl)]))
  refine bodyPost_ret (results_tile rfl _ _ (w.heap.size + 1 + 1) t1 t2 rfl (setRow_heap _ _ _ _ _ _ H2.out)) rfl ⟨rfl, below_setRow hb (by omega) _⟩

set_option maxRecDepth 100000 in
set_option maxHeartbeats 1000000 in
theorem STileOf_n1 (wd hg : Int) (sv : Value) (ws : List Wn) (x : Wn) (iw : I8 wd) (ih : I8 hg) (hwf : ∀ x ∈ ws, WnWf x) (hx : WnWf x) (r : Bool) (w : World) (hws : WinsAt w sv ws)
    (hr : fitB wd hg x = r) (hc : codeR (okRm wd hg ws) r = 1) :
    Calls Tryd.prog 13 #[.agg (roomC wd hg sv), .agg (winC x)] w fun e w' => e = .returned (.tuple #[.agg (tileC 0 0), .int .i64 1]) ∧ Below w.heap.size w w' := by
  have HIs := Lib.hid (fun (W : World) (hW : W.heap[w.heap.size]? = some (.cells (roomC wd hg sv) 36 (0, 0))) => l03Window_any wd hg iw ih sv x hx w.heap.size 36 (0, 0) W hW)
  have HAs := Lib.hid (fun (W : World) (hW : W.heap[w.heap.size]? = some (.cells (roomC wd hg sv) 36 (0, 0))) (hV : WinsAt W sv ws) => l03Asked_any wd hg iw ih sv ws hwf r w.heap.size 36 (0, 0) W hW hV)
  unfold Hid at HIs HAs
  rw [hr] at HIs
  rw [hc] at HAs
  replace HIs := Lib.hid HIs
  replace HAs := Lib.hid HAs
  have HW := Lib.hid hws
  clear hws hr hc hwf iw ih hx
  go_enter Tryd.func13, Tryd.ntmps13
  go_upto_region 1 with (fail)
  refine abs_world (fun W => W.heap[w.heap.size]? = some (.cells (roomC wd hg sv) 36 (0, 0)) ∧ W.heap[w.heap.size + 1]? = some (.cells (winC x) 38 (0, 0)) ∧ W.heap[w.heap.size + 1 + 1]? = some (.cells (tileC 0 0) 31 (0, 0)) ∧ Below w.heap.size w W) (tri_at w (.cells (roomC wd hg sv) 36) (.cells (winC x) 38) (.cells (tileC 0 0) 31)) ?_
  rintro W ⟨h0, h1, h2, hb⟩
  have H0 := Lib.hid h0
  have H1 := Lib.hid h1
  have H2 := Lib.hid h2
  have HV := Lib.hid (wins_below HW.out hb)
  clear h0 h1 h2
  go_wp2_with (first | (refine wpList_load_part rfl 38 _ rfl (w.heap.size + 1) 0 3 rfl 38 (winC x) (0, 0) _ H1.out Tryd.underlying38 rfl info_win (win_fits _) _ (win_all _) ?_) | (go_at_call 45; refine (HIs.out _ H0.out).mono ?_; rintro e W1 ⟨rfl, hb1⟩; replace H0 := Lib.hid (below_row hb1 H0.out); replace H1 := Lib.hid (below_row hb1 H1.out); replace H2 := Lib.hid (below_row hb1 H2.out); replace HV := Lib.hid (wins_below HV.out hb1); replace hb := hb.trans (hb1.mono hb.size); clear hb1) | (go_at_call 44; refine (HAs.out _ H0.out HV.out).mono ?_; rintro e W1 ⟨rfl, hb1⟩; replace H0 := Lib.hid (below_row hb1 H0.out); replace H1 := Lib.hid (below_row hb1 H1.out); replace H2 := Lib.hid (below_row hb1 H2.out); replace HV := Lib.hid (wins_below HV.out hb1); replace hb := hb.trans (hb1.mono hb.size); clear hb1) | (refine wpList_store_part rfl 31 _ _ rfl (w.heap.size + 1 + 1) 0 (tileC 0 0) rfl rfl 31 _ H2.out (by kernel_rfl) (Nat.le_refl _) (tile_one _ _) ?_; rw [laid_allr _ _ (by rfl)]))
  refine bodyPost_ret (results_tile rfl _ _ (w.heap.size + 1 + 1) 0 0 rfl (setRow_heap _ _ _ _ _ _ H2.out)) rfl ⟨rfl, below_setRow hb (by omega) _⟩

set_option maxRecDepth 100000 in
set_option maxHeartbeats 1000000 in
theorem STileOf_n2 (wd hg : Int) (sv : Value) (ws : List Wn) (x : Wn) (iw : I8 wd) (ih : I8 hg) (hwf : ∀ x ∈ ws, WnWf x) (hx : WnWf x) (r : Bool) (w : World) (hws : WinsAt w sv ws)
    (hr : fitB wd hg x = r) (hc : codeR (okRm wd hg ws) r = 2) :
    Calls Tryd.prog 13 #[.agg (roomC wd hg sv), .agg (winC x)] w fun e w' => e = .returned (.tuple #[.agg (tileC 0 0), .int .i64 2]) ∧ Below w.heap.size w w' := by
  have HIs := Lib.hid (fun (W : World) (hW : W.heap[w.heap.size]? = some (.cells (roomC wd hg sv) 36 (0, 0))) => l03Window_any wd hg iw ih sv x hx w.heap.size 36 (0, 0) W hW)
  have HAs := Lib.hid (fun (W : World) (hW : W.heap[w.heap.size]? = some (.cells (roomC wd hg sv) 36 (0, 0))) (hV : WinsAt W sv ws) => l03Asked_any wd hg iw ih sv ws hwf r w.heap.size 36 (0, 0) W hW hV)
  unfold Hid at HIs HAs
  rw [hr] at HIs
  rw [hc] at HAs
  replace HIs := Lib.hid HIs
  replace HAs := Lib.hid HAs
  have HW := Lib.hid hws
  clear hws hr hc hwf iw ih hx
  go_enter Tryd.func13, Tryd.ntmps13
  go_upto_region 1 with (fail)
  refine abs_world (fun W => W.heap[w.heap.size]? = some (.cells (roomC wd hg sv) 36 (0, 0)) ∧ W.heap[w.heap.size + 1]? = some (.cells (winC x) 38 (0, 0)) ∧ W.heap[w.heap.size + 1 + 1]? = some (.cells (tileC 0 0) 31 (0, 0)) ∧ Below w.heap.size w W) (tri_at w (.cells (roomC wd hg sv) 36) (.cells (winC x) 38) (.cells (tileC 0 0) 31)) ?_
  rintro W ⟨h0, h1, h2, hb⟩
  have H0 := Lib.hid h0
  have H1 := Lib.hid h1
  have H2 := Lib.hid h2
  have HV := Lib.hid (wins_below HW.out hb)
  clear h0 h1 h2
  go_wp2_with (first | (refine wpList_load_part rfl 38 _ rfl (w.heap.size + 1) 0 3 rfl 38 (winC x) (0, 0) _ H1.out Tryd.underlying38 rfl info_win (win_fits _) _ (win_all _) ?_) | (go_at_call 45; refine (HIs.out _ H0.out).mono ?_; rintro e W1 ⟨rfl, hb1⟩; replace H0 := Lib.hid (below_row hb1 H0.out); replace H1 := Lib.hid (below_row hb1 H1.out); replace H2 := Lib.hid (below_row hb1 H2.out); replace HV := Lib.hid (wins_below HV.out hb1); replace hb := hb.trans (hb1.mono hb.size); clear hb1) | (go_at_call 44; refine (HAs.out _ H0.out HV.out).mono ?_; rintro e W1 ⟨rfl, hb1⟩; replace H0 := Lib.hid (below_row hb1 H0.out); replace H1 := Lib.hid (below_row hb1 H1.out); replace H2 := Lib.hid (below_row hb1 H2.out); replace HV := Lib.hid (wins_below HV.out hb1); replace hb := hb.trans (hb1.mono hb.size); clear hb1) | (refine wpList_store_part rfl 31 _ _ rfl (w.heap.size + 1 + 1) 0 (tileC 0 0) rfl rfl 31 _ H2.out (by kernel_rfl) (Nat.le_refl _) (tile_one _ _) ?_; rw [laid_allr _ _ (by rfl)]))
  refine bodyPost_ret (results_tile rfl _ _ (w.heap.size + 1 + 1) 0 0 rfl (setRow_heap _ _ _ _ _ _ H2.out)) rfl ⟨rfl, below_setRow hb (by omega) _⟩

end Go.Proofs.YtkmjapdikhckeaaDoor
