/-
  The glare of a desk: the program and the model.
-/
import Derived.Test.YtckkemknajggpaaGreatDoorGlare
import Derived.Test.YtckkemknajggpaaGreatDoorLightS
import Derived.Test.YtckkemknajggpaaGreatDoorRoomS
namespace Go.Proofs.YtckkemknajggpaaGreatDoor
open Go.RowKit

attribute [local go_sem] run_store_f
theorem run_store_if (P : Program) (w : World) (a : Addr) (t : TypeId) (v : Value) (m : Mode) : (store a (.iface t v) m).run P w = stored P w a (.iface t v) m := run_store P w a _ m rfl
attribute [local go_sem] run_store_if

/-- Does a window of a room glare at a desk? -/
def glW (wd hg a1 a2 a3 : Int) (x : Wn) : Bool := glB a1 a2 a3 x.1 (tlW wd hg x).1 (tlW wd hg x).2

set_option maxRecDepth 100000 in
set_option maxHeartbeats 1000000 in
theorem glareAt_row (wd hg : Int) (sv : Value) (ws : List Wn) (ok : RmOk wd hg ws) (hwf : ∀ x ∈ ws, WnWf x) (a1 a2 a3 : Int) (ha : inRoom wd hg (a1, a2)) (hl : a3 = 0 ∨ a3 = 2) (w : World) (hws : WinsAt w sv ws) :
    Calls Tryz.prog 70 #[.agg (roomC wd hg sv), .agg (deskC a1 a2 a3)] w fun e w' => e = .returned (.float .f32 (litW wd hg (a1, a2) (glW wd hg a1 a2 a3) ws)) ∧ Below w.heap.size w w' := by
  have hV : wallV a3 = .iface 156 (.int .i8 a3) := if_pos hl
  have HL := Lib.hid (fun (fb db : Nat) (W : World) (hW : WinsAt W sv ws) (rf : W.heap[fb]? = some (.cells #[.iface 156 (.int .i8 a3)] 135 (0, 0))) (rd : W.heap[db]? = some (.cells (deskC a1 a2 a3) 65 (0, 0))) =>
    lightFrom_any wd hg sv ws ok hwf a1 a2 ha 84 (enters_of Tryz.func84 (by kernel_rfl) rfl) #[.pointer (some ⟨fb, 0, none⟩), .pointer (some ⟨db, 0, none⟩)] (glW wd hg a1 a2 a3) (fun V => V.heap[fb]? = some (.cells #[.iface 156 (.int .i8 a3)] 135 (0, 0)) ∧ V.heap[db]? = some (.cells (deskC a1 a2 a3) 65 (0, 0))) W hW (fun _ hb => ⟨below_row hb rf, below_row hb rd⟩) (fun x V _ hC => glf_any x _ _ a1 a2 a3 (by omega) (by omega) fb db V (by rw [hV]; exact hC.1) hC.2))
  have HWl := Lib.hid (fun w => wallOf_row a3 hl w)
  unfold rowV at HWl
  have HW := Lib.hid hws
  clear hws ok hwf ha hl hV
  go_enter Tryz.func70, Tryz.ntmps70
  go_upto_region 1 with (fail)
  refine abs_world (fun W => W.heap[w.heap.size]? = some (.cells (roomC wd hg sv) 36 (0, 0)) ∧ W.heap[w.heap.size + 1]? = some (.cells (deskC a1 a2 a3) 65 (0, 0)) ∧ Below w.heap.size w W) (box2 w (.cells (roomC wd hg sv) 36) (.cells (deskC a1 a2 a3) 65)) ?_
  rintro W ⟨h0, h1, hb⟩
  generalize w.heap.size + 1 = b1 at *
  have H0 := Lib.hid h0
  have H1 := Lib.hid h1
  obtain ⟨_, _, k2⟩ := desk_cells h1
  clear h0 h1
  have HV := Lib.hid (wins_below HW.out hb)
  go_upto_region 2 with (go_at_call 78; refine (HWl.out _).mono ?_; rintro e w1 ⟨rfl, rfl⟩)
  refine abs_world (fun V => Below W.heap.size W V ∧ V.heap[W.heap.size]? = some (.cells #[.iface 156 (.int .i8 a3)] 135 (0, 0))) ?_ ?_
  · exact ⟨(Below.refl _ _).alloc (Nat.le_refl _) _, heap_alloc_new _ _⟩
  rintro V ⟨hb1, hf⟩
  replace H0 := Lib.hid (below_row hb1 H0.out)
  replace H1 := Lib.hid (below_row hb1 H1.out)
  replace HV := Lib.hid (wins_below HV.out hb1)
  replace hb := hb.trans (hb1.mono hb.size)
  have HF := Lib.hid hf
  clear hb1 hf k2
  go_wp2_with (first | (refine wpList_load_partG 36 _ rfl w.heap.size 0 3 rfl rfl 36 (roomC wd hg sv) (0, 0) _ H0.out Tryz.underlying36 rfl info_room (room_fits _ _ _) _ (room_all _ _ _) ?_) | (refine wpList_load_partG 65 _ rfl b1 0 3 rfl rfl 65 (deskC a1 a2 a3) (0, 0) _ H1.out Tryz.underlying65 rfl info_desk (desk_fits _ _ _) _ (desk_all _ _ _) ?_) | (refine wpList_load_partG 63 _ rfl b1 0 2 rfl rfl 65 (deskC a1 a2 a3) (0, 0) _ H1.out Tryz.underlying63 rfl info_tile (desk_fits2 _ _ _) _ (desk_tile _ _ _) ?_) | (go_at_call 82; refine (HL.out _ _ _ HV.out HF.out H1.out).mono ?_; rintro e W1 ⟨rfl, hb1⟩))
  go_ret
  exact ⟨rfl, hb.trans (hb1.mono hb.size)⟩

set_option maxRecDepth 100000 in
set_option maxHeartbeats 1000000 in
theorem glareAt_col (wd hg : Int) (sv : Value) (ws : List Wn) (ok : RmOk wd hg ws) (hwf : ∀ x ∈ ws, WnWf x) (a1 a2 a3 : Int) (ha : inRoom wd hg (a1, a2)) (hl : a3 = 1 ∨ a3 = 3) (w : World) (hws : WinsAt w sv ws) :
    Calls Tryz.prog 70 #[.agg (roomC wd hg sv), .agg (deskC a1 a2 a3)] w fun e w' => e = .returned (.float .f32 (litW wd hg (a1, a2) (glW wd hg a1 a2 a3) ws)) ∧ Below w.heap.size w w' := by
  have hV : wallV a3 = .iface 157 (.int .i8 a3) := (if_neg (by omega))
  have HL := Lib.hid (fun (fb db : Nat) (W : World) (hW : WinsAt W sv ws) (rf : W.heap[fb]? = some (.cells #[.iface 157 (.int .i8 a3)] 135 (0, 0))) (rd : W.heap[db]? = some (.cells (deskC a1 a2 a3) 65 (0, 0))) =>
    lightFrom_any wd hg sv ws ok hwf a1 a2 ha 84 (enters_of Tryz.func84 (by kernel_rfl) rfl) #[.pointer (some ⟨fb, 0, none⟩), .pointer (some ⟨db, 0, none⟩)] (glW wd hg a1 a2 a3) (fun V => V.heap[fb]? = some (.cells #[.iface 157 (.int .i8 a3)] 135 (0, 0)) ∧ V.heap[db]? = some (.cells (deskC a1 a2 a3) 65 (0, 0))) W hW (fun _ hb => ⟨below_row hb rf, below_row hb rd⟩) (fun x V _ hC => glf_any x _ _ a1 a2 a3 (by omega) (by omega) fb db V (by rw [hV]; exact hC.1) hC.2))
  have HWl := Lib.hid (fun w => wallOf_col a3 hl w)
  unfold colV at HWl
  have HW := Lib.hid hws
  clear hws ok hwf ha hl hV
  go_enter Tryz.func70, Tryz.ntmps70
  go_upto_region 1 with (fail)
  refine abs_world (fun W => W.heap[w.heap.size]? = some (.cells (roomC wd hg sv) 36 (0, 0)) ∧ W.heap[w.heap.size + 1]? = some (.cells (deskC a1 a2 a3) 65 (0, 0)) ∧ Below w.heap.size w W) (box2 w (.cells (roomC wd hg sv) 36) (.cells (deskC a1 a2 a3) 65)) ?_
  rintro W ⟨h0, h1, hb⟩
  generalize w.heap.size + 1 = b1 at *
  have H0 := Lib.hid h0
  have H1 := Lib.hid h1
  obtain ⟨_, _, k2⟩ := desk_cells h1
  clear h0 h1
  have HV := Lib.hid (wins_below HW.out hb)
  go_upto_region 2 with (go_at_call 78; refine (HWl.out _).mono ?_; rintro e w1 ⟨rfl, rfl⟩)
  refine abs_world (fun V => Below W.heap.size W V ∧ V.heap[W.heap.size]? = some (.cells #[.iface 157 (.int .i8 a3)] 135 (0, 0))) ?_ ?_
  · exact ⟨(Below.refl _ _).alloc (Nat.le_refl _) _, heap_alloc_new _ _⟩
  rintro V ⟨hb1, hf⟩
  replace H0 := Lib.hid (below_row hb1 H0.out)
  replace H1 := Lib.hid (below_row hb1 H1.out)
  replace HV := Lib.hid (wins_below HV.out hb1)
  replace hb := hb.trans (hb1.mono hb.size)
  have HF := Lib.hid hf
  clear hb1 hf k2
  go_wp2_with (first | (refine wpList_load_partG 36 _ rfl w.heap.size 0 3 rfl rfl 36 (roomC wd hg sv) (0, 0) _ H0.out Tryz.underlying36 rfl info_room (room_fits _ _ _) _ (room_all _ _ _) ?_) | (refine wpList_load_partG 65 _ rfl b1 0 3 rfl rfl 65 (deskC a1 a2 a3) (0, 0) _ H1.out Tryz.underlying65 rfl info_desk (desk_fits _ _ _) _ (desk_all _ _ _) ?_) | (refine wpList_load_partG 63 _ rfl b1 0 2 rfl rfl 65 (deskC a1 a2 a3) (0, 0) _ H1.out Tryz.underlying63 rfl info_tile (desk_fits2 _ _ _) _ (desk_tile _ _ _) ?_) | (go_at_call 82; refine (HL.out _ _ _ HV.out HF.out H1.out).mono ?_; rintro e W1 ⟨rfl, hb1⟩))
  go_ret
  exact ⟨rfl, hb.trans (hb1.mono hb.size)⟩

theorem glareAt_any (wd hg : Int) (sv : Value) (ws : List Wn) (ok : RmOk wd hg ws) (hwf : ∀ x ∈ ws, WnWf x) (a1 a2 a3 : Int) (ha : inRoom wd hg (a1, a2)) (l0 : 0 ≤ a3) (l3 : a3 ≤ 3) (w : World) (hws : WinsAt w sv ws) :
    Calls Tryz.prog 70 #[.agg (roomC wd hg sv), .agg (deskC a1 a2 a3)] w fun e w' => e = .returned (.float .f32 (litW wd hg (a1, a2) (glW wd hg a1 a2 a3) ws)) ∧ Below w.heap.size w w' := by
  by_cases h : a3 = 0 ∨ a3 = 2
  · exact glareAt_row wd hg sv ws ok hwf a1 a2 a3 ha h w hws
  · exact glareAt_col wd hg sv ws ok hwf a1 a2 a3 ha (by omega) w hws

theorem pair_no {p q a1 a2 : Int} (h : ¬ (p = a1 ∧ q = a2)) : (p == a1 && q == a2) = false := by
  rw [Bool.and_eq_false_iff]
  by_cases h1 : p = a1
  · exact .inr (by simpa using fun h2 => h ⟨h1, h2⟩)
  · exact .inl (by simpa using h1)

set_option maxRecDepth 100000 in
set_option maxHeartbeats 1000000 in
theorem l03Ahead_e (wd hg : Int) (sv : Value) (x : Wn) (hf : FitOk wd hg x) (hrb : RB wd hg) (a1 a2 a3 p q : Int) (hpq : tlW wd hg x = (p, q)) (hE : p = a1 ∧ q = a2)  (gb : Nat) (T : TypeId) (fr : Nat × Nat) (w : World) (hb0 : w.heap[gb]? = some (.cells (roomC wd hg sv) T fr)) :
    Calls Tryz.prog 75 #[.pointer (some ⟨gb, 0, none⟩), .agg (deskC a1 a2 a3), .agg (winC x)] w fun e w' => e = .returned (.bool (x.1 == a3)) ∧ Below w.heap.size w w' := by
  have HT : Hid (∀ w : World, w.heap[gb]? = some (.cells (roomC wd hg sv) T fr) → Calls Tryz.prog 87 #[.pointer (some ⟨gb, 0, none⟩), .agg (winC x)] w fun e w' => e = .returned (.agg (tileC p q)) ∧ Below w.heap.size w w') := fun w h => by
    have t := l03Tile_any wd hg sv x hf hrb gb T fr w h
    rw [hpq] at t
    exact t
  have hq := run_eql_tile p q a1 a2
  have hgd := fun w => run_eqGuard_agg (P := Tryz.prog) w .eql 63 (.tmp 12) (.tmp 14) (tileC p q) (tileC a1 a2) (by kernel_rfl)
  rw [show (p == a1 && q == a2) = true by rw [hE.1, hE.2]; simp] at hq
  have HR := Lib.hid hb0
  clear hb0 hf hrb hpq hE
  go_enter Tryz.func75, Tryz.ntmps75
  go_upto_region 1 with (fail)
  refine abs_world (fun W => W.heap[w.heap.size]? = some (.cells (deskC a1 a2 a3) 65 (0, 0)) ∧ W.heap[w.heap.size + 1]? = some (.cells (winC x) 91 (0, 0)) ∧ Below w.heap.size w W) (box2 w (.cells (deskC a1 a2 a3) 65) (.cells (winC x) 91)) ?_
  rintro W ⟨h0, h1, hb⟩
  generalize w.heap.size + 1 = b1 at *
  have H0 := Lib.hid h0
  have H1 := Lib.hid h1
  replace HR := Lib.hid (below_row hb HR.out)
  clear h0 h1
  go_upto_region 2 with (first | (first | (refine wpList_load_partG 65 _ rfl w.heap.size 0 3 rfl rfl 65 (deskC a1 a2 a3) (0, 0) _ H0.out Tryz.underlying65 rfl info_desk (desk_fits _ _ _) _ (desk_all _ _ _) ?_) | (refine wpList_load_partG 63 _ rfl w.heap.size 0 2 rfl rfl 65 (deskC a1 a2 a3) (0, 0) _ H0.out Tryz.underlying63 rfl info_tile (desk_fits2 _ _ _) _ (desk_tile _ _ _) ?_) | (refine wpList_load_partG 91 _ rfl b1 0 3 rfl rfl 91 (winC x) (0, 0) _ H1.out Tryz.underlying91 rfl info_win (win_fits _) _ (win_all _) ?_) | (go_at_call 87; refine (HT.out _ HR.out).mono ?_; rintro e W1 ⟨rfl, hb1⟩; replace H0 := Lib.hid (below_row hb1 H0.out); replace H1 := Lib.hid (below_row hb1 H1.out); replace HR := Lib.hid (below_row hb1 HR.out); replace hb := hb.trans (hb1.mono hb.size); clear hb1)) | (refine wpList_store_part rfl 63 _ _ rfl _ 0 (tileC p q) rfl rfl 63 _ (heap_alloc_new _ _) (by kernel_rfl) (Nat.le_refl _) (tile_one _ _) ?_; rw [laid_allr _ _ (by rfl)]))
  refine abs_world (fun V => Below W1.heap.size W1 V ∧ V.heap[W1.heap.size]? = some (.cells (tileC p q) 63 (0, 0))) ⟨below_setRow ((Below.refl _ _).alloc (Nat.le_refl _) _) (Nat.le_refl _) _, setRow_heap _ _ _ _ _ _ (heap_alloc_new _ _)⟩ ?_
  rintro V ⟨hb9, h9⟩
  replace H0 := Lib.hid (below_row hb9 H0.out)
  replace H1 := Lib.hid (below_row hb9 H1.out)
  replace hb := hb.trans (hb9.mono hb.size)
  obtain ⟨d0, d1, d2⟩ := desk_cells H0.out
  obtain ⟨x0, _, _⟩ := win_cells H1.out
  obtain ⟨t0, t1⟩ := tile_cells h9
  have H9 := Lib.hid h9
  clear hb9 h9 HR HT
  generalize W1.heap.size = tb at *
  go_wp2_with (first | (refine wpList_load_partG 65 _ rfl w.heap.size 0 3 rfl rfl 65 (deskC a1 a2 a3) (0, 0) _ H0.out Tryz.underlying65 rfl info_desk (desk_fits _ _ _) _ (desk_all _ _ _) ?_) | (refine wpList_load_partG 63 _ rfl w.heap.size 0 2 rfl rfl 65 (deskC a1 a2 a3) (0, 0) _ H0.out Tryz.underlying63 rfl info_tile (desk_fits2 _ _ _) _ (desk_tile _ _ _) ?_) | (refine wpList_load_partG 63 _ rfl tb 0 2 rfl rfl 63 (tileC p q) (0, 0) _ H9.out Tryz.underlying63 rfl info_tile (tile_fits _ _) _ (tile_all _ _) ?_))
  go_ret
  exact ⟨rfl, hb⟩

set_option maxRecDepth 100000 in
set_option maxHeartbeats 1000000 in
theorem l03Ahead_0 (wd hg : Int) (sv : Value) (x : Wn) (hf : FitOk wd hg x) (hrb : RB wd hg) (a1 a2 a3 p q : Int) (hpq : tlW wd hg x = (p, q)) (hE : ¬ (p = a1 ∧ q = a2)) (hl : a3 = 0) (gb : Nat) (T : TypeId) (fr : Nat × Nat) (w : World) (hb0 : w.heap[gb]? = some (.cells (roomC wd hg sv) T fr)) :
    Calls Tryz.prog 75 #[.pointer (some ⟨gb, 0, none⟩), .agg (deskC a1 a2 a3), .agg (winC x)] w fun e w' => e = .returned (.bool (decide (q < a2))) ∧ Below w.heap.size w w' := by
  have HT : Hid (∀ w : World, w.heap[gb]? = some (.cells (roomC wd hg sv) T fr) → Calls Tryz.prog 87 #[.pointer (some ⟨gb, 0, none⟩), .agg (winC x)] w fun e w' => e = .returned (.agg (tileC p q)) ∧ Below w.heap.size w w') := fun w h => by
    have t := l03Tile_any wd hg sv x hf hrb gb T fr w h
    rw [hpq] at t
    exact t
  have hq := run_eql_tile p q a1 a2
  have hgd := fun w => run_eqGuard_agg (P := Tryz.prog) w .eql 63 (.tmp 12) (.tmp 14) (tileC p q) (tileC a1 a2) (by kernel_rfl)
  rw [pair_no hE] at hq
  have e0 : (a3 == 0) = true := by simp [hl]
  have HR := Lib.hid hb0
  clear hb0 hf hrb hpq hE hl
  go_enter Tryz.func75, Tryz.ntmps75
  go_upto_region 1 with (fail)
  refine abs_world (fun W => W.heap[w.heap.size]? = some (.cells (deskC a1 a2 a3) 65 (0, 0)) ∧ W.heap[w.heap.size + 1]? = some (.cells (winC x) 91 (0, 0)) ∧ Below w.heap.size w W) (box2 w (.cells (deskC a1 a2 a3) 65) (.cells (winC x) 91)) ?_
  rintro W ⟨h0, h1, hb⟩
  generalize w.heap.size + 1 = b1 at *
  have H0 := Lib.hid h0
  have H1 := Lib.hid h1
  replace HR := Lib.hid (below_row hb HR.out)
  clear h0 h1
  go_upto_region 2 with (first | (first | (refine wpList_load_partG 65 _ rfl w.heap.size 0 3 rfl rfl 65 (deskC a1 a2 a3) (0, 0) _ H0.out Tryz.underlying65 rfl info_desk (desk_fits _ _ _) _ (desk_all _ _ _) ?_) | (refine wpList_load_partG 63 _ rfl w.heap.size 0 2 rfl rfl 65 (deskC a1 a2 a3) (0, 0) _ H0.out Tryz.underlying63 rfl info_tile (desk_fits2 _ _ _) _ (desk_tile _ _ _) ?_) | (refine wpList_load_partG 91 _ rfl b1 0 3 rfl rfl 91 (winC x) (0, 0) _ H1.out Tryz.underlying91 rfl info_win (win_fits _) _ (win_all _) ?_) | (go_at_call 87; refine (HT.out _ HR.out).mono ?_; rintro e W1 ⟨rfl, hb1⟩; replace H0 := Lib.hid (below_row hb1 H0.out); replace H1 := Lib.hid (below_row hb1 H1.out); replace HR := Lib.hid (below_row hb1 HR.out); replace hb := hb.trans (hb1.mono hb.size); clear hb1)) | (refine wpList_store_part rfl 63 _ _ rfl _ 0 (tileC p q) rfl rfl 63 _ (heap_alloc_new _ _) (by kernel_rfl) (Nat.le_refl _) (tile_one _ _) ?_; rw [laid_allr _ _ (by rfl)]))
  refine abs_world (fun V => Below W1.heap.size W1 V ∧ V.heap[W1.heap.size]? = some (.cells (tileC p q) 63 (0, 0))) ⟨below_setRow ((Below.refl _ _).alloc (Nat.le_refl _) _) (Nat.le_refl _) _, setRow_heap _ _ _ _ _ _ (heap_alloc_new _ _)⟩ ?_
  rintro V ⟨hb9, h9⟩
  replace H0 := Lib.hid (below_row hb9 H0.out)
  replace H1 := Lib.hid (below_row hb9 H1.out)
  replace hb := hb.trans (hb9.mono hb.size)
  obtain ⟨d0, d1, d2⟩ := desk_cells H0.out
  obtain ⟨x0, _, _⟩ := win_cells H1.out
  obtain ⟨t0, t1⟩ := tile_cells h9
  have H9 := Lib.hid h9
  clear hb9 h9 HR HT
  generalize W1.heap.size = tb at *
  go_wp2_with (first | (refine wpList_load_partG 65 _ rfl w.heap.size 0 3 rfl rfl 65 (deskC a1 a2 a3) (0, 0) _ H0.out Tryz.underlying65 rfl info_desk (desk_fits _ _ _) _ (desk_all _ _ _) ?_) | (refine wpList_load_partG 63 _ rfl w.heap.size 0 2 rfl rfl 65 (deskC a1 a2 a3) (0, 0) _ H0.out Tryz.underlying63 rfl info_tile (desk_fits2 _ _ _) _ (desk_tile _ _ _) ?_) | (refine wpList_load_partG 63 _ rfl tb 0 2 rfl rfl 63 (tileC p q) (0, 0) _ H9.out Tryz.underlying63 rfl info_tile (tile_fits _ _) _ (tile_all _ _) ?_))
  go_ret
  exact ⟨rfl, hb⟩

set_option maxRecDepth 100000 in
set_option maxHeartbeats 1000000 in
theorem l03Ahead_1 (wd hg : Int) (sv : Value) (x : Wn) (hf : FitOk wd hg x) (hrb : RB wd hg) (a1 a2 a3 p q : Int) (hpq : tlW wd hg x = (p, q)) (hE : ¬ (p = a1 ∧ q = a2)) (hl : a3 = 1) (gb : Nat) (T : TypeId) (fr : Nat × Nat) (w : World) (hb0 : w.heap[gb]? = some (.cells (roomC wd hg sv) T fr)) :
    Calls Tryz.prog 75 #[.pointer (some ⟨gb, 0, none⟩), .agg (deskC a1 a2 a3), .agg (winC x)] w fun e w' => e = .returned (.bool (decide (a1 < p))) ∧ Below w.heap.size w w' := by
  have HT : Hid (∀ w : World, w.heap[gb]? = some (.cells (roomC wd hg sv) T fr) → Calls Tryz.prog 87 #[.pointer (some ⟨gb, 0, none⟩), .agg (winC x)] w fun e w' => e = .returned (.agg (tileC p q)) ∧ Below w.heap.size w w') := fun w h => by
    have t := l03Tile_any wd hg sv x hf hrb gb T fr w h
    rw [hpq] at t
    exact t
  have hq := run_eql_tile p q a1 a2
  have hgd := fun w => run_eqGuard_agg (P := Tryz.prog) w .eql 63 (.tmp 12) (.tmp 14) (tileC p q) (tileC a1 a2) (by kernel_rfl)
  rw [pair_no hE] at hq
  have e0 : (a3 == 0) = false := by simp [hl]
  have e1 : (a3 == 1) = true := by simp [hl]
  have HR := Lib.hid hb0
  clear hb0 hf hrb hpq hE hl
  go_enter Tryz.func75, Tryz.ntmps75
  go_upto_region 1 with (fail)
  refine abs_world (fun W => W.heap[w.heap.size]? = some (.cells (deskC a1 a2 a3) 65 (0, 0)) ∧ W.heap[w.heap.size + 1]? = some (.cells (winC x) 91 (0, 0)) ∧ Below w.heap.size w W) (box2 w (.cells (deskC a1 a2 a3) 65) (.cells (winC x) 91)) ?_
  rintro W ⟨h0, h1, hb⟩
  generalize w.heap.size + 1 = b1 at *
  have H0 := Lib.hid h0
  have H1 := Lib.hid h1
  replace HR := Lib.hid (below_row hb HR.out)
  clear h0 h1
  go_upto_region 2 with (first | (first | (refine wpList_load_partG 65 _ rfl w.heap.size 0 3 rfl rfl 65 (deskC a1 a2 a3) (0, 0) _ H0.out Tryz.underlying65 rfl info_desk (desk_fits _ _ _) _ (desk_all _ _ _) ?_) | (refine wpList_load_partG 63 _ rfl w.heap.size 0 2 rfl rfl 65 (deskC a1 a2 a3) (0, 0) _ H0.out Tryz.underlying63 rfl info_tile (desk_fits2 _ _ _) _ (desk_tile _ _ _) ?_) | (refine wpList_load_partG 91 _ rfl b1 0 3 rfl rfl 91 (winC x) (0, 0) _ H1.out Tryz.underlying91 rfl info_win (win_fits _) _ (win_all _) ?_) | (go_at_call 87; refine (HT.out _ HR.out).mono ?_; rintro e W1 ⟨rfl, hb1⟩; replace H0 := Lib.hid (below_row hb1 H0.out); replace H1 := Lib.hid (below_row hb1 H1.out); replace HR := Lib.hid (below_row hb1 HR.out); replace hb := hb.trans (hb1.mono hb.size); clear hb1)) | (refine wpList_store_part rfl 63 _ _ rfl _ 0 (tileC p q) rfl rfl 63 _ (heap_alloc_new _ _) (by kernel_rfl) (Nat.le_refl _) (tile_one _ _) ?_; rw [laid_allr _ _ (by rfl)]))
  refine abs_world (fun V => Below W1.heap.size W1 V ∧ V.heap[W1.heap.size]? = some (.cells (tileC p q) 63 (0, 0))) ⟨below_setRow ((Below.refl _ _).alloc (Nat.le_refl _) _) (Nat.le_refl _) _, setRow_heap _ _ _ _ _ _ (heap_alloc_new _ _)⟩ ?_
  rintro V ⟨hb9, h9⟩
  replace H0 := Lib.hid (below_row hb9 H0.out)
  replace H1 := Lib.hid (below_row hb9 H1.out)
  replace hb := hb.trans (hb9.mono hb.size)
  obtain ⟨d0, d1, d2⟩ := desk_cells H0.out
  obtain ⟨x0, _, _⟩ := win_cells H1.out
  obtain ⟨t0, t1⟩ := tile_cells h9
  have H9 := Lib.hid h9
  clear hb9 h9 HR HT
  generalize W1.heap.size = tb at *
  go_wp2_with (first | (refine wpList_load_partG 65 _ rfl w.heap.size 0 3 rfl rfl 65 (deskC a1 a2 a3) (0, 0) _ H0.out Tryz.underlying65 rfl info_desk (desk_fits _ _ _) _ (desk_all _ _ _) ?_) | (refine wpList_load_partG 63 _ rfl w.heap.size 0 2 rfl rfl 65 (deskC a1 a2 a3) (0, 0) _ H0.out Tryz.underlying63 rfl info_tile (desk_fits2 _ _ _) _ (desk_tile _ _ _) ?_) | (refine wpList_load_partG 63 _ rfl tb 0 2 rfl rfl 63 (tileC p q) (0, 0) _ H9.out Tryz.underlying63 rfl info_tile (tile_fits _ _) _ (tile_all _ _) ?_))
  go_ret
  exact ⟨rfl, hb⟩

set_option maxRecDepth 100000 in
set_option maxHeartbeats 1000000 in
theorem l03Ahead_2 (wd hg : Int) (sv : Value) (x : Wn) (hf : FitOk wd hg x) (hrb : RB wd hg) (a1 a2 a3 p q : Int) (hpq : tlW wd hg x = (p, q)) (hE : ¬ (p = a1 ∧ q = a2)) (hl : a3 = 2) (gb : Nat) (T : TypeId) (fr : Nat × Nat) (w : World) (hb0 : w.heap[gb]? = some (.cells (roomC wd hg sv) T fr)) :
    Calls Tryz.prog 75 #[.pointer (some ⟨gb, 0, none⟩), .agg (deskC a1 a2 a3), .agg (winC x)] w fun e w' => e = .returned (.bool (decide (a2 < q))) ∧ Below w.heap.size w w' := by
  have HT : Hid (∀ w : World, w.heap[gb]? = some (.cells (roomC wd hg sv) T fr) → Calls Tryz.prog 87 #[.pointer (some ⟨gb, 0, none⟩), .agg (winC x)] w fun e w' => e = .returned (.agg (tileC p q)) ∧ Below w.heap.size w w') := fun w h => by
    have t := l03Tile_any wd hg sv x hf hrb gb T fr w h
    rw [hpq] at t
    exact t
  have hq := run_eql_tile p q a1 a2
  have hgd := fun w => run_eqGuard_agg (P := Tryz.prog) w .eql 63 (.tmp 12) (.tmp 14) (tileC p q) (tileC a1 a2) (by kernel_rfl)
  rw [pair_no hE] at hq
  have e0 : (a3 == 0) = false := by simp [hl]
  have e1 : (a3 == 1) = false := by simp [hl]
  have e2 : (a3 == 2) = true := by simp [hl]
  have HR := Lib.hid hb0
  clear hb0 hf hrb hpq hE hl
  go_enter Tryz.func75, Tryz.ntmps75
  go_upto_region 1 with (fail)
  refine abs_world (fun W => W.heap[w.heap.size]? = some (.cells (deskC a1 a2 a3) 65 (0, 0)) ∧ W.heap[w.heap.size + 1]? = some (.cells (winC x) 91 (0, 0)) ∧ Below w.heap.size w W) (box2 w (.cells (deskC a1 a2 a3) 65) (.cells (winC x) 91)) ?_
  rintro W ⟨h0, h1, hb⟩
  generalize w.heap.size + 1 = b1 at *
  have H0 := Lib.hid h0
  have H1 := Lib.hid h1
  replace HR := Lib.hid (below_row hb HR.out)
  clear h0 h1
  go_upto_region 2 with (first | (first | (refine wpList_load_partG 65 _ rfl w.heap.size 0 3 rfl rfl 65 (deskC a1 a2 a3) (0, 0) _ H0.out Tryz.underlying65 rfl info_desk (desk_fits _ _ _) _ (desk_all _ _ _) ?_) | (refine wpList_load_partG 63 _ rfl w.heap.size 0 2 rfl rfl 65 (deskC a1 a2 a3) (0, 0) _ H0.out Tryz.underlying63 rfl info_tile (desk_fits2 _ _ _) _ (desk_tile _ _ _) ?_) | (refine wpList_load_partG 91 _ rfl b1 0 3 rfl rfl 91 (winC x) (0, 0) _ H1.out Tryz.underlying91 rfl info_win (win_fits _) _ (win_all _) ?_) | (go_at_call 87; refine (HT.out _ HR.out).mono ?_; rintro e W1 ⟨rfl, hb1⟩; replace H0 := Lib.hid (below_row hb1 H0.out); replace H1 := Lib.hid (below_row hb1 H1.out); replace HR := Lib.hid (below_row hb1 HR.out); replace hb := hb.trans (hb1.mono hb.size); clear hb1)) | (refine wpList_store_part rfl 63 _ _ rfl _ 0 (tileC p q) rfl rfl 63 _ (heap_alloc_new _ _) (by kernel_rfl) (Nat.le_refl _) (tile_one _ _) ?_; rw [laid_allr _ _ (by rfl)]))
  refine abs_world (fun V => Below W1.heap.size W1 V ∧ V.heap[W1.heap.size]? = some (.cells (tileC p q) 63 (0, 0))) ⟨below_setRow ((Below.refl _ _).alloc (Nat.le_refl _) _) (Nat.le_refl _) _, setRow_heap _ _ _ _ _ _ (heap_alloc_new _ _)⟩ ?_
  rintro V ⟨hb9, h9⟩
  replace H0 := Lib.hid (below_row hb9 H0.out)
  replace H1 := Lib.hid (below_row hb9 H1.out)
  replace hb := hb.trans (hb9.mono hb.size)
  obtain ⟨d0, d1, d2⟩ := desk_cells H0.out
  obtain ⟨x0, _, _⟩ := win_cells H1.out
  obtain ⟨t0, t1⟩ := tile_cells h9
  have H9 := Lib.hid h9
  clear hb9 h9 HR HT
  generalize W1.heap.size = tb at *
  go_wp2_with (first | (refine wpList_load_partG 65 _ rfl w.heap.size 0 3 rfl rfl 65 (deskC a1 a2 a3) (0, 0) _ H0.out Tryz.underlying65 rfl info_desk (desk_fits _ _ _) _ (desk_all _ _ _) ?_) | (refine wpList_load_partG 63 _ rfl w.heap.size 0 2 rfl rfl 65 (deskC a1 a2 a3) (0, 0) _ H0.out Tryz.underlying63 rfl info_tile (desk_fits2 _ _ _) _ (desk_tile _ _ _) ?_) | (refine wpList_load_partG 63 _ rfl tb 0 2 rfl rfl 63 (tileC p q) (0, 0) _ H9.out Tryz.underlying63 rfl info_tile (tile_fits _ _) _ (tile_all _ _) ?_))
  go_ret
  exact ⟨rfl, hb⟩

set_option maxRecDepth 100000 in
set_option maxHeartbeats 1000000 in
theorem l03Ahead_3 (wd hg : Int) (sv : Value) (x : Wn) (hf : FitOk wd hg x) (hrb : RB wd hg) (a1 a2 a3 p q : Int) (hpq : tlW wd hg x = (p, q)) (hE : ¬ (p = a1 ∧ q = a2)) (hl : a3 ≠ 0 ∧ a3 ≠ 1 ∧ a3 ≠ 2) (gb : Nat) (T : TypeId) (fr : Nat × Nat) (w : World) (hb0 : w.heap[gb]? = some (.cells (roomC wd hg sv) T fr)) :
    Calls Tryz.prog 75 #[.pointer (some ⟨gb, 0, none⟩), .agg (deskC a1 a2 a3), .agg (winC x)] w fun e w' => e = .returned (.bool (decide (p < a1))) ∧ Below w.heap.size w w' := by
  have HT : Hid (∀ w : World, w.heap[gb]? = some (.cells (roomC wd hg sv) T fr) → Calls Tryz.prog 87 #[.pointer (some ⟨gb, 0, none⟩), .agg (winC x)] w fun e w' => e = .returned (.agg (tileC p q)) ∧ Below w.heap.size w w') := fun w h => by
    have t := l03Tile_any wd hg sv x hf hrb gb T fr w h
    rw [hpq] at t
    exact t
  have hq := run_eql_tile p q a1 a2
  have hgd := fun w => run_eqGuard_agg (P := Tryz.prog) w .eql 63 (.tmp 12) (.tmp 14) (tileC p q) (tileC a1 a2) (by kernel_rfl)
  rw [pair_no hE] at hq
  have e0 : (a3 == 0) = false := by simpa using hl.1
  have e1 : (a3 == 1) = false := by simpa using hl.2.1
  have e2 : (a3 == 2) = false := by simpa using hl.2.2
  have HR := Lib.hid hb0
  clear hb0 hf hrb hpq hE hl
  go_enter Tryz.func75, Tryz.ntmps75
  go_upto_region 1 with (fail)
  refine abs_world (fun W => W.heap[w.heap.size]? = some (.cells (deskC a1 a2 a3) 65 (0, 0)) ∧ W.heap[w.heap.size + 1]? = some (.cells (winC x) 91 (0, 0)) ∧ Below w.heap.size w W) (box2 w (.cells (deskC a1 a2 a3) 65) (.cells (winC x) 91)) ?_
  rintro W ⟨h0, h1, hb⟩
  generalize w.heap.size + 1 = b1 at *
  have H0 := Lib.hid h0
  have H1 := Lib.hid h1
  replace HR := Lib.hid (below_row hb HR.out)
  clear h0 h1
  go_upto_region 2 with (first | (first | (refine wpList_load_partG 65 _ rfl w.heap.size 0 3 rfl rfl 65 (deskC a1 a2 a3) (0, 0) _ H0.out Tryz.underlying65 rfl info_desk (desk_fits _ _ _) _ (desk_all _ _ _) ?_) | (refine wpList_load_partG 63 _ rfl w.heap.size 0 2 rfl rfl 65 (deskC a1 a2 a3) (0, 0) _ H0.out Tryz.underlying63 rfl info_tile (desk_fits2 _ _ _) _ (desk_tile _ _ _) ?_) | (refine wpList_load_partG 91 _ rfl b1 0 3 rfl rfl 91 (winC x) (0, 0) _ H1.out Tryz.underlying91 rfl info_win (win_fits _) _ (win_all _) ?_) | (go_at_call 87; refine (HT.out _ HR.out).mono ?_; rintro e W1 ⟨rfl, hb1⟩; replace H0 := Lib.hid (below_row hb1 H0.out); replace H1 := Lib.hid (below_row hb1 H1.out); replace HR := Lib.hid (below_row hb1 HR.out); replace hb := hb.trans (hb1.mono hb.size); clear hb1)) | (refine wpList_store_part rfl 63 _ _ rfl _ 0 (tileC p q) rfl rfl 63 _ (heap_alloc_new _ _) (by kernel_rfl) (Nat.le_refl _) (tile_one _ _) ?_; rw [laid_allr _ _ (by rfl)]))
  refine abs_world (fun V => Below W1.heap.size W1 V ∧ V.heap[W1.heap.size]? = some (.cells (tileC p q) 63 (0, 0))) ⟨below_setRow ((Below.refl _ _).alloc (Nat.le_refl _) _) (Nat.le_refl _) _, setRow_heap _ _ _ _ _ _ (heap_alloc_new _ _)⟩ ?_
  rintro V ⟨hb9, h9⟩
  replace H0 := Lib.hid (below_row hb9 H0.out)
  replace H1 := Lib.hid (below_row hb9 H1.out)
  replace hb := hb.trans (hb9.mono hb.size)
  obtain ⟨d0, d1, d2⟩ := desk_cells H0.out
  obtain ⟨x0, _, _⟩ := win_cells H1.out
  obtain ⟨t0, t1⟩ := tile_cells h9
  have H9 := Lib.hid h9
  clear hb9 h9 HR HT
  generalize W1.heap.size = tb at *
  go_wp2_with (first | (refine wpList_load_partG 65 _ rfl w.heap.size 0 3 rfl rfl 65 (deskC a1 a2 a3) (0, 0) _ H0.out Tryz.underlying65 rfl info_desk (desk_fits _ _ _) _ (desk_all _ _ _) ?_) | (refine wpList_load_partG 63 _ rfl w.heap.size 0 2 rfl rfl 65 (deskC a1 a2 a3) (0, 0) _ H0.out Tryz.underlying63 rfl info_tile (desk_fits2 _ _ _) _ (desk_tile _ _ _) ?_) | (refine wpList_load_partG 63 _ rfl tb 0 2 rfl rfl 63 (tileC p q) (0, 0) _ H9.out Tryz.underlying63 rfl info_tile (tile_fits _ _) _ (tile_all _ _) ?_))
  go_ret
  exact ⟨rfl, hb⟩

theorem l03Ahead_any (wd hg : Int) (sv : Value) (x : Wn) (hf : FitOk wd hg x) (hrb : RB wd hg) (a1 a2 a3 : Int) (gb : Nat) (T : TypeId) (fr : Nat × Nat) (w : World) (hb0 : w.heap[gb]? = some (.cells (roomC wd hg sv) T fr)) :
    Calls Tryz.prog 75 #[.pointer (some ⟨gb, 0, none⟩), .agg (deskC a1 a2 a3), .agg (winC x)] w fun e w' => e = .returned (.bool (glW wd hg a1 a2 a3 x)) ∧ Below w.heap.size w w' := by
  unfold glW glB ahB
  by_cases hE : (tlW wd hg x).1 = a1 ∧ (tlW wd hg x).2 = a2
  · rw [if_pos hE]; exact l03Ahead_e wd hg sv x hf hrb a1 a2 a3 _ _ rfl hE gb T fr w hb0
  · rw [if_neg hE]
    by_cases h0 : a3 = 0
    · rw [if_pos h0]; exact l03Ahead_0 wd hg sv x hf hrb a1 a2 a3 _ _ rfl hE h0 gb T fr w hb0
    · rw [if_neg h0]
      by_cases h1 : a3 = 1
      · rw [if_pos h1]; exact l03Ahead_1 wd hg sv x hf hrb a1 a2 a3 _ _ rfl hE h1 gb T fr w hb0
      · rw [if_neg h1]
        by_cases h2 : a3 = 2
        · rw [if_pos h2]; exact l03Ahead_2 wd hg sv x hf hrb a1 a2 a3 _ _ rfl hE h2 gb T fr w hb0
        · rw [if_neg h2]; exact l03Ahead_3 wd hg sv x hf hrb a1 a2 a3 _ _ rfl hE ⟨h0, h1, h2⟩ gb T fr w hb0

end Go.Proofs.YtckkemknajggpaaGreatDoor
