/-
  Desks as values; whether a desk is one of a room.
-/
import Derived.Test.YtckkemknajggpaaGreatDoorLightL
import Derived.Test.YtckkemknajggpaaGreatDoorIsTile
import Derived.Test.YtckkemknajggpaaGreatDoorRoomW
import Derived.Test.YtckkemknajggpaaGreatDoorBox
namespace Go.Proofs.YtckkemknajggpaaGreatDoor
open Go.ChangeShapes Go.WideShapes Go.ChangeAt Go.RowKit Go.Deep Go.Joins

attribute [local go_sem] run_store_f

theorem info_desk : (Tryz.prog.info? 65).map (·.size) = some 3 := by kernel_rfl
theorem info_deskL : (Tryz.prog.info? 69).map (·.size) = some 3 := by kernel_rfl
theorem desk_fits (x y l : Int) : 0 + 3 ≤ (deskC x y l).size := Nat.le_refl _
theorem desk_fits2 (x y l : Int) : 0 + 2 ≤ (deskC x y l).size := by show 0 + 2 ≤ 3; decide
theorem desk_all (x y l : Int) : (deskC x y l).extract 0 (0 + 3) = deskC x y l := rfl
theorem desk_tile (x y l : Int) : (deskC x y l).extract 0 (0 + 2) = tileC x y := rfl
theorem desk_one (x y l : Int) : ∀ v ∈ deskC x y l, v.oneCell' = true := by
  intro v hv
  simp only [deskC, List.mem_toArray, List.mem_cons, List.not_mem_nil, or_false] at hv
  rcases hv with rfl | rfl | rfl <;> rfl
theorem desk_cells {x y l : Int} {W : World} {g : Nat} {T : TypeId} {fr : Nat × Nat} (h : W.heap[g]? = some (.cells (deskC x y l) T fr)) :
    W.cell? ⟨g, 0, none⟩ = some (.int .i8 x) ∧ W.cell? ⟨g, 1, none⟩ = some (.int .i8 y) ∧ W.cell? ⟨g, 2, none⟩ = some (.int .i8 l) :=
  ⟨by rw [cell_of_row W _ _ _ _ _ h]; rfl, by rw [cell_of_row W _ _ _ _ _ h]; rfl, by rw [cell_of_row W _ _ _ _ _ h]; rfl⟩

set_option maxRecDepth 100000 in
theorem under_deskL : ∃ f0 f1 g0 g1 : Field, Tryz.prog.underlying 69 = some (.struct #[f0, f1]) ∧ f0.type = 67 ∧ f1.type = 22 ∧ f0.offset = 0 ∧ f1.offset = 2 ∧ Tryz.prog.underlying 67 = some (.struct #[g0, g1]) ∧ g0.type = 22 ∧ g1.type = 22 ∧ g0.offset = 0 ∧ g1.offset = 1 :=
  ⟨_, _, _, _, Tryz.underlying69, rfl, rfl, rfl, rfl, Tryz.underlying67, rfl, rfl, rfl, rfl⟩

set_option maxRecDepth 100000 in
theorem cells_deskL : Tryz.prog.cellsOf 69 = 3 ∧ Tryz.prog.cellsOf 67 = 2 ∧ Tryz.prog.cellsOf 22 = 1 := ⟨by kernel_rfl, by kernel_rfl, by kernel_rfl⟩

set_option maxRecDepth 100000 in
theorem open_desk {H : Type} {enc : TypeId × Value → H} {W : World} {b0 base : Nat} {spare : Nat → Bool} {held : Bool} {r : Reach} {v : Value} {d : DataW H} {p : List MemPlace}
    (hv : Value.okWide Tryz.prog W r b0 69 v) (h : DataW.Trod enc Tryz.prog W base spare held 69 v d p) : ∃ x y l : Int, (I8 x ∧ I8 y ∧ I8 l) ∧ v = .agg (deskC x y l) := by
  obtain ⟨f0, f1, g0, g1, hu, t0, t1, o0, o1, hu2, u0, u1, q0, q1⟩ := under_deskL
  obtain ⟨cd, ct, ci⟩ := cells_deskL
  obtain ⟨cs, rfl, hsz⟩ := okWide_struct hu hv
  obtain ⟨l⟩ := cs
  obtain ⟨fuel, hf⟩ := h
  obtain ⟨y0, y1, n, _, _, h0, h1⟩ := trod_struct2 hu hf
  simp only [Value.cells] at h0 h1
  rw [t0, o0, ct] at h0
  rw [t1, o1, ci] at h1
  have hl : l.length = 3 := hsz.trans cd
  match l, hl with
  | [c0, c1, c2], _ =>
    obtain ⟨z0, z1, m, _, _, k0, k1⟩ := trod_struct2 hu2 h0
    rw [u0, q0, ci] at k0
    rw [u1, q1, ci] at k1
    obtain ⟨n0, e0, _, w0⟩ := DataW.trod_int Tryz.underlying22 k0
    obtain ⟨n1, e1, _, w1⟩ := DataW.trod_int Tryz.underlying22 k1
    obtain ⟨n2, e2, _, w2⟩ := DataW.trod_int Tryz.underlying22 h1
    simp only [List.drop_zero, List.drop_succ_cons, List.take_succ_cons, List.take_zero, List.cons.injEq, and_true] at e0 e1 e2
    subst e0 e1 e2
    exact ⟨n0, n1, n2, ⟨wf_i8 w0, wf_i8 w1, wf_i8 w2⟩, rfl⟩

/-- Is a desk one of a room? -/
def isD (wd hg x y l : Int) : Bool := isT wd hg x y && inI 0 3 l

set_option maxRecDepth 100000 in
set_option maxHeartbeats 1000000 in
theorem isDesk_true (wd hg a1 a2 a3 : Int) (sv : Value) (hT : isT wd hg a1 a2 = true) (w : World) :
    Calls Tryz.prog 66 #[.agg (roomC wd hg sv), .agg (deskC a1 a2 a3)] w fun e w' => e = .returned (.bool (inI 0 3 a3)) ∧ Below w.heap.size w w' := by
  have HT := Lib.hid (fun w => isTile_any wd hg a1 a2 sv w)
  rw [hT] at HT
  have HW := Lib.hid (fun w => isWall_any a3 w)
  generalize inI 0 3 a3 = z at *
  clear hT
  go_enter Tryz.func66, Tryz.ntmps66
  go_upto_region 1 with (fail)
  refine abs_world (fun W => W.heap[w.heap.size]? = some (.cells (roomC wd hg sv) 36 (0, 0)) ∧ W.heap[w.heap.size + 1]? = some (.cells (deskC a1 a2 a3) 65 (0, 0)) ∧ Below w.heap.size w W) (box2 w (.cells (roomC wd hg sv) 36) (.cells (deskC a1 a2 a3) 65)) ?_
  rintro W ⟨h0, h1, hb⟩
  generalize w.heap.size + 1 = b1 at *
  have H0 := Lib.hid h0
  have H1 := Lib.hid h1
  obtain ⟨_, _, k2⟩ := desk_cells h1
  clear h0 h1
  go_wp2_with (first | (refine wpList_load_partG 36 _ rfl w.heap.size 0 3 rfl rfl 36 (roomC wd hg sv) (0, 0) _ H0.out Tryz.underlying36 rfl info_room (room_fits _ _ _) _ (room_all _ _ _) ?_) | (refine wpList_load_partG 65 _ rfl b1 0 3 rfl rfl 65 (deskC a1 a2 a3) (0, 0) _ H1.out Tryz.underlying65 rfl info_desk (desk_fits _ _ _) _ (desk_all _ _ _) ?_) | (refine wpList_load_partG 63 _ rfl b1 0 2 rfl rfl 65 (deskC a1 a2 a3) (0, 0) _ H1.out Tryz.underlying63 rfl info_tile (desk_fits2 _ _ _) _ (desk_tile _ _ _) ?_) | (go_at_call 81; refine (HT.out _).mono ?_; rintro e W1 ⟨rfl, hb1⟩; replace H0 := Lib.hid (below_row hb1 H0.out); replace H1 := Lib.hid (below_row hb1 H1.out); replace k2 := cell_belowB hb1 k2; replace hb := hb.trans (hb1.mono hb.size); clear hb1) | (go_at_call 77; refine (HW.out _).mono ?_; rintro e w2 ⟨rfl, rfl⟩))
  go_ret
  exact ⟨rfl, hb⟩

set_option maxRecDepth 100000 in
set_option maxHeartbeats 1000000 in
theorem isDesk_false (wd hg a1 a2 a3 : Int) (sv : Value) (hT : isT wd hg a1 a2 = false) (w : World) :
    Calls Tryz.prog 66 #[.agg (roomC wd hg sv), .agg (deskC a1 a2 a3)] w fun e w' => e = .returned (.bool (false)) ∧ Below w.heap.size w w' := by
  have HT := Lib.hid (fun w => isTile_any wd hg a1 a2 sv w)
  rw [hT] at HT
  clear hT
  go_enter Tryz.func66, Tryz.ntmps66
  go_upto_region 1 with (fail)
  refine abs_world (fun W => W.heap[w.heap.size]? = some (.cells (roomC wd hg sv) 36 (0, 0)) ∧ W.heap[w.heap.size + 1]? = some (.cells (deskC a1 a2 a3) 65 (0, 0)) ∧ Below w.heap.size w W) (box2 w (.cells (roomC wd hg sv) 36) (.cells (deskC a1 a2 a3) 65)) ?_
  rintro W ⟨h0, h1, hb⟩
  generalize w.heap.size + 1 = b1 at *
  have H0 := Lib.hid h0
  have H1 := Lib.hid h1
  obtain ⟨_, _, k2⟩ := desk_cells h1
  clear h0 h1
  go_wp2_with (first | (refine wpList_load_partG 36 _ rfl w.heap.size 0 3 rfl rfl 36 (roomC wd hg sv) (0, 0) _ H0.out Tryz.underlying36 rfl info_room (room_fits _ _ _) _ (room_all _ _ _) ?_) | (refine wpList_load_partG 65 _ rfl b1 0 3 rfl rfl 65 (deskC a1 a2 a3) (0, 0) _ H1.out Tryz.underlying65 rfl info_desk (desk_fits _ _ _) _ (desk_all _ _ _) ?_) | (refine wpList_load_partG 63 _ rfl b1 0 2 rfl rfl 65 (deskC a1 a2 a3) (0, 0) _ H1.out Tryz.underlying63 rfl info_tile (desk_fits2 _ _ _) _ (desk_tile _ _ _) ?_) | (go_at_call 81; refine (HT.out _).mono ?_; rintro e W1 ⟨rfl, hb1⟩; replace H0 := Lib.hid (below_row hb1 H0.out); replace H1 := Lib.hid (below_row hb1 H1.out); replace k2 := cell_belowB hb1 k2; replace hb := hb.trans (hb1.mono hb.size); clear hb1))
  go_ret
  exact ⟨rfl, hb⟩

theorem isDesk_any (wd hg a1 a2 a3 : Int) (sv : Value) (w : World) :
    Calls Tryz.prog 66 #[.agg (roomC wd hg sv), .agg (deskC a1 a2 a3)] w fun e w' => e = .returned (.bool (isD wd hg a1 a2 a3)) ∧ Below w.heap.size w w' := by
  cases h : isT wd hg a1 a2 with
  | true => rw [show isD wd hg a1 a2 a3 = inI 0 3 a3 by simp [isD, h]]; exact isDesk_true wd hg a1 a2 a3 sv h w
  | false => rw [show isD wd hg a1 a2 a3 = false by simp [isD, h]]; exact isDesk_false wd hg a1 a2 a3 sv h w

set_option maxRecDepth 100000 in
set_option maxHeartbeats 1000000 in
theorem l03Desk_true (wd hg a1 a2 a3 : Int) (iw : I8 wd) (ih : I8 hg) (ix : I8 a1) (iy : I8 a2) (il : I8 a3) (sv : Value) (hT : isT wd hg a1 a2 = true) (gb : Nat) (T : TypeId) (fr : Nat × Nat) (w : World) (hb0 : w.heap[gb]? = some (.cells (roomC wd hg sv) T fr)) :
    Calls Tryz.prog 55 #[.pointer (some ⟨gb, 0, none⟩), .agg (deskC a1 a2 a3)] w fun e w' => e = .returned (.bool (inI 0 3 a3)) ∧ Below w.heap.size w w' := by
  have HT := Lib.hid (fun w h => l03Is_any wd hg a1 a2 iw ih ix iy sv gb T fr w h)
  rw [hT] at HT
  have HW := Lib.hid (fun w => l03Wall_any a3 w)
  generalize inI 0 3 a3 = z at *
  have HR := Lib.hid hb0
  obtain ⟨l0, l1⟩ := il
  clear hT hb0 iw ih ix iy
  go_enter Tryz.func55, Tryz.ntmps55
  go_upto_region 1 with (fail)
  refine abs_world (fun W => W.heap[w.heap.size]? = some (.cells (deskC a1 a2 a3) 65 (0, 0)) ∧ Below w.heap.size w W) (⟨heap_alloc_new _ _, (Below.refl _ _).alloc (Nat.le_refl _) _⟩) ?_
  rintro W ⟨h0, hb⟩
  have H1 := Lib.hid h0
  obtain ⟨_, _, k2⟩ := desk_cells h0
  replace HR := Lib.hid (below_row hb HR.out)
  clear h0
  go_wp2_with (first | (refine wpList_load_partG 65 _ rfl w.heap.size 0 3 rfl rfl 65 (deskC a1 a2 a3) (0, 0) _ H1.out Tryz.underlying65 rfl info_desk (desk_fits _ _ _) _ (desk_all _ _ _) ?_) | (refine wpList_load_partG 63 _ rfl w.heap.size 0 2 rfl rfl 65 (deskC a1 a2 a3) (0, 0) _ H1.out Tryz.underlying63 rfl info_tile (desk_fits2 _ _ _) _ (desk_tile _ _ _) ?_) | (go_at_call 71; refine (HT.out _ HR.out).mono ?_; rintro e W1 ⟨rfl, hb1⟩; replace H1 := Lib.hid (below_row hb1 H1.out); replace HR := Lib.hid (below_row hb1 HR.out); replace k2 := cell_belowB hb1 k2; replace hb := hb.trans (hb1.mono hb.size); clear hb1) | (go_at_call 72; refine (HW.out _).mono ?_; rintro e w2 ⟨rfl, rfl⟩))
  go_ret
  exact ⟨rfl, hb⟩

set_option maxRecDepth 100000 in
set_option maxHeartbeats 1000000 in
theorem l03Desk_false (wd hg a1 a2 a3 : Int) (iw : I8 wd) (ih : I8 hg) (ix : I8 a1) (iy : I8 a2) (il : I8 a3) (sv : Value) (hT : isT wd hg a1 a2 = false) (gb : Nat) (T : TypeId) (fr : Nat × Nat) (w : World) (hb0 : w.heap[gb]? = some (.cells (roomC wd hg sv) T fr)) :
    Calls Tryz.prog 55 #[.pointer (some ⟨gb, 0, none⟩), .agg (deskC a1 a2 a3)] w fun e w' => e = .returned (.bool (false)) ∧ Below w.heap.size w w' := by
  have HT := Lib.hid (fun w h => l03Is_any wd hg a1 a2 iw ih ix iy sv gb T fr w h)
  rw [hT] at HT
  have HR := Lib.hid hb0
  obtain ⟨l0, l1⟩ := il
  clear hT hb0 iw ih ix iy
  go_enter Tryz.func55, Tryz.ntmps55
  go_upto_region 1 with (fail)
  refine abs_world (fun W => W.heap[w.heap.size]? = some (.cells (deskC a1 a2 a3) 65 (0, 0)) ∧ Below w.heap.size w W) (⟨heap_alloc_new _ _, (Below.refl _ _).alloc (Nat.le_refl _) _⟩) ?_
  rintro W ⟨h0, hb⟩
  have H1 := Lib.hid h0
  obtain ⟨_, _, k2⟩ := desk_cells h0
  replace HR := Lib.hid (below_row hb HR.out)
  clear h0
  go_wp2_with (first | (refine wpList_load_partG 65 _ rfl w.heap.size 0 3 rfl rfl 65 (deskC a1 a2 a3) (0, 0) _ H1.out Tryz.underlying65 rfl info_desk (desk_fits _ _ _) _ (desk_all _ _ _) ?_) | (refine wpList_load_partG 63 _ rfl w.heap.size 0 2 rfl rfl 65 (deskC a1 a2 a3) (0, 0) _ H1.out Tryz.underlying63 rfl info_tile (desk_fits2 _ _ _) _ (desk_tile _ _ _) ?_) | (go_at_call 71; refine (HT.out _ HR.out).mono ?_; rintro e W1 ⟨rfl, hb1⟩; replace H1 := Lib.hid (below_row hb1 H1.out); replace HR := Lib.hid (below_row hb1 HR.out); replace k2 := cell_belowB hb1 k2; replace hb := hb.trans (hb1.mono hb.size); clear hb1))
  go_ret
  exact ⟨rfl, hb⟩

theorem l03Desk_any (wd hg a1 a2 a3 : Int) (iw : I8 wd) (ih : I8 hg) (ix : I8 a1) (iy : I8 a2) (il : I8 a3) (sv : Value) (gb : Nat) (T : TypeId) (fr : Nat × Nat) (w : World) (hb0 : w.heap[gb]? = some (.cells (roomC wd hg sv) T fr)) :
    Calls Tryz.prog 55 #[.pointer (some ⟨gb, 0, none⟩), .agg (deskC a1 a2 a3)] w fun e w' => e = .returned (.bool (isD wd hg a1 a2 a3)) ∧ Below w.heap.size w w' := by
  cases h : isT wd hg a1 a2 with
  | true => rw [show isD wd hg a1 a2 a3 = inI 0 3 a3 by simp [isD, h]]; exact l03Desk_true wd hg a1 a2 a3 iw ih ix iy il sv h gb T fr w hb0
  | false => rw [show isD wd hg a1 a2 a3 = false by simp [isD, h]]; exact l03Desk_false wd hg a1 a2 a3 iw ih ix iy il sv h gb T fr w hb0

set_option maxRecDepth 100000 in
set_option maxHeartbeats 1000000 in
theorem toDesk_any (a1 a2 a3 : Int) (w : World) :
    Calls Tryz.prog 25 #[.agg (deskC a1 a2 a3)] w fun e w' => e = .returned (.agg (deskC a1 a2 a3)) ∧ Below w.heap.size w w' := by
  go_enter Tryz.func25, Tryz.ntmps25
  go_upto_region 2 with (fail)
  refine abs_world (fun W => W.heap[w.heap.size]? = some (.cells (deskC a1 a2 a3) 69 (0, 0)) ∧ W.heap[w.heap.size + 1]? = some (.cells (deskC 0 0 0) 65 (0, 0)) ∧ W.heap[w.heap.size + 1 + 1]? = some (.cells (deskC 0 0 0) 65 (0, 0)) ∧ Below w.heap.size w W) (box3 w (.cells (deskC a1 a2 a3) 69) (.cells (deskC 0 0 0) 65) (.cells (deskC 0 0 0) 65)) ?_
  rintro W ⟨h0, h1, h2, hb⟩
  generalize hg2 : w.heap.size + 1 + 1 = g2 at *
  generalize hg1 : w.heap.size + 1 = g1 at *
  have l1 : w.heap.size ≤ g1 := by omega
  have l2 : w.heap.size ≤ g2 := by omega
  have n01 : w.heap.size ≠ g2 := by omega
  have n12 : g1 ≠ g2 := by omega
  clear hg1 hg2
  have H0 := Lib.hid h0
  have H1 := Lib.hid h1
  have H2 := Lib.hid h2
  clear h0 h1 h2
  go_upto_region 3 with (first | (refine wpList_load_partG 67 _ rfl w.heap.size 0 2 rfl rfl 69 (deskC a1 a2 a3) (0, 0) _ H0.out Tryz.underlying67 rfl info_tileL (desk_fits2 _ _ _) _ (desk_tile _ _ _) ?_) | (go_at_call 39; refine (toTile_any a1 a2 _).mono ?_; rintro e W1 ⟨rfl, hb1⟩; replace H0 := Lib.hid (below_row hb1 H0.out); replace H1 := Lib.hid (below_row hb1 H1.out); replace H2 := Lib.hid (below_row hb1 H2.out); replace hb := hb.trans (hb1.mono hb.size); clear hb1) | (refine wpList_store_part rfl 63 _ _ rfl g2 0 (tileC a1 a2) rfl rfl 65 (deskC 0 0 0) H2.out (by kernel_rfl) (by show 0 + 2 ≤ 3; decide) (tile_one _ _) ?_; rw [show laid (deskC 0 0 0) (tileC a1 a2) 0 = deskC a1 a2 0 from rfl]))
  refine abs_world (fun W => W.heap[w.heap.size]? = some (.cells (deskC a1 a2 a3) 69 (0, 0)) ∧ W.heap[g1]? = some (.cells (deskC 0 0 0) 65 (0, 0)) ∧ W.heap[g2]? = some (.cells (deskC a1 a2 0) 65 (0, 0)) ∧ Below w.heap.size w W) ⟨(setRow_other _ _ _ _ n01).trans H0.out, (setRow_other _ _ _ _ n12).trans H1.out, setRow_heap _ _ _ _ _ _ H2.out, below_setRow hb l2 _⟩ ?_
  clear H0 H1 H2 hb
  rintro W ⟨h0, h1, h2, hb⟩
  obtain ⟨_, _, k2⟩ := desk_cells h0
  have f2 := frozen_of_row W g2 2 _ _ h2
  have k3 := (desk_cells h2).2.2
  have H1 := Lib.hid h1
  have H2 := Lib.hid h2
  clear h0 h1 h2
  go_upto_region 4 with (fail)
  refine abs_world (fun W => W.heap[g1]? = some (.cells (deskC 0 0 0) 65 (0, 0)) ∧ W.heap[g2]? = some (.cells (deskC a1 a2 a3) 65 (0, 0)) ∧ Below w.heap.size w W) ⟨(heap_setCell_other _ _ _ _ n12).trans H1.out, heap_setCell_same _ _ _ _ _ _ H2.out, hb.setCell (p := ⟨g2, 2, none⟩) l2 _⟩ ?_
  clear H1 H2 hb k2 f2 k3
  rintro W ⟨h1, h2, hb⟩
  have H1 := Lib.hid h1
  have H2 := Lib.hid h2
  clear h1 h2
  go_wp2_with (first | (refine wpList_load_partG 65 _ rfl g2 0 3 rfl rfl 65 (deskC a1 a2 a3) (0, 0) _ H2.out Tryz.underlying65 rfl info_desk (desk_fits _ _ _) _ (desk_all _ _ _) ?_) | (refine wpList_store_part rfl 65 _ _ rfl g1 0 (deskC a1 a2 a3) rfl rfl 65 (deskC 0 0 0) H1.out (by kernel_rfl) (Nat.le_refl _) (desk_one _ _ _) ?_; rw [show laid (deskC 0 0 0) (deskC a1 a2 a3) 0 = deskC a1 a2 a3 from rfl]))
  exact bodyPost_ret (v := .agg (deskC a1 a2 a3)) (results_cell_row rfl _ _ _ _ _ _ _ rfl (setRow_heap _ _ _ _ _ _ H1.out) Tryz.underlying65 rfl (by kernel_rfl)) rfl ⟨rfl, below_setRow hb l1 _⟩

end Go.Proofs.YtckkemknajggpaaGreatDoor
