/-
  At which tile a window is, for every wall; and how far apart two tiles are.
-/
import Derived.Test.YtddnfbpgldchcaaDoorPlace
import Derived.StillTailTactics
import Derived.IntWalk
namespace Go.Proofs.YtddnfbpgldchcaaDoor
open Go.RowKit

attribute [local go_sem] run_store_f

theorem tlW_0 {wd hg : Int} {x : Wn} (h : x.1 = 0) : tlW wd hg x = (x.2.1, 0) := if_pos h
theorem tlW_1 {wd hg : Int} {x : Wn} (h : x.1 = 1) : tlW wd hg x = (wd - 1, x.2.1) := by unfold tlW; rw [if_neg (by omega), if_pos h]
theorem tlW_2 {wd hg : Int} {x : Wn} (h : x.1 = 2) : tlW wd hg x = (x.2.1, hg - 1) := by unfold tlW; rw [if_neg (by omega), if_neg (by omega), if_pos h]
theorem tlW_3 {wd hg : Int} {x : Wn} (h : x.1 = 3) : tlW wd hg x = (0, x.2.1) := by unfold tlW; rw [if_neg (by omega), if_neg (by omega), if_neg (by omega)]
theorem placeOf_any (wd hg : Int) (sv : Value) (x : Wn) (hf : FitOk wd hg x) (hrb : RB wd hg) (w : World) :
    Calls Tryd.prog 58 #[.agg (roomC wd hg sv), .agg (winC x)] w fun e w' => e = .returned (.agg (tileC (tlW wd hg x).1 (tlW wd hg x).2)) ∧ Below w.heap.size w w' := by
  have l0 := hf.l0
  have l1 := hf.l1
  have hc : x.1 = 0 ∨ x.1 = 1 ∨ x.1 = 2 ∨ x.1 = 3 := by omega
  rcases hc with h | h | h | h
  · rw [tlW_0 h]; exact pl0_any wd hg sv x h hrb w
  · rw [tlW_1 h]; exact pl1_any wd hg sv x h hrb w
  · rw [tlW_2 h]; exact pl2_any wd hg sv x h hrb w
  · rw [tlW_3 h]; exact pl3_any wd hg sv x h hrb w

set_option maxRecDepth 100000 in
set_option maxHeartbeats 1000000 in
theorem spt0_any (wd hg : Int) (sv : Value) (x : Wn) (hx : x.1 = 0) (hrb : RB wd hg) (gb : Nat) (T : TypeId) (fr : Nat × Nat) (w : World) (hb0 : w.heap[gb]? = some (.cells (roomC wd hg sv) T fr)) :
    Calls Tryd.prog 44 #[.pointer (some ⟨gb, 0, none⟩), .agg (winC x)] w fun e w' => e = .returned (.agg (tileC (x.2.1) (0))) ∧ Below w.heap.size w w' := by
  obtain ⟨w0, w1, h0, h1⟩ := hrb
  have e0 : (x.1 == 0) = true := by rw [hx]; rfl
  clear hx
  have H0 := Lib.hid hb0
  clear hb0
  go_enter Tryd.func44, Tryd.ntmps44
  go_upto_region 1 with (fail)
  refine abs_world (fun W => W.heap[w.heap.size]? = some (.cells (winC x) 68 (0, 0)) ∧ W.heap[w.heap.size + 1]? = some (.cells (tileC 0 0) 48 (0, 0)) ∧ Below w.heap.size w W) (two_at w (.cells (winC x) 68) (.cells (tileC 0 0) 48)) ?_
  rintro W ⟨q0, q1, hb⟩
  obtain ⟨k0, k1, k2⟩ := win_cells q0
  obtain ⟨r0, r1, r2⟩ := room_cells (below_row hb H0.out)
  have H1 := Lib.hid q1
  clear H0 q0 q1
  go_wp2_with (refine wpList_store_part rfl 48 _ _ rfl (w.heap.size + 1) 0 (tileC (x.2.1) (0)) rfl rfl 48 _ H1.out (by kernel_rfl) (Nat.le_refl _) (tile_one _ _) ?_; rw [laid_allr _ _ (by rfl)])
  exact bodyPost_ret (v := .agg (tileC (x.2.1) (0))) (results_cell_row rfl _ _ _ _ _ _ _ rfl (setRow_heap _ _ _ _ _ _ H1.out) Tryd.underlying48 rfl (by kernel_rfl)) rfl ⟨rfl, below_setRow hb (by omega) _⟩

set_option maxRecDepth 100000 in
set_option maxHeartbeats 1000000 in
theorem spt1_any (wd hg : Int) (sv : Value) (x : Wn) (hx : x.1 = 1) (hrb : RB wd hg) (gb : Nat) (T : TypeId) (fr : Nat × Nat) (w : World) (hb0 : w.heap[gb]? = some (.cells (roomC wd hg sv) T fr)) :
    Calls Tryd.prog 44 #[.pointer (some ⟨gb, 0, none⟩), .agg (winC x)] w fun e w' => e = .returned (.agg (tileC (wd - 1) (x.2.1))) ∧ Below w.heap.size w w' := by
  obtain ⟨w0, w1, h0, h1⟩ := hrb
  have e0 : (x.1 == 0) = false := by rw [hx]; rfl
  have e1 : (x.1 == 1) = true := by rw [hx]; rfl
  clear hx
  have H0 := Lib.hid hb0
  clear hb0
  go_enter Tryd.func44, Tryd.ntmps44
  go_upto_region 1 with (fail)
  refine abs_world (fun W => W.heap[w.heap.size]? = some (.cells (winC x) 68 (0, 0)) ∧ W.heap[w.heap.size + 1]? = some (.cells (tileC 0 0) 48 (0, 0)) ∧ Below w.heap.size w W) (two_at w (.cells (winC x) 68) (.cells (tileC 0 0) 48)) ?_
  rintro W ⟨q0, q1, hb⟩
  obtain ⟨k0, k1, k2⟩ := win_cells q0
  obtain ⟨r0, r1, r2⟩ := room_cells (below_row hb H0.out)
  have H1 := Lib.hid q1
  clear H0 q0 q1
  go_upto_region 5 with (fail)
  have hwr : IntKind.i8.wrap (wd - 1) = wd - 1 := IntWalk.i8_in _ (by omega)
  refine wp_region_still_tail 8 (by kernel_rfl) (by kernel_rfl) ?_
  simp only [List.take_succ_cons, List.take_zero, List.drop_succ_cons, List.drop_zero]
  iterate 8 still_step
  refine wpStill_nil ?_
  have H2 : W.drew.heap[w.heap.size + 1]? = some (.cells (tileC 0 0) 48 (0, 0)) := H1.out
  have hb2 : Below w.heap.size w W.drew := hb.drew
  clear H1 hb k0 k1 k2 r0 r1 r2
  change wpList _ _ _ _ _ W.drew
  generalize W.drew = W2 at H2 hb2 ⊢
  refine wpList_store_part rfl 48 _ _ rfl (w.heap.size + 1) 0 (tileC (wd - 1) (x.2.1)) rfl rfl 48 _ H2 (by kernel_rfl) (Nat.le_refl _) (tile_one _ _) ?_
  rw [laid_allr _ _ (by rfl)]
  go_wp2
  exact bodyPost_ret (v := .agg (tileC (wd - 1) (x.2.1))) (results_cell_row rfl _ _ _ _ _ _ _ rfl (setRow_heap _ _ _ _ _ _ H2) Tryd.underlying48 rfl (by kernel_rfl)) rfl ⟨rfl, below_setRow hb2 (by omega) _⟩

set_option maxRecDepth 100000 in
set_option maxHeartbeats 1000000 in
theorem spt2_any (wd hg : Int) (sv : Value) (x : Wn) (hx : x.1 = 2) (hrb : RB wd hg) (gb : Nat) (T : TypeId) (fr : Nat × Nat) (w : World) (hb0 : w.heap[gb]? = some (.cells (roomC wd hg sv) T fr)) :
    Calls Tryd.prog 44 #[.pointer (some ⟨gb, 0, none⟩), .agg (winC x)] w fun e w' => e = .returned (.agg (tileC (x.2.1) (hg - 1))) ∧ Below w.heap.size w w' := by
  obtain ⟨w0, w1, h0, h1⟩ := hrb
  have e0 : (x.1 == 0) = false := by rw [hx]; rfl
  have e1 : (x.1 == 1) = false := by rw [hx]; rfl
  have e2 : (x.1 == 2) = true := by rw [hx]; rfl
  clear hx
  have H0 := Lib.hid hb0
  clear hb0
  go_enter Tryd.func44, Tryd.ntmps44
  go_upto_region 1 with (fail)
  refine abs_world (fun W => W.heap[w.heap.size]? = some (.cells (winC x) 68 (0, 0)) ∧ W.heap[w.heap.size + 1]? = some (.cells (tileC 0 0) 48 (0, 0)) ∧ Below w.heap.size w W) (two_at w (.cells (winC x) 68) (.cells (tileC 0 0) 48)) ?_
  rintro W ⟨q0, q1, hb⟩
  obtain ⟨k0, k1, k2⟩ := win_cells q0
  obtain ⟨r0, r1, r2⟩ := room_cells (below_row hb H0.out)
  have H1 := Lib.hid q1
  clear H0 q0 q1
  go_upto_region 7 with (fail)
  have hwr : IntKind.i8.wrap (hg - 1) = hg - 1 := IntWalk.i8_in _ (by omega)
  refine wp_region_still_tail 8 (by kernel_rfl) (by kernel_rfl) ?_
  simp only [List.take_succ_cons, List.take_zero, List.drop_succ_cons, List.drop_zero]
  iterate 8 still_step
  refine wpStill_nil ?_
  have H2 : W.drew.heap[w.heap.size + 1]? = some (.cells (tileC 0 0) 48 (0, 0)) := H1.out
  have hb2 : Below w.heap.size w W.drew := hb.drew
  clear H1 hb k0 k1 k2 r0 r1 r2
  change wpList _ _ _ _ _ W.drew
  generalize W.drew = W2 at H2 hb2 ⊢
  refine wpList_store_part rfl 48 _ _ rfl (w.heap.size + 1) 0 (tileC (x.2.1) (hg - 1)) rfl rfl 48 _ H2 (by kernel_rfl) (Nat.le_refl _) (tile_one _ _) ?_
  rw [laid_allr _ _ (by rfl)]
  go_wp2
  exact bodyPost_ret (v := .agg (tileC (x.2.1) (hg - 1))) (results_cell_row rfl _ _ _ _ _ _ _ rfl (setRow_heap _ _ _ _ _ _ H2) Tryd.underlying48 rfl (by kernel_rfl)) rfl ⟨rfl, below_setRow hb2 (by omega) _⟩

set_option maxRecDepth 100000 in
set_option maxHeartbeats 1000000 in
theorem spt3_any (wd hg : Int) (sv : Value) (x : Wn) (hx : x.1 = 3) (hrb : RB wd hg) (gb : Nat) (T : TypeId) (fr : Nat × Nat) (w : World) (hb0 : w.heap[gb]? = some (.cells (roomC wd hg sv) T fr)) :
    Calls Tryd.prog 44 #[.pointer (some ⟨gb, 0, none⟩), .agg (winC x)] w fun e w' => e = .returned (.agg (tileC (0) (x.2.1))) ∧ Below w.heap.size w w' := by
  obtain ⟨w0, w1, h0, h1⟩ := hrb
  have e0 : (x.1 == 0) = false := by rw [hx]; rfl
  have e1 : (x.1 == 1) = false := by rw [hx]; rfl
  have e2 : (x.1 == 2) = false := by rw [hx]; rfl
  clear hx
  have H0 := Lib.hid hb0
  clear hb0
  go_enter Tryd.func44, Tryd.ntmps44
  go_upto_region 1 with (fail)
  refine abs_world (fun W => W.heap[w.heap.size]? = some (.cells (winC x) 68 (0, 0)) ∧ W.heap[w.heap.size + 1]? = some (.cells (tileC 0 0) 48 (0, 0)) ∧ Below w.heap.size w W) (two_at w (.cells (winC x) 68) (.cells (tileC 0 0) 48)) ?_
  rintro W ⟨q0, q1, hb⟩
  obtain ⟨k0, k1, k2⟩ := win_cells q0
  obtain ⟨r0, r1, r2⟩ := room_cells (below_row hb H0.out)
  have H1 := Lib.hid q1
  clear H0 q0 q1
  go_wp2_with (refine wpList_store_part rfl 48 _ _ rfl (w.heap.size + 1) 0 (tileC (0) (x.2.1)) rfl rfl 48 _ H1.out (by kernel_rfl) (Nat.le_refl _) (tile_one _ _) ?_; rw [laid_allr _ _ (by rfl)])
  exact bodyPost_ret (v := .agg (tileC (0) (x.2.1))) (results_cell_row rfl _ _ _ _ _ _ _ rfl (setRow_heap _ _ _ _ _ _ H1.out) Tryd.underlying48 rfl (by kernel_rfl)) rfl ⟨rfl, below_setRow hb (by omega) _⟩

theorem l03Tile_any (wd hg : Int) (sv : Value) (x : Wn) (hf : FitOk wd hg x) (hrb : RB wd hg) (gb : Nat) (T : TypeId) (fr : Nat × Nat) (w : World) (hb0 : w.heap[gb]? = some (.cells (roomC wd hg sv) T fr)) :
    Calls Tryd.prog 44 #[.pointer (some ⟨gb, 0, none⟩), .agg (winC x)] w fun e w' => e = .returned (.agg (tileC (tlW wd hg x).1 (tlW wd hg x).2)) ∧ Below w.heap.size w w' := by
  have l0 := hf.l0
  have l1 := hf.l1
  have hc : x.1 = 0 ∨ x.1 = 1 ∨ x.1 = 2 ∨ x.1 = 3 := by omega
  rcases hc with h | h | h | h
  · rw [tlW_0 h]; exact spt0_any wd hg sv x h hrb gb T fr w hb0
  · rw [tlW_1 h]; exact spt1_any wd hg sv x h hrb gb T fr w hb0
  · rw [tlW_2 h]; exact spt2_any wd hg sv x h hrb gb T fr w hb0
  · rw [tlW_3 h]; exact spt3_any wd hg sv x h hrb gb T fr w hb0

set_option maxRecDepth 100000 in
set_option maxHeartbeats 1000000 in
theorem squares_any (a1 a2 b1 b2 : Int) (ha : 0 ≤ a1 ∧ a1 ≤ 9 ∧ 0 ≤ a2 ∧ a2 ≤ 9) (hb : 0 ≤ b1 ∧ b1 ≤ 9 ∧ 0 ≤ b2 ∧ b2 ≤ 9) (w : World) :
    Calls Tryd.prog 59 #[.agg (tileC a1 a2), .agg (tileC b1 b2)] w fun e w' => e = .returned (.int .i16 (sqT (a1, a2) (b1, b2))) ∧ Below w.heap.size w w' := by
  obtain ⟨a10, a11, a20, a21⟩ := ha
  obtain ⟨b10, b11, b20, b21⟩ := hb
  have p := sq_le (d := a1 - b1) (by omega) (by omega)
  have q := sq_le (d := a2 - b2) (by omega) (by omega)
  obtain ⟨p0', p1'⟩ := p
  obtain ⟨q0', q1'⟩ := q
  have u1 : IntKind.i16.wrap a1 = a1 := IntWalk.i16_in _ (by omega)
  have u2 : IntKind.i16.wrap a2 = a2 := IntWalk.i16_in _ (by omega)
  have u3 : IntKind.i16.wrap b1 = b1 := IntWalk.i16_in _ (by omega)
  have u4 : IntKind.i16.wrap b2 = b2 := IntWalk.i16_in _ (by omega)
  have u5 : IntKind.i16.wrap (a1 - b1) = a1 - b1 := IntWalk.i16_in _ (by omega)
  have u6 : IntKind.i16.wrap (a2 - b2) = a2 - b2 := IntWalk.i16_in _ (by omega)
  have HA := Lib.hid (two_at w (.cells (tileC a1 a2) 48) (.cells (tileC b1 b2) 48))
  go_enter Tryd.func59, Tryd.ntmps59
  go_wp2
  refine wp_region_held_drew (S := (fun W => W.heap[w.heap.size]? = some (.cells (tileC a1 a2) 48 (0, 0)) ∧ W.heap[w.heap.size + 1]? = some (.cells (tileC b1 b2) 48 (0, 0)) ∧ Below w.heap.size w W)) (by kernel_rfl) ⟨HA.out.1, HA.out.2.1, HA.out.2.2.drew⟩ (fun hHeld => ?_)
  refine take_op (i := 0) (d := 7) (v := ?_) rfl rfl (by kernel_rfl) (by kernel_rfl) (by kernel_rfl) (fun _ _ _ h => h) (Or.inl ⟨by rfl, ?hy0u1⟩) hHeld ?rest0u1
  case hy0u1 =>
    intro w' hS'
    go_simp
    try with_reducible rfl
  simp only [List.setIfInBounds_toArray, List.set_cons_zero, List.set_cons_succ]
  refine take_op (i := 1) (d := 8) (v := ?_) rfl rfl (by kernel_rfl) (by kernel_rfl) (by kernel_rfl) (fun _ _ _ h => h) (Or.inl ⟨by rfl, ?hy1u2⟩) hHeld ?rest1u2
  case hy1u2 =>
    intro w' hS'
    obtain ⟨s1, s2, _⟩ := hS'
    obtain ⟨k0, k1⟩ := tile_cells s1
    obtain ⟨p0, p1⟩ := tile_cells s2
    clear s1 s2
    go_simp
    try with_reducible rfl
  simp only [List.setIfInBounds_toArray, List.set_cons_zero, List.set_cons_succ]
  refine take_op (i := 2) (d := 9) (v := ?_) rfl rfl (by kernel_rfl) (by kernel_rfl) (by kernel_rfl) (fun _ _ _ h => h) (Or.inl ⟨by rfl, ?hy2u3⟩) hHeld ?rest2u3
  case hy2u3 =>
    intro w' hS'
    go_simp
    try with_reducible rfl
  simp only [List.setIfInBounds_toArray, List.set_cons_zero, List.set_cons_succ]
  refine take_op (i := 3) (d := 10) (v := ?_) rfl rfl (by kernel_rfl) (by kernel_rfl) (by kernel_rfl) (fun _ _ _ h => h) (Or.inl ⟨by rfl, ?hy3u4⟩) hHeld ?rest3u4
  case hy3u4 =>
    intro w' hS'
    go_simp
    try with_reducible rfl
  simp only [List.setIfInBounds_toArray, List.set_cons_zero, List.set_cons_succ]
  refine take_op (i := 4) (d := 11) (v := ?_) rfl rfl (by kernel_rfl) (by kernel_rfl) (by kernel_rfl) (fun _ _ _ h => h) (Or.inl ⟨by rfl, ?hy4u5⟩) hHeld ?rest4u5
  case hy4u5 =>
    intro w' hS'
    obtain ⟨s1, s2, _⟩ := hS'
    obtain ⟨k0, k1⟩ := tile_cells s1
    obtain ⟨p0, p1⟩ := tile_cells s2
    clear s1 s2
    go_simp
    try with_reducible rfl
  simp only [List.setIfInBounds_toArray, List.set_cons_zero, List.set_cons_succ]
  refine take_op (i := 5) (d := 12) (v := ?_) rfl rfl (by kernel_rfl) (by kernel_rfl) (by kernel_rfl) (fun _ _ _ h => h) (Or.inl ⟨by rfl, ?hy5u6⟩) hHeld ?rest5u6
  case hy5u6 =>
    intro w' hS'
    go_simp
    try with_reducible rfl
  simp only [List.setIfInBounds_toArray, List.set_cons_zero, List.set_cons_succ]
  refine take_op (i := 6) (d := 13) (v := ?_) rfl rfl (by kernel_rfl) (by kernel_rfl) (by kernel_rfl) (fun _ _ _ h => h) (Or.inl ⟨by rfl, ?hy6u7⟩) hHeld ?rest6u7
  case hy6u7 =>
    intro w' hS'
    go_simp
    try with_reducible rfl
  simp only [List.setIfInBounds_toArray, List.set_cons_zero, List.set_cons_succ]
  refine take_op (i := 7) (d := 14) (v := ?_) rfl rfl (by kernel_rfl) (by kernel_rfl) (by kernel_rfl) (fun _ _ _ h => h) (Or.inl ⟨by rfl, ?hy7u8⟩) hHeld ?rest7u8
  case hy7u8 =>
    intro w' hS'
    go_simp
    try with_reducible rfl
  simp only [List.setIfInBounds_toArray, List.set_cons_zero, List.set_cons_succ]
  refine take_op (i := 8) (d := 15) (v := ?_) rfl rfl (by kernel_rfl) (by kernel_rfl) (by kernel_rfl) (fun _ _ _ h => h) (Or.inl ⟨by rfl, ?hy8u9⟩) hHeld ?rest8u9
  case hy8u9 =>
    intro w' hS'
    obtain ⟨s1, s2, _⟩ := hS'
    obtain ⟨k0, k1⟩ := tile_cells s1
    obtain ⟨p0, p1⟩ := tile_cells s2
    clear s1 s2
    go_simp
    try with_reducible rfl
  simp only [List.setIfInBounds_toArray, List.set_cons_zero, List.set_cons_succ]
  refine take_op (i := 9) (d := 16) (v := ?_) rfl rfl (by kernel_rfl) (by kernel_rfl) (by kernel_rfl) (fun _ _ _ h => h) (Or.inl ⟨by rfl, ?hy9u10⟩) hHeld ?rest9u10
  case hy9u10 =>
    intro w' hS'
    go_simp
    try with_reducible rfl
  simp only [List.setIfInBounds_toArray, List.set_cons_zero, List.set_cons_succ]
  refine take_op (i := 10) (d := 17) (v := ?_) rfl rfl (by kernel_rfl) (by kernel_rfl) (by kernel_rfl) (fun _ _ _ h => h) (Or.inl ⟨by rfl, ?hy10u11⟩) hHeld ?rest10u11
  case hy10u11 =>
    intro w' hS'
    go_simp
    try with_reducible rfl
  simp only [List.setIfInBounds_toArray, List.set_cons_zero, List.set_cons_succ]
  refine take_op (i := 11) (d := 18) (v := ?_) rfl rfl (by kernel_rfl) (by kernel_rfl) (by kernel_rfl) (fun _ _ _ h => h) (Or.inl ⟨by rfl, ?hy11u12⟩) hHeld ?rest11u12
  case hy11u12 =>
    intro w' hS'
    obtain ⟨s1, s2, _⟩ := hS'
    obtain ⟨k0, k1⟩ := tile_cells s1
    obtain ⟨p0, p1⟩ := tile_cells s2
    clear s1 s2
    go_simp
    try with_reducible rfl
  simp only [List.setIfInBounds_toArray, List.set_cons_zero, List.set_cons_succ]
  refine take_op (i := 12) (d := 19) (v := ?_) rfl rfl (by kernel_rfl) (by kernel_rfl) (by kernel_rfl) (fun _ _ _ h => h) (Or.inl ⟨by rfl, ?hy12u13⟩) hHeld ?rest12u13
  case hy12u13 =>
    intro w' hS'
    go_simp
    try with_reducible rfl
  simp only [List.setIfInBounds_toArray, List.set_cons_zero, List.set_cons_succ]
  refine take_op (i := 13) (d := 20) (v := ?_) rfl rfl (by kernel_rfl) (by kernel_rfl) (by kernel_rfl) (fun _ _ _ h => h) (Or.inl ⟨by rfl, ?hy13u14⟩) hHeld ?rest13u14
  case hy13u14 =>
    intro w' hS'
    go_simp
    try with_reducible rfl
  simp only [List.setIfInBounds_toArray, List.set_cons_zero, List.set_cons_succ]
  refine take_op (i := 14) (d := 5) (v := ?_) rfl rfl (by kernel_rfl) (by kernel_rfl) (by kernel_rfl) (fun _ _ _ h => h) (Or.inl ⟨by rfl, ?hy14u15⟩) hHeld ?rest14u15
  case hy14u15 =>
    intro w' hS'
    go_simp
    try with_reducible rfl
  simp only [List.setIfInBounds_toArray, List.set_cons_zero, List.set_cons_succ]
  refine take_op (i := 15) (d := 6) (v := ?_) rfl rfl (by kernel_rfl) (by kernel_rfl) (by kernel_rfl) (fun _ _ _ h => h) (Or.inl ⟨by rfl, ?hy15u16⟩) hHeld ?rest15u16
  case hy15u16 =>
    intro w' hS'
    go_simp
    try with_reducible rfl
  simp only [List.setIfInBounds_toArray, List.set_cons_zero, List.set_cons_succ]
  refine wpAnyH_done (by kernel_rfl) ?_ _
  have hbz := hHeld.2.2
  clear hHeld u1 u2 u3 u4 u5 u6
  go_wp2
  go_ret
  exact ⟨rfl, hbz⟩

end Go.Proofs.YtddnfbpgldchcaaDoor
