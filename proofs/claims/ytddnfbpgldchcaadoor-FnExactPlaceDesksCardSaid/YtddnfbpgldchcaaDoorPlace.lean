/-
  At which tile a window is, and how far apart two tiles are.
-/
import Derived.Test.YtddnfbpgldchcaaDoorRoomK
import Derived.Test.YtddnfbpgldchcaaDoorRoomF
namespace Go.Proofs.YtddnfbpgldchcaaDoor
open Go.RowKit

attribute [local go_sem] run_store_f

theorem info_tile : (Tryd.prog.info? 48).map (·.size) = some 2 := by kernel_rfl
theorem tile_fits (x y : Int) : 0 + 2 ≤ (tileC x y).size := Nat.le_refl _
theorem tile_all (x y : Int) : (tileC x y).extract 0 (0 + 2) = tileC x y := rfl
theorem tile_one (x y : Int) : ∀ v ∈ tileC x y, v.oneCell' = true := by
  intro v hv
  simp only [tileC, List.mem_toArray, List.mem_cons, List.not_mem_nil, or_false] at hv
  rcases hv with rfl | rfl <;> rfl
theorem tile_cells {x y : Int} {W : World} {g : Nat} {T : TypeId} {fr : Nat × Nat} (h : W.heap[g]? = some (.cells (tileC x y) T fr)) :
    W.cell? ⟨g, 0, none⟩ = some (.int .i8 x) ∧ W.cell? ⟨g, 1, none⟩ = some (.int .i8 y) :=
  ⟨by rw [cell_of_row W _ _ _ _ _ h]; rfl, by rw [cell_of_row W _ _ _ _ _ h]; rfl⟩
def RB (wd hg : Int) : Prop := 1 ≤ wd ∧ wd ≤ 10 ∧ 1 ≤ hg ∧ hg ≤ 10
theorem m_atR (n : Nat) (v : Value) (w : World) : (Go.method (n + 1) 103 v "loop.example/g01367/impl.tileAt").run Tryd.prog w = .ok (77, v) w := by kernel_rfl
theorem m_atC (n : Nat) (v : Value) (w : World) : (Go.method (n + 1) 104 v "loop.example/g01367/impl.tileAt").run Tryd.prog w = .ok (80, v) w := by kernel_rfl

set_option maxRecDepth 100000 in
set_option maxHeartbeats 1000000 in
theorem atR0_any (n wd hg a : Int) (sv : Value) (hn : n = 0) (hrb : RB wd hg) (w : World) :
    Calls Tryd.prog 77 #[.int .i8 n, .agg (roomC wd hg sv), .int .i8 a] w fun e w' => e = .returned (.agg (tileC (a) (0))) ∧ Below w.heap.size w w' := by
  have hd : (n == 0) = true := by simp [hn]
  obtain ⟨w0, w1, h0, h1⟩ := hrb
  clear hn
  unfold roomC tileC
  go_enter Tryd.func77, Tryd.ntmps77
  go_wp2
  refine bodyPost_ret (v := .agg #[.int .i8 (a), .int .i8 (0)]) (by simp [results, Tryd.results77, go_sem]) rfl ⟨rfl, ?_⟩
  (repeat' first | exact Below.refl _ _ | assumption | refine Below.alloc ?_ (by first | omega | (simp; done) | (simp; omega)) _ | refine Below.setCell ?_ (by first | omega | (simp; done) | (simp; omega)) _ | refine Below.drew ?_)

set_option maxRecDepth 100000 in
set_option maxHeartbeats 1000000 in
theorem atR1_any (n wd hg a : Int) (sv : Value) (hn : n ≠ 0) (hrb : RB wd hg) (w : World) :
    Calls Tryd.prog 77 #[.int .i8 n, .agg (roomC wd hg sv), .int .i8 a] w fun e w' => e = .returned (.agg (tileC (a) (hg - 1))) ∧ Below w.heap.size w w' := by
  have hd : (n == 0) = false := by simpa using hn
  obtain ⟨w0, w1, h0, h1⟩ := hrb
  clear hn
  unfold roomC tileC
  go_enter Tryd.func77, Tryd.ntmps77
  go_wp2
  refine bodyPost_ret (v := .agg #[.int .i8 (a), .int .i8 (hg - 1)]) (by simp [results, Tryd.results77, go_sem]) rfl ⟨rfl, ?_⟩
  (repeat' first | exact Below.refl _ _ | assumption | refine Below.alloc ?_ (by first | omega | (simp; done) | (simp; omega)) _ | refine Below.setCell ?_ (by first | omega | (simp; done) | (simp; omega)) _ | refine Below.drew ?_)

set_option maxRecDepth 100000 in
set_option maxHeartbeats 1000000 in
theorem atC0_any (n wd hg a : Int) (sv : Value) (hn : n = 3) (hrb : RB wd hg) (w : World) :
    Calls Tryd.prog 80 #[.int .i8 n, .agg (roomC wd hg sv), .int .i8 a] w fun e w' => e = .returned (.agg (tileC (0) (a))) ∧ Below w.heap.size w w' := by
  have hd : (n == 3) = true := by simp [hn]
  obtain ⟨w0, w1, h0, h1⟩ := hrb
  clear hn
  unfold roomC tileC
  go_enter Tryd.func80, Tryd.ntmps80
  go_wp2
  refine bodyPost_ret (v := .agg #[.int .i8 (0), .int .i8 (a)]) (by simp [results, Tryd.results80, go_sem]) rfl ⟨rfl, ?_⟩
  (repeat' first | exact Below.refl _ _ | assumption | refine Below.alloc ?_ (by first | omega | (simp; done) | (simp; omega)) _ | refine Below.setCell ?_ (by first | omega | (simp; done) | (simp; omega)) _ | refine Below.drew ?_)

set_option maxRecDepth 100000 in
set_option maxHeartbeats 1000000 in
theorem atC1_any (n wd hg a : Int) (sv : Value) (hn : n ≠ 3) (hrb : RB wd hg) (w : World) :
    Calls Tryd.prog 80 #[.int .i8 n, .agg (roomC wd hg sv), .int .i8 a] w fun e w' => e = .returned (.agg (tileC (wd - 1) (a))) ∧ Below w.heap.size w w' := by
  have hd : (n == 3) = false := by simpa using hn
  obtain ⟨w0, w1, h0, h1⟩ := hrb
  clear hn
  unfold roomC tileC
  go_enter Tryd.func80, Tryd.ntmps80
  go_wp2
  refine bodyPost_ret (v := .agg #[.int .i8 (wd - 1), .int .i8 (a)]) (by simp [results, Tryd.results80, go_sem]) rfl ⟨rfl, ?_⟩
  (repeat' first | exact Below.refl _ _ | assumption | refine Below.alloc ?_ (by first | omega | (simp; done) | (simp; omega)) _ | refine Below.setCell ?_ (by first | omega | (simp; done) | (simp; omega)) _ | refine Below.drew ?_)

theorem run_store_row {P : Program} (w : World) (g : Nat) (t : TypeId) (vs old : Array Value) (hg : w.heap[g]? = some (.cells old t (0, 0))) (hs : old.size = vs.size) (h1 : ∀ v ∈ vs, v.oneCell' = true) :
    (storeCells ⟨g, 0, none⟩ vs.toList).run P w = .ok () (w.setRow g vs) := by
  have hst := run_storeCells_at P g 0 t vs.toList 0 old w hg (by simp; omega) (fun v hv => h1 v (by simpa using hv))
  have hl := laid_allr old vs hs
  unfold laid at hl
  simp only [Nat.add_zero] at hst
  rw [hst]
  simp at hl ⊢
  rw [hl]

set_option maxRecDepth 100000 in
set_option maxHeartbeats 1000000 in
theorem pl0_any (wd hg : Int) (sv : Value) (x : Wn) (hx : x.1 = 0) (hrb : RB wd hg) (w : World) :
    Calls Tryd.prog 58 #[.agg (roomC wd hg sv), .agg (winC x)] w fun e w' => e = .returned (.agg (tileC (x.2.1) (0))) ∧ Below w.heap.size w w' := by
  have Hwall := Lib.hid (fun w => wallOf_row x.1 (.inl hx) w)
  unfold rowV at Hwall
  have mT := m_atR
  have HT := Lib.hid (fun w => atR0_any x.1 wd hg x.2.1 sv (by omega) hrb w)
  clear hx
  have HA := Lib.hid (three_at w (.cells (roomC wd hg sv) 33) (.cells (winC x) 68) (.cells (tileC 0 0) 48))
  go_enter Tryd.func58, Tryd.ntmps58
  go_wp2
  refine wp_region_held_drew (S := (fun W => W.heap[w.heap.size]? = some (.cells (roomC wd hg sv) 33 (0, 0)) ∧ W.heap[w.heap.size + 1]? = some (.cells (winC x) 68 (0, 0)) ∧ (∃ old : Array Value, W.heap[w.heap.size + 1 + 1]? = some (.cells old 48 (0, 0)) ∧ old.size = 2) ∧ Below w.heap.size w W)) (by kernel_rfl) ⟨HA.out.1, HA.out.2.1, ⟨_, HA.out.2.2.1, rfl⟩, HA.out.2.2.2.drew⟩ (fun hHeld => ?_)
  refine take_op (i := 0) (d := 5) (v := ?_) rfl rfl (by kernel_rfl) (by kernel_rfl) (by kernel_rfl) (fun _ _ _ h => h) (Or.inl ⟨by rfl, ?hy0u1⟩) hHeld ?rest0u1
  case hy0u1 =>
    intro w' hS'
    go_simp
    try with_reducible rfl
  simp only [List.setIfInBounds_toArray, List.set_cons_zero, List.set_cons_succ]
  refine take_op (i := 1) (d := 6) (v := ?_) rfl rfl (by kernel_rfl) (by kernel_rfl) (by kernel_rfl) (fun _ _ _ h => h) (Or.inl ⟨by rfl, ?hy1u2⟩) hHeld ?rest1u2
  case hy1u2 =>
    intro w' hS'
    obtain ⟨_, s1, _⟩ := hS'
    obtain ⟨k0, k1, k2⟩ := win_cells s1
    clear s1
    go_simp
    try with_reducible rfl
  simp only [List.setIfInBounds_toArray, List.set_cons_zero, List.set_cons_succ]
  refine take_op (i := 4) (d := 9) (v := ?_) rfl rfl (by kernel_rfl) (by kernel_rfl) (by kernel_rfl) (fun _ _ _ h => h) (Or.inl ⟨by rfl, ?hy4u3⟩) hHeld ?rest4u3
  case hy4u3 =>
    intro w' hS'
    go_simp
    try with_reducible rfl
  simp only [List.setIfInBounds_toArray, List.set_cons_zero, List.set_cons_succ]
  refine take_op (i := 5) (d := 10) (v := ?_) rfl rfl (by kernel_rfl) (by kernel_rfl) (by kernel_rfl) (fun _ _ _ h => h) (Or.inl ⟨by rfl, ?hy5u4⟩) hHeld ?rest5u4
  case hy5u4 =>
    intro w' hS'
    obtain ⟨_, s1, _⟩ := hS'
    obtain ⟨k0, k1, k2⟩ := win_cells s1
    clear s1
    go_simp
    try with_reducible rfl
  simp only [List.setIfInBounds_toArray, List.set_cons_zero, List.set_cons_succ]
  refine take_op (i := 3) (d := 8) (v := .agg (roomC wd hg sv)) rfl rfl (by kernel_rfl) (by kernel_rfl) (by kernel_rfl) (fun _ _ _ h => h) (yields_row (by rfl) 33 (.tmp 2) (by rfl) w.heap.size 0 3 (by rfl) 33 (roomC wd hg sv) (0, 0) _ (fun _ h => h.1) Tryd.underlying33 rfl info_room (room_fits _ _ _) (roomC wd hg sv) (room_all _ _ _)) hHeld ?_
  simp only [List.setIfInBounds_toArray, List.set_cons_zero, List.set_cons_succ]
  refine wpAnyH_ready (rs := [2]) (by kernel_rfl) (by simp) ?_
  refine AllReadyH.cons rfl (fun K hK => ?_) AllReadyH.nil
  go_simp
  refine (Hwall.out _).mono ?_
  rintro e w' ⟨rfl, rfl⟩
  refine hK.out _ _ (hHeld) (fun hHeld2 => ?_)
  clear hK K
  replace hHeld := hHeld2
  clear hHeld2
  refine wpAnyH_ready (rs := [6]) (by kernel_rfl) (by simp) ?_
  refine AllReadyH.cons rfl (fun K hK => ?_) AllReadyH.nil
  go_simp
  refine (HT.out _).mono ?_
  rintro e W1 ⟨rfl, hb1⟩
  refine hK.out _ _ (⟨below_row hb1 hHeld.1, below_row hb1 hHeld.2.1, hHeld.2.2.1.imp (fun _ h => ⟨below_row hb1 h.1, h.2⟩), hHeld.2.2.2.trans (hb1.mono hHeld.2.2.2.size)⟩) (fun hHeld2 => ?_)
  clear hK K
  replace hHeld := hHeld2
  clear hHeld2
  obtain ⟨old, ho, hos⟩ := hHeld.2.2.1
  have hst := run_store_row (P := Tryd.prog) W1 (w.heap.size + 1 + 1) 48 (tileC (x.2.1) (0)) old ho (by rw [hos]; rfl) (tile_one _ _)
  have hsz : (tileC (x.2.1) (0)).size = 2 := rfl
  have HFin := Lib.hid (setRow_heap W1 (w.heap.size + 1 + 1) _ (tileC (x.2.1) (0)) _ _ ho)
  refine wpAnyH_ready (rs := [7]) (by kernel_rfl) (by simp) ?_
  refine AllReadyH.cons rfl (fun K hK => ?_) AllReadyH.nil
  go_simp
  refine hK.out _ _ ⟨by rw [setRow_other _ _ _ _ (by omega)]; exact hHeld.1, by rw [setRow_other _ _ _ _ (by omega)]; exact hHeld.2.1, ⟨_, HFin.out, rfl⟩, below_setRow hHeld.2.2.2 (by omega) _⟩ (fun hHeld2 => ?_)
  have hbz := hHeld2.2.2.2
  clear hK K hst hHeld hHeld2
  refine wpAnyH_done (by kernel_rfl) ?_ _
  go_wp2
  exact bodyPost_ret (v := .agg (tileC (x.2.1) (0))) (results_cell_row rfl _ _ _ _ _ _ _ rfl HFin.out Tryd.underlying48 rfl (by kernel_rfl)) rfl ⟨rfl, hbz⟩

set_option maxRecDepth 100000 in
set_option maxHeartbeats 1000000 in
theorem pl1_any (wd hg : Int) (sv : Value) (x : Wn) (hx : x.1 = 1) (hrb : RB wd hg) (w : World) :
    Calls Tryd.prog 58 #[.agg (roomC wd hg sv), .agg (winC x)] w fun e w' => e = .returned (.agg (tileC (wd - 1) (x.2.1))) ∧ Below w.heap.size w w' := by
  have Hwall := Lib.hid (fun w => wallOf_col x.1 (.inl hx) w)
  unfold colV at Hwall
  have mT := m_atC
  have HT := Lib.hid (fun w => atC1_any x.1 wd hg x.2.1 sv (by omega) hrb w)
  clear hx
  have HA := Lib.hid (three_at w (.cells (roomC wd hg sv) 33) (.cells (winC x) 68) (.cells (tileC 0 0) 48))
  go_enter Tryd.func58, Tryd.ntmps58
  go_wp2
  refine wp_region_held_drew (S := (fun W => W.heap[w.heap.size]? = some (.cells (roomC wd hg sv) 33 (0, 0)) ∧ W.heap[w.heap.size + 1]? = some (.cells (winC x) 68 (0, 0)) ∧ (∃ old : Array Value, W.heap[w.heap.size + 1 + 1]? = some (.cells old 48 (0, 0)) ∧ old.size = 2) ∧ Below w.heap.size w W)) (by kernel_rfl) ⟨HA.out.1, HA.out.2.1, ⟨_, HA.out.2.2.1, rfl⟩, HA.out.2.2.2.drew⟩ (fun hHeld => ?_)
  refine take_op (i := 0) (d := 5) (v := ?_) rfl rfl (by kernel_rfl) (by kernel_rfl) (by kernel_rfl) (fun _ _ _ h => h) (Or.inl ⟨by rfl, ?hy0u1⟩) hHeld ?rest0u1
  case hy0u1 =>
    intro w' hS'
    go_simp
    try with_reducible rfl
  simp only [List.setIfInBounds_toArray, List.set_cons_zero, List.set_cons_succ]
  refine take_op (i := 1) (d := 6) (v := ?_) rfl rfl (by kernel_rfl) (by kernel_rfl) (by kernel_rfl) (fun _ _ _ h => h) (Or.inl ⟨by rfl, ?hy1u2⟩) hHeld ?rest1u2
  case hy1u2 =>
    intro w' hS'
    obtain ⟨_, s1, _⟩ := hS'
    obtain ⟨k0, k1, k2⟩ := win_cells s1
    clear s1
    go_simp
    try with_reducible rfl
  simp only [List.setIfInBounds_toArray, List.set_cons_zero, List.set_cons_succ]
  refine take_op (i := 4) (d := 9) (v := ?_) rfl rfl (by kernel_rfl) (by kernel_rfl) (by kernel_rfl) (fun _ _ _ h => h) (Or.inl ⟨by rfl, ?hy4u3⟩) hHeld ?rest4u3
  case hy4u3 =>
    intro w' hS'
    go_simp
    try with_reducible rfl
  simp only [List.setIfInBounds_toArray, List.set_cons_zero, List.set_cons_succ]
  refine take_op (i := 5) (d := 10) (v := ?_) rfl rfl (by kernel_rfl) (by kernel_rfl) (by kernel_rfl) (fun _ _ _ h => h) (Or.inl ⟨by rfl, ?hy5u4⟩) hHeld ?rest5u4
  case hy5u4 =>
    intro w' hS'
    obtain ⟨_, s1, _⟩ := hS'
    obtain ⟨k0, k1, k2⟩ := win_cells s1
    clear s1
    go_simp
    try with_reducible rfl
  simp only [List.setIfInBounds_toArray, List.set_cons_zero, List.set_cons_succ]
  refine take_op (i := 3) (d := 8) (v := .agg (roomC wd hg sv)) rfl rfl (by kernel_rfl) (by kernel_rfl) (by kernel_rfl) (fun _ _ _ h => h) (yields_row (by rfl) 33 (.tmp 2) (by rfl) w.heap.size 0 3 (by rfl) 33 (roomC wd hg sv) (0, 0) _ (fun _ h => h.1) Tryd.underlying33 rfl info_room (room_fits _ _ _) (roomC wd hg sv) (room_all _ _ _)) hHeld ?_
  simp only [List.setIfInBounds_toArray, List.set_cons_zero, List.set_cons_succ]
  refine wpAnyH_ready (rs := [2]) (by kernel_rfl) (by simp) ?_
  refine AllReadyH.cons rfl (fun K hK => ?_) AllReadyH.nil
  go_simp
  refine (Hwall.out _).mono ?_
  rintro e w' ⟨rfl, rfl⟩
  refine hK.out _ _ (hHeld) (fun hHeld2 => ?_)
  clear hK K
  replace hHeld := hHeld2
  clear hHeld2
  refine wpAnyH_ready (rs := [6]) (by kernel_rfl) (by simp) ?_
  refine AllReadyH.cons rfl (fun K hK => ?_) AllReadyH.nil
  go_simp
  refine (HT.out _).mono ?_
  rintro e W1 ⟨rfl, hb1⟩
  refine hK.out _ _ (⟨below_row hb1 hHeld.1, below_row hb1 hHeld.2.1, hHeld.2.2.1.imp (fun _ h => ⟨below_row hb1 h.1, h.2⟩), hHeld.2.2.2.trans (hb1.mono hHeld.2.2.2.size)⟩) (fun hHeld2 => ?_)
  clear hK K
  replace hHeld := hHeld2
  clear hHeld2
  obtain ⟨old, ho, hos⟩ := hHeld.2.2.1
  have hst := run_store_row (P := Tryd.prog) W1 (w.heap.size + 1 + 1) 48 (tileC (wd - 1) (x.2.1)) old ho (by rw [hos]; rfl) (tile_one _ _)
  have hsz : (tileC (wd - 1) (x.2.1)).size = 2 := rfl
  have HFin := Lib.hid (setRow_heap W1 (w.heap.size + 1 + 1) _ (tileC (wd - 1) (x.2.1)) _ _ ho)
  refine wpAnyH_ready (rs := [7]) (by kernel_rfl) (by simp) ?_
  refine AllReadyH.cons rfl (fun K hK => ?_) AllReadyH.nil
  go_simp
  refine hK.out _ _ ⟨by rw [setRow_other _ _ _ _ (by omega)]; exact hHeld.1, by rw [setRow_other _ _ _ _ (by omega)]; exact hHeld.2.1, ⟨_, HFin.out, rfl⟩, below_setRow hHeld.2.2.2 (by omega) _⟩ (fun hHeld2 => ?_)
  have hbz := hHeld2.2.2.2
  clear hK K hst hHeld hHeld2
  refine wpAnyH_done (by kernel_rfl) ?_ _
  go_wp2
  exact bodyPost_ret (v := .agg (tileC (wd - 1) (x.2.1))) (results_cell_row rfl _ _ _ _ _ _ _ rfl HFin.out Tryd.underlying48 rfl (by kernel_rfl)) rfl ⟨rfl, hbz⟩

set_option maxRecDepth 100000 in
set_option maxHeartbeats 1000000 in
theorem pl2_any (wd hg : Int) (sv : Value) (x : Wn) (hx : x.1 = 2) (hrb : RB wd hg) (w : World) :
    Calls Tryd.prog 58 #[.agg (roomC wd hg sv), .agg (winC x)] w fun e w' => e = .returned (.agg (tileC (x.2.1) (hg - 1))) ∧ Below w.heap.size w w' := by
  have Hwall := Lib.hid (fun w => wallOf_row x.1 (.inr hx) w)
  unfold rowV at Hwall
  have mT := m_atR
  have HT := Lib.hid (fun w => atR1_any x.1 wd hg x.2.1 sv (by omega) hrb w)
  clear hx
  have HA := Lib.hid (three_at w (.cells (roomC wd hg sv) 33) (.cells (winC x) 68) (.cells (tileC 0 0) 48))
  go_enter Tryd.func58, Tryd.ntmps58
  go_wp2
  refine wp_region_held_drew (S := (fun W => W.heap[w.heap.size]? = some (.cells (roomC wd hg sv) 33 (0, 0)) ∧ W.heap[w.heap.size + 1]? = some (.cells (winC x) 68 (0, 0)) ∧ (∃ old : Array Value, W.heap[w.heap.size + 1 + 1]? = some (.cells old 48 (0, 0)) ∧ old.size = 2) ∧ Below w.heap.size w W)) (by kernel_rfl) ⟨HA.out.1, HA.out.2.1, ⟨_, HA.out.2.2.1, rfl⟩, HA.out.2.2.2.drew⟩ (fun hHeld => ?_)
  refine take_op (i := 0) (d := 5) (v := ?_) rfl rfl (by kernel_rfl) (by kernel_rfl) (by kernel_rfl) (fun _ _ _ h => h) (Or.inl ⟨by rfl, ?hy0u1⟩) hHeld ?rest0u1
  case hy0u1 =>
    intro w' hS'
    go_simp
    try with_reducible rfl
  simp only [List.setIfInBounds_toArray, List.set_cons_zero, List.set_cons_succ]
  refine take_op (i := 1) (d := 6) (v := ?_) rfl rfl (by kernel_rfl) (by kernel_rfl) (by kernel_rfl) (fun _ _ _ h => h) (Or.inl ⟨by rfl, ?hy1u2⟩) hHeld ?rest1u2
  case hy1u2 =>
    intro w' hS'
    obtain ⟨_, s1, _⟩ := hS'
    obtain ⟨k0, k1, k2⟩ := win_cells s1
    clear s1
    go_simp
    try with_reducible rfl
  simp only [List.setIfInBounds_toArray, List.set_cons_zero, List.set_cons_succ]
  refine take_op (i := 4) (d := 9) (v := ?_) rfl rfl (by kernel_rfl) (by kernel_rfl) (by kernel_rfl) (fun _ _ _ h => h) (Or.inl ⟨by rfl, ?hy4u3⟩) hHeld ?rest4u3
  case hy4u3 =>
    intro w' hS'
    go_simp
    try with_reducible rfl
  simp only [List.setIfInBounds_toArray, List.set_cons_zero, List.set_cons_succ]
  refine take_op (i := 5) (d := 10) (v := ?_) rfl rfl (by kernel_rfl) (by kernel_rfl) (by kernel_rfl) (fun _ _ _ h => h) (Or.inl ⟨by rfl, ?hy5u4⟩) hHeld ?rest5u4
  case hy5u4 =>
    intro w' hS'
    obtain ⟨_, s1, _⟩ := hS'
    obtain ⟨k0, k1, k2⟩ := win_cells s1
    clear s1
    go_simp
    try with_reducible rfl
  simp only [List.setIfInBounds_toArray, List.set_cons_zero, List.set_cons_succ]
  refine take_op (i := 3) (d := 8) (v := .agg (roomC wd hg sv)) rfl rfl (by kernel_rfl) (by kernel_rfl) (by kernel_rfl) (fun _ _ _ h => h) (yields_row (by rfl) 33 (.tmp 2) (by rfl) w.heap.size 0 3 (by rfl) 33 (roomC wd hg sv) (0, 0) _ (fun _ h => h.1) Tryd.underlying33 rfl info_room (room_fits _ _ _) (roomC wd hg sv) (room_all _ _ _)) hHeld ?_
  simp only [List.setIfInBounds_toArray, List.set_cons_zero, List.set_cons_succ]
  refine wpAnyH_ready (rs := [2]) (by kernel_rfl) (by simp) ?_
  refine AllReadyH.cons rfl (fun K hK => ?_) AllReadyH.nil
  go_simp
  refine (Hwall.out _).mono ?_
  rintro e w' ⟨rfl, rfl⟩
  refine hK.out _ _ (hHeld) (fun hHeld2 => ?_)
  clear hK K
  replace hHeld := hHeld2
  clear hHeld2
  refine wpAnyH_ready (rs := [6]) (by kernel_rfl) (by simp) ?_
  refine AllReadyH.cons rfl (fun K hK => ?_) AllReadyH.nil
  go_simp
  refine (HT.out _).mono ?_
  rintro e W1 ⟨rfl, hb1⟩
  refine hK.out _ _ (⟨below_row hb1 hHeld.1, below_row hb1 hHeld.2.1, hHeld.2.2.1.imp (fun _ h => ⟨below_row hb1 h.1, h.2⟩), hHeld.2.2.2.trans (hb1.mono hHeld.2.2.2.size)⟩) (fun hHeld2 => ?_)
  clear hK K
  replace hHeld := hHeld2
  clear hHeld2
  obtain ⟨old, ho, hos⟩ := hHeld.2.2.1
  have hst := run_store_row (P := Tryd.prog) W1 (w.heap.size + 1 + 1) 48 (tileC (x.2.1) (hg - 1)) old ho (by rw [hos]; rfl) (tile_one _ _)
  have hsz : (tileC (x.2.1) (hg - 1)).size = 2 := rfl
  have HFin := Lib.hid (setRow_heap W1 (w.heap.size + 1 + 1) _ (tileC (x.2.1) (hg - 1)) _ _ ho)
  refine wpAnyH_ready (rs := [7]) (by kernel_rfl) (by simp) ?_
  refine AllReadyH.cons rfl (fun K hK => ?_) AllReadyH.nil
  go_simp
  refine hK.out _ _ ⟨by rw [setRow_other _ _ _ _ (by omega)]; exact hHeld.1, by rw [setRow_other _ _ _ _ (by omega)]; exact hHeld.2.1, ⟨_, HFin.out, rfl⟩, below_setRow hHeld.2.2.2 (by omega) _⟩ (fun hHeld2 => ?_)
  have hbz := hHeld2.2.2.2
  clear hK K hst hHeld hHeld2
  refine wpAnyH_done (by kernel_rfl) ?_ _
  go_wp2
  exact bodyPost_ret (v := .agg (tileC (x.2.1) (hg - 1))) (results_cell_row rfl _ _ _ _ _ _ _ rfl HFin.out Tryd.underlying48 rfl (by kernel_rfl)) rfl ⟨rfl, hbz⟩

set_option maxRecDepth 100000 in
set_option maxHeartbeats 1000000 in
theorem pl3_any (wd hg : Int) (sv : Value) (x : Wn) (hx : x.1 = 3) (hrb : RB wd hg) (w : World) :
    Calls Tryd.prog 58 #[.agg (roomC wd hg sv), .agg (winC x)] w fun e w' => e = .returned (.agg (tileC (0) (x.2.1))) ∧ Below w.heap.size w w' := by
  have Hwall := Lib.hid (fun w => wallOf_col x.1 (.inr hx) w)
  unfold colV at Hwall
  have mT := m_atC
  have HT := Lib.hid (fun w => atC0_any x.1 wd hg x.2.1 sv (by omega) hrb w)
  clear hx
  have HA := Lib.hid (three_at w (.cells (roomC wd hg sv) 33) (.cells (winC x) 68) (.cells (tileC 0 0) 48))
  go_enter Tryd.func58, Tryd.ntmps58
  go_wp2
  refine wp_region_held_drew (S := (fun W => W.heap[w.heap.size]? = some (.cells (roomC wd hg sv) 33 (0, 0)) ∧ W.heap[w.heap.size + 1]? = some (.cells (winC x) 68 (0, 0)) ∧ (∃ old : Array Value, W.heap[w.heap.size + 1 + 1]? = some (.cells old 48 (0, 0)) ∧ old.size = 2) ∧ Below w.heap.size w W)) (by kernel_rfl) ⟨HA.out.1, HA.out.2.1, ⟨_, HA.out.2.2.1, rfl⟩, HA.out.2.2.2.drew⟩ (fun hHeld => ?_)
  refine take_op (i := 0) (d := 5) (v := ?_) rfl rfl (by kernel_rfl) (by kernel_rfl) (by kernel_rfl) (fun _ _ _ h => h) (Or.inl ⟨by rfl, ?hy0u1⟩) hHeld ?rest0u1
  case hy0u1 =>
    intro w' hS'
    go_simp
    try with_reducible rfl
  simp only [List.setIfInBounds_toArray, List.set_cons_zero, List.set_cons_succ]
  refine take_op (i := 1) (d := 6) (v := ?_) rfl rfl (by kernel_rfl) (by kernel_rfl) (by kernel_rfl) (fun _ _ _ h => h) (Or.inl ⟨by rfl, ?hy1u2⟩) hHeld ?rest1u2
  case hy1u2 =>
    intro w' hS'
    obtain ⟨_, s1, _⟩ := hS'
    obtain ⟨k0, k1, k2⟩ := win_cells s1
    clear s1
    go_simp
    try with_reducible rfl
  simp only [List.setIfInBounds_toArray, List.set_cons_zero, List.set_cons_succ]
  refine take_op (i := 4) (d := 9) (v := ?_) rfl rfl (by kernel_rfl) (by kernel_rfl) (by kernel_rfl) (fun _ _ _ h => h) (Or.inl ⟨by rfl, ?hy4u3⟩) hHeld ?rest4u3
  case hy4u3 =>
    intro w' hS'
    go_simp
    try with_reducible rfl
  simp only [List.setIfInBounds_toArray, List.set_cons_zero, List.set_cons_succ]
  refine take_op (i := 5) (d := 10) (v := ?_) rfl rfl (by kernel_rfl) (by kernel_rfl) (by kernel_rfl) (fun _ _ _ h => h) (Or.inl ⟨by rfl, ?hy5u4⟩) hHeld ?rest5u4
  case hy5u4 =>
    intro w' hS'
    obtain ⟨_, s1, _⟩ := hS'
    obtain ⟨k0, k1, k2⟩ := win_cells s1
    clear s1
    go_simp
    try with_reducible rfl
  simp only [List.setIfInBounds_toArray, List.set_cons_zero, List.set_cons_succ]
  refine take_op (i := 3) (d := 8) (v := .agg (roomC wd hg sv)) rfl rfl (by kernel_rfl) (by kernel_rfl) (by kernel_rfl) (fun _ _ _ h => h) (yields_row (by rfl) 33 (.tmp 2) (by rfl) w.heap.size 0 3 (by rfl) 33 (roomC wd hg sv) (0, 0) _ (fun _ h => h.1) Tryd.underlying33 rfl info_room (room_fits _ _ _) (roomC wd hg sv) (room_all _ _ _)) hHeld ?_
  simp only [List.setIfInBounds_toArray, List.set_cons_zero, List.set_cons_succ]
  refine wpAnyH_ready (rs := [2]) (by kernel_rfl) (by simp) ?_
  refine AllReadyH.cons rfl (fun K hK => ?_) AllReadyH.nil
  go_simp
  refine (Hwall.out _).mono ?_
  rintro e w' ⟨rfl, rfl⟩
  refine hK.out _ _ (hHeld) (fun hHeld2 => ?_)
  clear hK K
  replace hHeld := hHeld2
  clear hHeld2
  refine wpAnyH_ready (rs := [6]) (by kernel_rfl) (by simp) ?_
  refine AllReadyH.cons rfl (fun K hK => ?_) AllReadyH.nil
  go_simp
  refine (HT.out _).mono ?_
  rintro e W1 ⟨rfl, hb1⟩
  refine hK.out _ _ (⟨below_row hb1 hHeld.1, below_row hb1 hHeld.2.1, hHeld.2.2.1.imp (fun _ h => ⟨below_row hb1 h.1, h.2⟩), hHeld.2.2.2.trans (hb1.mono hHeld.2.2.2.size)⟩) (fun hHeld2 => ?_)
  clear hK K
  replace hHeld := hHeld2
  clear hHeld2
  obtain ⟨old, ho, hos⟩ := hHeld.2.2.1
  have hst := run_store_row (P := Tryd.prog) W1 (w.heap.size + 1 + 1) 48 (tileC (0) (x.2.1)) old ho (by rw [hos]; rfl) (tile_one _ _)
  have hsz : (tileC (0) (x.2.1)).size = 2 := rfl
  have HFin := Lib.hid (setRow_heap W1 (w.heap.size + 1 + 1) _ (tileC (0) (x.2.1)) _ _ ho)
  refine wpAnyH_ready (rs := [7]) (by kernel_rfl) (by simp) ?_
  refine AllReadyH.cons rfl (fun K hK => ?_) AllReadyH.nil
  go_simp
  refine hK.out _ _ ⟨by rw [setRow_other _ _ _ _ (by omega)]; exact hHeld.1, by rw [setRow_other _ _ _ _ (by omega)]; exact hHeld.2.1, ⟨_, HFin.out, rfl⟩, below_setRow hHeld.2.2.2 (by omega) _⟩ (fun hHeld2 => ?_)
  have hbz := hHeld2.2.2.2
  clear hK K hst hHeld hHeld2
  refine wpAnyH_done (by kernel_rfl) ?_ _
  go_wp2
  exact bodyPost_ret (v := .agg (tileC (0) (x.2.1))) (results_cell_row rfl _ _ _ _ _ _ _ rfl HFin.out Tryd.underlying48 rfl (by kernel_rfl)) rfl ⟨rfl, hbz⟩

end Go.Proofs.YtddnfbpgldchcaaDoor
