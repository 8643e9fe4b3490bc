/-
  Who looks where; the glare of a desk: the program's contracts.
-/
import Derived.Test.YtckkemknajggpaaGreatDoorDeskA
import Derived.Test.YtckkemknajggpaaGreatDoorLightF
import Derived.Laws.StructEq
import Derived.Laws.EntriesVeiled
import Derived.Shelf.Abstract
namespace Go.Proofs.YtckkemknajggpaaGreatDoor
open Go.RowKit

attribute [local go_sem] run_store_f

/-- Does a tile lie ahead of one who looks from another tile to a wall? -/
def ahB (l fx fy tx ty : Int) : Bool := if l = 0 then decide (ty < fy) else if l = 1 then decide (fx < tx) else if l = 2 then decide (fy < ty) else decide (tx < fx)
/-- Does a window at a tile glare at a desk? -/
def glB (a1 a2 a3 wl p q : Int) : Bool := if p = a1 ∧ q = a2 then wl == a3 else ahB a3 a1 a2 p q
theorem ahB_self (l x y : Int) : ahB l x y x y = false := by
  unfold ahB
  split <;> (try split) <;> (try split) <;> simp
theorem glB_or (a1 a2 a3 wl p q : Int) : glB a1 a2 a3 wl p q = (ahB a3 a1 a2 p q || ((p == a1 && q == a2) && wl == a3)) := by
  unfold glB
  by_cases h : p = a1 ∧ q = a2
  · obtain ⟨rfl, rfl⟩ := h
    simp [ahB_self]
  · have e : (p == a1 && q == a2) = false := by
      rw [Bool.and_eq_false_iff]
      by_cases h1 : p = a1
      · exact .inr (by simpa using fun h2 => h ⟨h1, h2⟩)
      · exact .inl (by simpa using h1)
    rw [if_neg h, e]; simp

set_option maxRecDepth 100000 in
set_option maxHeartbeats 1000000 in
theorem rowAhead0_any (n fx fy tx ty : Int) (hn : n = 0) (w : World) :
    Calls Tryz.prog 118 #[.int .i8 n, .agg (tileC fx fy), .agg (tileC tx ty)] w fun e w' => e = .returned (.bool (decide (ty < fy))) ∧ Below w.heap.size w w' := by
  have hd : (n == 0) = true := by simp [hn]
  clear hn
  go_enter Tryz.func118, Tryz.ntmps118
  go_upto_region 1 with (fail)
  refine abs_world (fun W => W.heap[w.heap.size]? = some (.cells (tileC fx fy) 63 (0, 0)) ∧ W.heap[w.heap.size + 1]? = some (.cells (tileC tx ty) 63 (0, 0)) ∧ Below w.heap.size w W) (box2 w (.cells (tileC fx fy) 63) (.cells (tileC tx ty) 63)) ?_
  rintro W ⟨h0, h1, hb⟩
  generalize w.heap.size + 1 = b1 at *
  have H0 := Lib.hid h0
  have H1 := Lib.hid h1
  obtain ⟨c0, c1⟩ := tile_cells h0
  obtain ⟨d0, d1⟩ := tile_cells h1
  clear h0 h1
  clear H0 H1
  go_wp2
  go_ret
  exact ⟨rfl, hb⟩

set_option maxRecDepth 100000 in
set_option maxHeartbeats 1000000 in
theorem rowAhead1_any (n fx fy tx ty : Int) (hn : n ≠ 0) (w : World) :
    Calls Tryz.prog 118 #[.int .i8 n, .agg (tileC fx fy), .agg (tileC tx ty)] w fun e w' => e = .returned (.bool (decide (fy < ty))) ∧ Below w.heap.size w w' := by
  have hd : (n == 0) = false := by simp [hn]
  clear hn
  go_enter Tryz.func118, Tryz.ntmps118
  go_upto_region 1 with (fail)
  refine abs_world (fun W => W.heap[w.heap.size]? = some (.cells (tileC fx fy) 63 (0, 0)) ∧ W.heap[w.heap.size + 1]? = some (.cells (tileC tx ty) 63 (0, 0)) ∧ Below w.heap.size w W) (box2 w (.cells (tileC fx fy) 63) (.cells (tileC tx ty) 63)) ?_
  rintro W ⟨h0, h1, hb⟩
  generalize w.heap.size + 1 = b1 at *
  have H0 := Lib.hid h0
  have H1 := Lib.hid h1
  obtain ⟨c0, c1⟩ := tile_cells h0
  obtain ⟨d0, d1⟩ := tile_cells h1
  clear h0 h1
  clear H0 H1
  go_wp2
  go_ret
  exact ⟨rfl, hb⟩

set_option maxRecDepth 100000 in
set_option maxHeartbeats 1000000 in
theorem colAhead0_any (n fx fy tx ty : Int) (hn : n = 3) (w : World) :
    Calls Tryz.prog 121 #[.int .i8 n, .agg (tileC fx fy), .agg (tileC tx ty)] w fun e w' => e = .returned (.bool (decide (tx < fx))) ∧ Below w.heap.size w w' := by
  have hd : (n == 3) = true := by simp [hn]
  clear hn
  go_enter Tryz.func121, Tryz.ntmps121
  go_upto_region 1 with (fail)
  refine abs_world (fun W => W.heap[w.heap.size]? = some (.cells (tileC fx fy) 63 (0, 0)) ∧ W.heap[w.heap.size + 1]? = some (.cells (tileC tx ty) 63 (0, 0)) ∧ Below w.heap.size w W) (box2 w (.cells (tileC fx fy) 63) (.cells (tileC tx ty) 63)) ?_
  rintro W ⟨h0, h1, hb⟩
  generalize w.heap.size + 1 = b1 at *
  have H0 := Lib.hid h0
  have H1 := Lib.hid h1
  obtain ⟨c0, c1⟩ := tile_cells h0
  obtain ⟨d0, d1⟩ := tile_cells h1
  clear h0 h1
  clear H0 H1
  go_wp2
  go_ret
  exact ⟨rfl, hb⟩

set_option maxRecDepth 100000 in
set_option maxHeartbeats 1000000 in
theorem colAhead1_any (n fx fy tx ty : Int) (hn : n ≠ 3) (w : World) :
    Calls Tryz.prog 121 #[.int .i8 n, .agg (tileC fx fy), .agg (tileC tx ty)] w fun e w' => e = .returned (.bool (decide (fx < tx))) ∧ Below w.heap.size w w' := by
  have hd : (n == 3) = false := by simp [hn]
  clear hn
  go_enter Tryz.func121, Tryz.ntmps121
  go_upto_region 1 with (fail)
  refine abs_world (fun W => W.heap[w.heap.size]? = some (.cells (tileC fx fy) 63 (0, 0)) ∧ W.heap[w.heap.size + 1]? = some (.cells (tileC tx ty) 63 (0, 0)) ∧ Below w.heap.size w W) (box2 w (.cells (tileC fx fy) 63) (.cells (tileC tx ty) 63)) ?_
  rintro W ⟨h0, h1, hb⟩
  generalize w.heap.size + 1 = b1 at *
  have H0 := Lib.hid h0
  have H1 := Lib.hid h1
  obtain ⟨c0, c1⟩ := tile_cells h0
  obtain ⟨d0, d1⟩ := tile_cells h1
  clear h0 h1
  clear H0 H1
  go_wp2
  go_ret
  exact ⟨rfl, hb⟩

theorem m_ahR (n : Nat) (v : Value) (w : World) : (Go.method (n + 1) 156 v "loop.example/g01367/impl.isAhead").run Tryz.prog w = .ok (118, v) w := by kernel_rfl
theorem m_ahC (n : Nat) (v : Value) (w : World) : (Go.method (n + 1) 157 v "loop.example/g01367/impl.isAhead").run Tryz.prog w = .ok (121, v) w := by kernel_rfl
/-- The wall to which a desk is faced. -/
def wallV (l : Int) : Value := if l = 0 ∨ l = 2 then rowV l else colV l
theorem stood_tile : Tryz.prog.stoodInHeld 63 = false := by kernel_rfl
theorem fields_tile : Tryz.prog.underlying 63 = some (.struct (Tryz.prog.fieldsOf 63)) := by kernel_rfl
set_option maxRecDepth 100000 in
theorem run_eql_tile (x1 y1 x2 y2 : Int) (w : World) : (Op.equalIn 10000 63 (.agg (tileC x1 y1)) (.agg (tileC x2 y2))).run Tryz.prog w = .ok (x1 == x2 && y1 == y2) w := by
  rw [run_equalIn_agg w 9999 63 _ _ fields_tile stood_tile]
  have hf : (Tryz.prog.fieldsOf 63).toList.map (fun f => (f.name, f.type, f.offset)) = [("X", 22, 0), ("Y", 22, 1)] := by kernel_rfl
  generalize (Tryz.prog.fieldsOf 63).toList = fs at hf
  have hlen : fs.length = 2 := by simpa using congrArg List.length hf
  have a8 : ∀ w, (isAgg 22).run Tryz.prog w = .ok false w := fun w => by kernel_rfl
  have p0 : ∀ x y w, (part 22 (tileC x y) 0).run Tryz.prog w = .ok (.int .i8 x) w := fun x y w => by
    unfold part; rw [Sem.run_bind, a8]; rfl
  have p1 : ∀ x y w, (part 22 (tileC x y) 1).run Tryz.prog w = .ok (.int .i8 y) w := fun x y w => by
    unfold part; rw [Sem.run_bind, a8]; rfl
  match fs, hlen, hf with
  | [f0, f1], _, hf =>
    simp only [List.map_cons, List.map_nil, List.cons.injEq, Prod.mk.injEq, and_true] at hf
    obtain ⟨⟨n0, ty0, o0⟩, n1, ty1, o1⟩ := hf
    simp only [Op.eqFields, n0, n1, ty0, ty1, o0, o1]
    rw [if_pos (by decide), if_pos (by decide)]
    simp only [Sem.run_bind, p0, p1, Result.andThen_ok, run_equalIn_int _ 9998 22 .i8 .i8 _ _ Tryz.underlying22, Sem.run_ite]
    cases x1 == x2 <;> cases y1 == y2 <;> rfl

set_option maxRecDepth 100000 in
set_option maxHeartbeats 1000000 in
theorem glf0_true (x : Wn) (p q a1 a2 a3 : Int) (ha : a3 = 0) (hv : decide (q < a2) = true) (fb db : Nat) (w : World) (hf : w.heap[fb]? = some (.cells #[rowV a3] 135 (0, 0))) (hd : w.heap[db]? = some (.cells (deskC a1 a2 a3) 65 (0, 0))) :
    Calls Tryz.prog 84 #[.agg (winC x), .agg (tileC p q), .pointer (some ⟨fb, 0, none⟩), .pointer (some ⟨db, 0, none⟩)] w fun e w' => e = .returned (.bool (true)) ∧ Below w.heap.size w w' := by
  have HA := Lib.hid (fun w => rowAhead0_any a3 a1 a2 p q (by omega) w)
  rw [hv] at HA
  unfold rowV at hf
  have mR := m_ahR
  have hq := run_eql_tile p q a1 a2
  have hgd := fun w => run_eqGuard_agg (P := Tryz.prog) w .eql 63 (.tmp 13) (.tmp 15) (tileC p q) (tileC a1 a2) (by kernel_rfl)
  have cf : w.cell? ⟨fb, 0, none⟩ = some (.iface 156 (.int .i8 a3)) := by rw [cell_of_row w _ _ _ _ _ hf]; rfl
  obtain ⟨_, _, cl⟩ := desk_cells hd
  have HD := Lib.hid hd
  clear hv ha hf hd hq hgd
  go_enter Tryz.func84, Tryz.ntmps84
  go_upto_region 1 with (fail)
  refine abs_world (fun W => W.heap[w.heap.size]? = some (.cells (winC x) 91 (0, 0)) ∧ W.heap[w.heap.size + 1]? = some (.cells (tileC p q) 63 (0, 0)) ∧ Below w.heap.size w W) (box2 w (.cells (winC x) 91) (.cells (tileC p q) 63)) ?_
  rintro W ⟨h0, h1, hb⟩
  generalize w.heap.size + 1 = b1 at *
  have H0 := Lib.hid h0
  have H1 := Lib.hid h1
  obtain ⟨cw, _, _⟩ := win_cells h0
  replace HD := Lib.hid (below_row hb HD.out)
  replace cf := cell_belowB hb cf
  replace cl := cell_belowB hb cl
  clear h0 h1
  go_wp2_with (first | (refine wpList_load_part rfl 91 _ rfl w.heap.size 0 3 rfl 91 (winC x) (0, 0) _ H0.out Tryz.underlying91 rfl info_win (win_fits _) _ (win_all _) ?_) | (refine wpList_load_part rfl 63 _ rfl b1 0 2 rfl 63 (tileC p q) (0, 0) _ H1.out Tryz.underlying63 rfl info_tile (tile_fits _ _) _ (tile_all _ _) ?_) | (refine wpList_load_part rfl 65 _ rfl db 0 3 rfl 65 (deskC a1 a2 a3) (0, 0) _ HD.out Tryz.underlying65 rfl info_desk (desk_fits _ _ _) _ (desk_all _ _ _) ?_) | (refine wpList_load_part rfl 63 _ rfl db 0 2 rfl 65 (deskC a1 a2 a3) (0, 0) _ HD.out Tryz.underlying63 rfl info_tile (desk_fits2 _ _ _) _ (desk_tile _ _ _) ?_) | (go_at_call 118; refine (HA.out _).mono ?_; rintro e W1 ⟨rfl, hb1⟩; replace H0 := Lib.hid (below_row hb1 H0.out); replace H1 := Lib.hid (below_row hb1 H1.out); replace HD := Lib.hid (below_row hb1 HD.out); replace cf := cell_belowB hb1 cf; replace cl := cell_belowB hb1 cl; replace cw := cell_belowB hb1 cw; replace hb := hb.trans (hb1.mono hb.size); clear hb1; go_wp2))
  go_ret
  exact ⟨rfl, hb⟩

set_option maxRecDepth 100000 in
set_option maxHeartbeats 1000000 in
theorem glf0_false (x : Wn) (p q a1 a2 a3 : Int) (ha : a3 = 0) (hv : decide (q < a2) = false) (fb db : Nat) (w : World) (hf : w.heap[fb]? = some (.cells #[rowV a3] 135 (0, 0))) (hd : w.heap[db]? = some (.cells (deskC a1 a2 a3) 65 (0, 0))) :
    Calls Tryz.prog 84 #[.agg (winC x), .agg (tileC p q), .pointer (some ⟨fb, 0, none⟩), .pointer (some ⟨db, 0, none⟩)] w fun e w' => e = .returned (.bool ((p == a1 && q == a2) && x.1 == a3)) ∧ Below w.heap.size w w' := by
  have HA := Lib.hid (fun w => rowAhead0_any a3 a1 a2 p q (by omega) w)
  rw [hv] at HA
  unfold rowV at hf
  have mR := m_ahR
  have hq := run_eql_tile p q a1 a2
  have hgd := fun w => run_eqGuard_agg (P := Tryz.prog) w .eql 63 (.tmp 13) (.tmp 15) (tileC p q) (tileC a1 a2) (by kernel_rfl)
  have cf : w.cell? ⟨fb, 0, none⟩ = some (.iface 156 (.int .i8 a3)) := by rw [cell_of_row w _ _ _ _ _ hf]; rfl
  obtain ⟨_, _, cl⟩ := desk_cells hd
  have HD := Lib.hid hd
  cases he : (p == a1 && q == a2)
  all_goals
    clear hv ha hf hd
    go_enter Tryz.func84, Tryz.ntmps84
    go_upto_region 1 with (fail)
    refine abs_world (fun W => W.heap[w.heap.size]? = some (.cells (winC x) 91 (0, 0)) ∧ W.heap[w.heap.size + 1]? = some (.cells (tileC p q) 63 (0, 0)) ∧ Below w.heap.size w W) (box2 w (.cells (winC x) 91) (.cells (tileC p q) 63)) ?_
    rintro W ⟨h0, h1, hb⟩
    generalize w.heap.size + 1 = b1 at *
    have H0 := Lib.hid h0
    have H1 := Lib.hid h1
    obtain ⟨cw, _, _⟩ := win_cells h0
    replace HD := Lib.hid (below_row hb HD.out)
    replace cf := cell_belowB hb cf
    replace cl := cell_belowB hb cl
    clear h0 h1
    go_wp2_with (first | (refine wpList_load_partG 91 _ rfl w.heap.size 0 3 rfl rfl 91 (winC x) (0, 0) _ H0.out Tryz.underlying91 rfl info_win (win_fits _) _ (win_all _) ?_) | (refine wpList_load_partG 63 _ rfl b1 0 2 rfl rfl 63 (tileC p q) (0, 0) _ H1.out Tryz.underlying63 rfl info_tile (tile_fits _ _) _ (tile_all _ _) ?_) | (refine wpList_load_partG 65 _ rfl db 0 3 rfl rfl 65 (deskC a1 a2 a3) (0, 0) _ HD.out Tryz.underlying65 rfl info_desk (desk_fits _ _ _) _ (desk_all _ _ _) ?_) | (refine wpList_load_partG 63 _ rfl db 0 2 rfl rfl 65 (deskC a1 a2 a3) (0, 0) _ HD.out Tryz.underlying63 rfl info_tile (desk_fits2 _ _ _) _ (desk_tile _ _ _) ?_) | (go_at_call 118; refine (HA.out _).mono ?_; rintro e W1 ⟨rfl, hb1⟩; replace H0 := Lib.hid (below_row hb1 H0.out); replace H1 := Lib.hid (below_row hb1 H1.out); replace HD := Lib.hid (below_row hb1 HD.out); replace cf := cell_belowB hb1 cf; replace cl := cell_belowB hb1 cl; replace cw := cell_belowB hb1 cw; replace hb := hb.trans (hb1.mono hb.size); clear hb1))
    go_ret
    exact ⟨rfl, hb⟩

set_option maxRecDepth 100000 in
set_option maxHeartbeats 1000000 in
theorem glf1_true (x : Wn) (p q a1 a2 a3 : Int) (ha : a3 = 1) (hv : decide (a1 < p) = true) (fb db : Nat) (w : World) (hf : w.heap[fb]? = some (.cells #[colV a3] 135 (0, 0))) (hd : w.heap[db]? = some (.cells (deskC a1 a2 a3) 65 (0, 0))) :
    Calls Tryz.prog 84 #[.agg (winC x), .agg (tileC p q), .pointer (some ⟨fb, 0, none⟩), .pointer (some ⟨db, 0, none⟩)] w fun e w' => e = .returned (.bool (true)) ∧ Below w.heap.size w w' := by
  have HA := Lib.hid (fun w => colAhead1_any a3 a1 a2 p q (by omega) w)
  rw [hv] at HA
  unfold colV at hf
  have mR := m_ahC
  have hq := run_eql_tile p q a1 a2
  have hgd := fun w => run_eqGuard_agg (P := Tryz.prog) w .eql 63 (.tmp 13) (.tmp 15) (tileC p q) (tileC a1 a2) (by kernel_rfl)
  have cf : w.cell? ⟨fb, 0, none⟩ = some (.iface 157 (.int .i8 a3)) := by rw [cell_of_row w _ _ _ _ _ hf]; rfl
  obtain ⟨_, _, cl⟩ := desk_cells hd
  have HD := Lib.hid hd
  clear hv ha hf hd hq hgd
  go_enter Tryz.func84, Tryz.ntmps84
  go_upto_region 1 with (fail)
  refine abs_world (fun W => W.heap[w.heap.size]? = some (.cells (winC x) 91 (0, 0)) ∧ W.heap[w.heap.size + 1]? = some (.cells (tileC p q) 63 (0, 0)) ∧ Below w.heap.size w W) (box2 w (.cells (winC x) 91) (.cells (tileC p q) 63)) ?_
  rintro W ⟨h0, h1, hb⟩
  generalize w.heap.size + 1 = b1 at *
  have H0 := Lib.hid h0
  have H1 := Lib.hid h1
  obtain ⟨cw, _, _⟩ := win_cells h0
  replace HD := Lib.hid (below_row hb HD.out)
  replace cf := cell_belowB hb cf
  replace cl := cell_belowB hb cl
  clear h0 h1
  go_wp2_with (first | (refine wpList_load_part rfl 91 _ rfl w.heap.size 0 3 rfl 91 (winC x) (0, 0) _ H0.out Tryz.underlying91 rfl info_win (win_fits _) _ (win_all _) ?_) | (refine wpList_load_part rfl 63 _ rfl b1 0 2 rfl 63 (tileC p q) (0, 0) _ H1.out Tryz.underlying63 rfl info_tile (tile_fits _ _) _ (tile_all _ _) ?_) | (refine wpList_load_part rfl 65 _ rfl db 0 3 rfl 65 (deskC a1 a2 a3) (0, 0) _ HD.out Tryz.underlying65 rfl info_desk (desk_fits _ _ _) _ (desk_all _ _ _) ?_) | (refine wpList_load_part rfl 63 _ rfl db 0 2 rfl 65 (deskC a1 a2 a3) (0, 0) _ HD.out Tryz.underlying63 rfl info_tile (desk_fits2 _ _ _) _ (desk_tile _ _ _) ?_) | (go_at_call 121; refine (HA.out _).mono ?_; rintro e W1 ⟨rfl, hb1⟩; replace H0 := Lib.hid (below_row hb1 H0.out); replace H1 := Lib.hid (below_row hb1 H1.out); replace HD := Lib.hid (below_row hb1 HD.out); replace cf := cell_belowB hb1 cf; replace cl := cell_belowB hb1 cl; replace cw := cell_belowB hb1 cw; replace hb := hb.trans (hb1.mono hb.size); clear hb1; go_wp2))
  go_ret
  exact ⟨rfl, hb⟩

set_option maxRecDepth 100000 in
set_option maxHeartbeats 1000000 in
theorem glf1_false (x : Wn) (p q a1 a2 a3 : Int) (ha : a3 = 1) (hv : decide (a1 < p) = false) (fb db : Nat) (w : World) (hf : w.heap[fb]? = some (.cells #[colV a3] 135 (0, 0))) (hd : w.heap[db]? = some (.cells (deskC a1 a2 a3) 65 (0, 0))) :
    Calls Tryz.prog 84 #[.agg (winC x), .agg (tileC p q), .pointer (some ⟨fb, 0, none⟩), .pointer (some ⟨db, 0, none⟩)] w fun e w' => e = .returned (.bool ((p == a1 && q == a2) && x.1 == a3)) ∧ Below w.heap.size w w' := by
  have HA := Lib.hid (fun w => colAhead1_any a3 a1 a2 p q (by omega) w)
  rw [hv] at HA
  unfold colV at hf
  have mR := m_ahC
  have hq := run_eql_tile p q a1 a2
  have hgd := fun w => run_eqGuard_agg (P := Tryz.prog) w .eql 63 (.tmp 13) (.tmp 15) (tileC p q) (tileC a1 a2) (by kernel_rfl)
  have cf : w.cell? ⟨fb, 0, none⟩ = some (.iface 157 (.int .i8 a3)) := by rw [cell_of_row w _ _ _ _ _ hf]; rfl
  obtain ⟨_, _, cl⟩ := desk_cells hd
  have HD := Lib.hid hd
  cases he : (p == a1 && q == a2)
  all_goals
    clear hv ha hf hd
    go_enter Tryz.func84, Tryz.ntmps84
    go_upto_region 1 with (fail)
    refine abs_world (fun W => W.heap[w.heap.size]? = some (.cells (winC x) 91 (0, 0)) ∧ W.heap[w.heap.size + 1]? = some (.cells (tileC p q) 63 (0, 0)) ∧ Below w.heap.size w W) (box2 w (.cells (winC x) 91) (.cells (tileC p q) 63)) ?_
    rintro W ⟨h0, h1, hb⟩
    generalize w.heap.size + 1 = b1 at *
    have H0 := Lib.hid h0
    have H1 := Lib.hid h1
    obtain ⟨cw, _, _⟩ := win_cells h0
    replace HD := Lib.hid (below_row hb HD.out)
    replace cf := cell_belowB hb cf
    replace cl := cell_belowB hb cl
    clear h0 h1
    go_wp2_with (first | (refine wpList_load_partG 91 _ rfl w.heap.size 0 3 rfl rfl 91 (winC x) (0, 0) _ H0.out Tryz.underlying91 rfl info_win (win_fits _) _ (win_all _) ?_) | (refine wpList_load_partG 63 _ rfl b1 0 2 rfl rfl 63 (tileC p q) (0, 0) _ H1.out Tryz.underlying63 rfl info_tile (tile_fits _ _) _ (tile_all _ _) ?_) | (refine wpList_load_partG 65 _ rfl db 0 3 rfl rfl 65 (deskC a1 a2 a3) (0, 0) _ HD.out Tryz.underlying65 rfl info_desk (desk_fits _ _ _) _ (desk_all _ _ _) ?_) | (refine wpList_load_partG 63 _ rfl db 0 2 rfl rfl 65 (deskC a1 a2 a3) (0, 0) _ HD.out Tryz.underlying63 rfl info_tile (desk_fits2 _ _ _) _ (desk_tile _ _ _) ?_) | (go_at_call 121; refine (HA.out _).mono ?_; rintro e W1 ⟨rfl, hb1⟩; replace H0 := Lib.hid (below_row hb1 H0.out); replace H1 := Lib.hid (below_row hb1 H1.out); replace HD := Lib.hid (below_row hb1 HD.out); replace cf := cell_belowB hb1 cf; replace cl := cell_belowB hb1 cl; replace cw := cell_belowB hb1 cw; replace hb := hb.trans (hb1.mono hb.size); clear hb1))
    go_ret
    exact ⟨rfl, hb⟩

set_option maxRecDepth 100000 in
set_option maxHeartbeats 1000000 in
theorem glf2_true (x : Wn) (p q a1 a2 a3 : Int) (ha : a3 = 2) (hv : decide (a2 < q) = true) (fb db : Nat) (w : World) (hf : w.heap[fb]? = some (.cells #[rowV a3] 135 (0, 0))) (hd : w.heap[db]? = some (.cells (deskC a1 a2 a3) 65 (0, 0))) :
    Calls Tryz.prog 84 #[.agg (winC x), .agg (tileC p q), .pointer (some ⟨fb, 0, none⟩), .pointer (some ⟨db, 0, none⟩)] w fun e w' => e = .returned (.bool (true)) ∧ Below w.heap.size w w' := by
  have HA := Lib.hid (fun w => rowAhead1_any a3 a1 a2 p q (by omega) w)
  rw [hv] at HA
  unfold rowV at hf
  have mR := m_ahR
  have hq := run_eql_tile p q a1 a2
  have hgd := fun w => run_eqGuard_agg (P := Tryz.prog) w .eql 63 (.tmp 13) (.tmp 15) (tileC p q) (tileC a1 a2) (by kernel_rfl)
  have cf : w.cell? ⟨fb, 0, none⟩ = some (.iface 156 (.int .i8 a3)) := by rw [cell_of_row w _ _ _ _ _ hf]; rfl
  obtain ⟨_, _, cl⟩ := desk_cells hd
  have HD := Lib.hid hd
  clear hv ha hf hd hq hgd
  go_enter Tryz.func84, Tryz.ntmps84
  go_upto_region 1 with (fail)
  refine abs_world (fun W => W.heap[w.heap.size]? = some (.cells (winC x) 91 (0, 0)) ∧ W.heap[w.heap.size + 1]? = some (.cells (tileC p q) 63 (0, 0)) ∧ Below w.heap.size w W) (box2 w (.cells (winC x) 91) (.cells (tileC p q) 63)) ?_
  rintro W ⟨h0, h1, hb⟩
  generalize w.heap.size + 1 = b1 at *
  have H0 := Lib.hid h0
  have H1 := Lib.hid h1
  obtain ⟨cw, _, _⟩ := win_cells h0
  replace HD := Lib.hid (below_row hb HD.out)
  replace cf := cell_belowB hb cf
  replace cl := cell_belowB hb cl
  clear h0 h1
  go_wp2_with (first | (refine wpList_load_part rfl 91 _ rfl w.heap.size 0 3 rfl 91 (winC x) (0, 0) _ H0.out Tryz.underlying91 rfl info_win (win_fits _) _ (win_all _) ?_) | (refine wpList_load_part rfl 63 _ rfl b1 0 2 rfl 63 (tileC p q) (0, 0) _ H1.out Tryz.underlying63 rfl info_tile (tile_fits _ _) _ (tile_all _ _) ?_) | (refine wpList_load_part rfl 65 _ rfl db 0 3 rfl 65 (deskC a1 a2 a3) (0, 0) _ HD.out Tryz.underlying65 rfl info_desk (desk_fits _ _ _) _ (desk_all _ _ _) ?_) | (refine wpList_load_part rfl 63 _ rfl db 0 2 rfl 65 (deskC a1 a2 a3) (0, 0) _ HD.out Tryz.underlying63 rfl info_tile (desk_fits2 _ _ _) _ (desk_tile _ _ _) ?_) | (go_at_call 118; refine (HA.out _).mono ?_; rintro e W1 ⟨rfl, hb1⟩; replace H0 := Lib.hid (below_row hb1 H0.out); replace H1 := Lib.hid (below_row hb1 H1.out); replace HD := Lib.hid (below_row hb1 HD.out); replace cf := cell_belowB hb1 cf; replace cl := cell_belowB hb1 cl; replace cw := cell_belowB hb1 cw; replace hb := hb.trans (hb1.mono hb.size); clear hb1; go_wp2))
  go_ret
  exact ⟨rfl, hb⟩

set_option maxRecDepth 100000 in
set_option maxHeartbeats 1000000 in
theorem glf2_false (x : Wn) (p q a1 a2 a3 : Int) (ha : a3 = 2) (hv : decide (a2 < q) = false) (fb db : Nat) (w : World) (hf : w.heap[fb]? = some (.cells #[rowV a3] 135 (0, 0))) (hd : w.heap[db]? = some (.cells (deskC a1 a2 a3) 65 (0, 0))) :
    Calls Tryz.prog 84 #[.agg (winC x), .agg (tileC p q), .pointer (some ⟨fb, 0, none⟩), .pointer (some ⟨db, 0, none⟩)] w fun e w' => e = .returned (.bool ((p == a1 && q == a2) && x.1 == a3)) ∧ Below w.heap.size w w' := by
  have HA := Lib.hid (fun w => rowAhead1_any a3 a1 a2 p q (by omega) w)
  rw [hv] at HA
  unfold rowV at hf
  have mR := m_ahR
  have hq := run_eql_tile p q a1 a2
  have hgd := fun w => run_eqGuard_agg (P := Tryz.prog) w .eql 63 (.tmp 13) (.tmp 15) (tileC p q) (tileC a1 a2) (by kernel_rfl)
  have cf : w.cell? ⟨fb, 0, none⟩ = some (.iface 156 (.int .i8 a3)) := by rw [cell_of_row w _ _ _ _ _ hf]; rfl
  obtain ⟨_, _, cl⟩ := desk_cells hd
  have HD := Lib.hid hd
  cases he : (p == a1 && q == a2)
  all_goals
    clear hv ha hf hd
    go_enter Tryz.func84, Tryz.ntmps84
    go_upto_region 1 with (fail)
    refine abs_world (fun W => W.heap[w.heap.size]? = some (.cells (winC x) 91 (0, 0)) ∧ W.heap[w.heap.size + 1]? = some (.cells (tileC p q) 63 (0, 0)) ∧ Below w.heap.size w W) (box2 w (.cells (winC x) 91) (.cells (tileC p q) 63)) ?_
    rintro W ⟨h0, h1, hb⟩
    generalize w.heap.size + 1 = b1 at *
    have H0 := Lib.hid h0
    have H1 := Lib.hid h1
    obtain ⟨cw, _, _⟩ := win_cells h0
    replace HD := Lib.hid (below_row hb HD.out)
    replace cf := cell_belowB hb cf
    replace cl := cell_belowB hb cl
    clear h0 h1
    go_wp2_with (first | (refine wpList_load_partG 91 _ rfl w.heap.size 0 3 rfl rfl 91 (winC x) (0, 0) _ H0.out Tryz.underlying91 rfl info_win (win_fits _) _ (win_all _) ?_) | (refine wpList_load_partG 63 _ rfl b1 0 2 rfl rfl 63 (tileC p q) (0, 0) _ H1.out Tryz.underlying63 rfl info_tile (tile_fits _ _) _ (tile_all _ _) ?_) | (refine wpList_load_partG 65 _ rfl db 0 3 rfl rfl 65 (deskC a1 a2 a3) (0, 0) _ HD.out Tryz.underlying65 rfl info_desk (desk_fits _ _ _) _ (desk_all _ _ _) ?_) | (refine wpList_load_partG 63 _ rfl db 0 2 rfl rfl 65 (deskC a1 a2 a3) (0, 0) _ HD.out Tryz.underlying63 rfl info_tile (desk_fits2 _ _ _) _ (desk_tile _ _ _) ?_) | (go_at_call 118; refine (HA.out _).mono ?_; rintro e W1 ⟨rfl, hb1⟩; replace H0 := Lib.hid (below_row hb1 H0.out); replace H1 := Lib.hid (below_row hb1 H1.out); replace HD := Lib.hid (below_row hb1 HD.out); replace cf := cell_belowB hb1 cf; replace cl := cell_belowB hb1 cl; replace cw := cell_belowB hb1 cw; replace hb := hb.trans (hb1.mono hb.size); clear hb1))
    go_ret
    exact ⟨rfl, hb⟩

set_option maxRecDepth 100000 in
set_option maxHeartbeats 1000000 in
theorem glf3_true (x : Wn) (p q a1 a2 a3 : Int) (ha : a3 = 3) (hv : decide (p < a1) = true) (fb db : Nat) (w : World) (hf : w.heap[fb]? = some (.cells #[colV a3] 135 (0, 0))) (hd : w.heap[db]? = some (.cells (deskC a1 a2 a3) 65 (0, 0))) :
    Calls Tryz.prog 84 #[.agg (winC x), .agg (tileC p q), .pointer (some ⟨fb, 0, none⟩), .pointer (some ⟨db, 0, none⟩)] w fun e w' => e = .returned (.bool (true)) ∧ Below w.heap.size w w' := by
  have HA := Lib.hid (fun w => colAhead0_any a3 a1 a2 p q (by omega) w)
  rw [hv] at HA
  unfold colV at hf
  have mR := m_ahC
  have hq := run_eql_tile p q a1 a2
  have hgd := fun w => run_eqGuard_agg (P := Tryz.prog) w .eql 63 (.tmp 13) (.tmp 15) (tileC p q) (tileC a1 a2) (by kernel_rfl)
  have cf : w.cell? ⟨fb, 0, none⟩ = some (.iface 157 (.int .i8 a3)) := by rw [cell_of_row w _ _ _ _ _ hf]; rfl
  obtain ⟨_, _, cl⟩ := desk_cells hd
  have HD := Lib.hid hd
  clear hv ha hf hd hq hgd
  go_enter Tryz.func84, Tryz.ntmps84
  go_upto_region 1 with (fail)
  refine abs_world (fun W => W.heap[w.heap.size]? = some (.cells (winC x) 91 (0, 0)) ∧ W.heap[w.heap.size + 1]? = some (.cells (tileC p q) 63 (0, 0)) ∧ Below w.heap.size w W) (box2 w (.cells (winC x) 91) (.cells (tileC p q) 63)) ?_
  rintro W ⟨h0, h1, hb⟩
  generalize w.heap.size + 1 = b1 at *
  have H0 := Lib.hid h0
  have H1 := Lib.hid h1
  obtain ⟨cw, _, _⟩ := win_cells h0
  replace HD := Lib.hid (below_row hb HD.out)
  replace cf := cell_belowB hb cf
  replace cl := cell_belowB hb cl
  clear h0 h1
  go_wp2_with (first | (refine wpList_load_part rfl 91 _ rfl w.heap.size 0 3 rfl 91 (winC x) (0, 0) _ H0.out Tryz.underlying91 rfl info_win (win_fits _) _ (win_all _) ?_) | (refine wpList_load_part rfl 63 _ rfl b1 0 2 rfl 63 (tileC p q) (0, 0) _ H1.out Tryz.underlying63 rfl info_tile (tile_fits _ _) _ (tile_all _ _) ?_) | (refine wpList_load_part rfl 65 _ rfl db 0 3 rfl 65 (deskC a1 a2 a3) (0, 0) _ HD.out Tryz.underlying65 rfl info_desk (desk_fits _ _ _) _ (desk_all _ _ _) ?_) | (refine wpList_load_part rfl 63 _ rfl db 0 2 rfl 65 (deskC a1 a2 a3) (0, 0) _ HD.out Tryz.underlying63 rfl info_tile (desk_fits2 _ _ _) _ (desk_tile _ _ _) ?_) | (go_at_call 121; refine (HA.out _).mono ?_; rintro e W1 ⟨rfl, hb1⟩; replace H0 := Lib.hid (below_row hb1 H0.out); replace H1 := Lib.hid (below_row hb1 H1.out); replace HD := Lib.hid (below_row hb1 HD.out); replace cf := cell_belowB hb1 cf; replace cl := cell_belowB hb1 cl; replace cw := cell_belowB hb1 cw; replace hb := hb.trans (hb1.mono hb.size); clear hb1; go_wp2))
  go_ret
  exact ⟨rfl, hb⟩

set_option maxRecDepth 100000 in
set_option maxHeartbeats 1000000 in
theorem glf3_false (x : Wn) (p q a1 a2 a3 : Int) (ha : a3 = 3) (hv : decide (p < a1) = false) (fb db : Nat) (w : World) (hf : w.heap[fb]? = some (.cells #[colV a3] 135 (0, 0))) (hd : w.heap[db]? = some (.cells (deskC a1 a2 a3) 65 (0, 0))) :
    Calls Tryz.prog 84 #[.agg (winC x), .agg (tileC p q), .pointer (some ⟨fb, 0, none⟩), .pointer (some ⟨db, 0, none⟩)] w fun e w' => e = .returned (.bool ((p == a1 && q == a2) && x.1 == a3)) ∧ Below w.heap.size w w' := by
  have HA := Lib.hid (fun w => colAhead0_any a3 a1 a2 p q (by omega) w)
  rw [hv] at HA
  unfold colV at hf
  have mR := m_ahC
  have hq := run_eql_tile p q a1 a2
  have hgd := fun w => run_eqGuard_agg (P := Tryz.prog) w .eql 63 (.tmp 13) (.tmp 15) (tileC p q) (tileC a1 a2) (by kernel_rfl)
  have cf : w.cell? ⟨fb, 0, none⟩ = some (.iface 157 (.int .i8 a3)) := by rw [cell_of_row w _ _ _ _ _ hf]; rfl
  obtain ⟨_, _, cl⟩ := desk_cells hd
  have HD := Lib.hid hd
  cases he : (p == a1 && q == a2)
  all_goals
    clear hv ha hf hd
    go_enter Tryz.func84, Tryz.ntmps84
    go_upto_region 1 with (fail)
    refine abs_world (fun W => W.heap[w.heap.size]? = some (.cells (winC x) 91 (0, 0)) ∧ W.heap[w.heap.size + 1]? = some (.cells (tileC p q) 63 (0, 0)) ∧ Below w.heap.size w W) (box2 w (.cells (winC x) 91) (.cells (tileC p q) 63)) ?_
    rintro W ⟨h0, h1, hb⟩
    generalize w.heap.size + 1 = b1 at *
    have H0 := Lib.hid h0
    have H1 := Lib.hid h1
    obtain ⟨cw, _, _⟩ := win_cells h0
    replace HD := Lib.hid (below_row hb HD.out)
    replace cf := cell_belowB hb cf
    replace cl := cell_belowB hb cl
    clear h0 h1
    go_wp2_with (first | (refine wpList_load_partG 91 _ rfl w.heap.size 0 3 rfl rfl 91 (winC x) (0, 0) _ H0.out Tryz.underlying91 rfl info_win (win_fits _) _ (win_all _) ?_) | (refine wpList_load_partG 63 _ rfl b1 0 2 rfl rfl 63 (tileC p q) (0, 0) _ H1.out Tryz.underlying63 rfl info_tile (tile_fits _ _) _ (tile_all _ _) ?_) | (refine wpList_load_partG 65 _ rfl db 0 3 rfl rfl 65 (deskC a1 a2 a3) (0, 0) _ HD.out Tryz.underlying65 rfl info_desk (desk_fits _ _ _) _ (desk_all _ _ _) ?_) | (refine wpList_load_partG 63 _ rfl db 0 2 rfl rfl 65 (deskC a1 a2 a3) (0, 0) _ HD.out Tryz.underlying63 rfl info_tile (desk_fits2 _ _ _) _ (desk_tile _ _ _) ?_) | (go_at_call 121; refine (HA.out _).mono ?_; rintro e W1 ⟨rfl, hb1⟩; replace H0 := Lib.hid (below_row hb1 H0.out); replace H1 := Lib.hid (below_row hb1 H1.out); replace HD := Lib.hid (below_row hb1 HD.out); replace cf := cell_belowB hb1 cf; replace cl := cell_belowB hb1 cl; replace cw := cell_belowB hb1 cw; replace hb := hb.trans (hb1.mono hb.size); clear hb1))
    go_ret
    exact ⟨rfl, hb⟩

theorem glf_any (x : Wn) (p q a1 a2 a3 : Int) (h0 : 0 ≤ a3) (h3 : a3 ≤ 3) (fb db : Nat) (w : World) (hf : w.heap[fb]? = some (.cells #[wallV a3] 135 (0, 0))) (hd : w.heap[db]? = some (.cells (deskC a1 a2 a3) 65 (0, 0))) :
    Calls Tryz.prog 84 #[.agg (winC x), .agg (tileC p q), .pointer (some ⟨fb, 0, none⟩), .pointer (some ⟨db, 0, none⟩)] w fun e w' => e = .returned (.bool (glB a1 a2 a3 x.1 p q)) ∧ Below w.heap.size w w' := by
  rw [glB_or]
  rcases (by omega : a3 = 0 ∨ a3 = 1 ∨ a3 = 2 ∨ a3 = 3) with h | h | h | h
  · rw [show wallV a3 = rowV a3 from if_pos (by omega)] at hf
    rw [show ahB a3 a1 a2 p q = decide (q < a2) from if_pos h]
    cases hv : decide (q < a2) with
    | true => rw [Bool.true_or]; exact glf0_true x p q a1 a2 a3 h hv fb db w hf hd
    | false => rw [Bool.false_or]; exact glf0_false x p q a1 a2 a3 h hv fb db w hf hd
  · rw [show wallV a3 = colV a3 from if_neg (by omega)] at hf
    rw [show ahB a3 a1 a2 p q = decide (a1 < p) from (if_neg (by omega)).trans (if_pos h)]
    cases hv : decide (a1 < p) with
    | true => rw [Bool.true_or]; exact glf1_true x p q a1 a2 a3 h hv fb db w hf hd
    | false => rw [Bool.false_or]; exact glf1_false x p q a1 a2 a3 h hv fb db w hf hd
  · rw [show wallV a3 = rowV a3 from if_pos (by omega)] at hf
    rw [show ahB a3 a1 a2 p q = decide (a2 < q) from (if_neg (by omega)).trans ((if_neg (by omega)).trans (if_pos h))]
    cases hv : decide (a2 < q) with
    | true => rw [Bool.true_or]; exact glf2_true x p q a1 a2 a3 h hv fb db w hf hd
    | false => rw [Bool.false_or]; exact glf2_false x p q a1 a2 a3 h hv fb db w hf hd
  · rw [show wallV a3 = colV a3 from if_neg (by omega)] at hf
    rw [show ahB a3 a1 a2 p q = decide (p < a1) from (if_neg (by omega)).trans ((if_neg (by omega)).trans (if_neg (by omega)))]
    cases hv : decide (p < a1) with
    | true => rw [Bool.true_or]; exact glf3_true x p q a1 a2 a3 h hv fb db w hf hd
    | false => rw [Bool.false_or]; exact glf3_false x p q a1 a2 a3 h hv fb db w hf hd

theorem wallOf_any (n : Int) (h0 : 0 ≤ n) (h3 : n ≤ 3) (w : World) : Calls Tryz.prog 78 #[.int .i8 n] w fun e w' => e = .returned (wallV n) ∧ w = w' := by
  by_cases h : n = 0 ∨ n = 2
  · rw [show wallV n = rowV n from if_pos h]; exact wallOf_row n h w
  · rw [show wallV n = colV n from if_neg h]; exact wallOf_col n (by omega) w
theorem wallV_one (n : Int) : ∀ v ∈ #[wallV n], v.oneCell' = true := by
  intro v hv
  simp only [List.mem_toArray, List.mem_cons, List.not_mem_nil, or_false] at hv
  subst hv
  unfold wallV
  split <;> rfl

end Go.Proofs.YtckkemknajggpaaGreatDoor
