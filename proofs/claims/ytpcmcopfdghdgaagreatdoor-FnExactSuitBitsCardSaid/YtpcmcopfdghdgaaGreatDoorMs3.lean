/-
  Glare, GlareA, GlareS, Suit, List, New, EtA, Round, RoundL, Sun, Hours, Eq, Held.
-/
import Derived.Test.YtpcmcopfdghdgaaGreatDoorMs2
import Derived.Laws.StructEq
import Derived.Laws.EntriesVeiled
import Derived.Shelf.Abstract
import Derived.Test.YtpcmcopfdghdgaaGreatDoorMs1
import Derived.Test.YtpcmcopfdghdgaaGreatDoorTake
import Derived.Test.YtpcmcopfdghdgaaGreatDoorRows
import Derived.WalkSpells
import Derived.WalkLawsBesides
import Derived.Lib.Hide
import Derived.Deep.Cut
import Derived.Deep.DeepCutAuto
import Derived.Test.YtpcmcopfdghdgaaGreatDoorRow
import Derived.RangeFuncNested
import Derived.RangeFuncBound
import Derived.RangeFuncCalls
import Derived.RangeFuncLeaves
import Derived.RangeFuncFrom
import Derived.RangeFuncWrites
import Derived.Shelf.RegionOpen
import Derived.OwnWalkIn
import Derived.TacticsInMore
import Derived.LoopNIn
import Derived.LoopIn
import Derived.Sort.AtCallIn
import Derived.RangeFuncBox
import Derived.Test.YtpcmcopfdghdgaaGreatDoorRoomP
import Derived.Test.YtpcmcopfdghdgaaGreatDoorTileA
import Derived.Deep.RegionHeld3
import Derived.OrdersIn
import Derived.StillTail
import Derived.StillTailTactics
import Derived.WalkKit

namespace Go.Proofs.YtpcmcopfdghdgaaGreatDoor
open Go.RowKit

attribute [local go_sem] run_store_f

/-- Does a tile lie ahead of one who looks from another tile to a wall? -/
def ahB (l fx fy tx ty : Int) : Bool := if l = 0 then decide (ty < fy) else if l = 1 then decide (fx < tx) else if l = 2 then decide (fy < ty) else decide (tx < fx)
/-- Does a window at a tile glare at a desk? -/
def glB (a1 a2 a3 wl p q : Int) : Bool := if p = a1 ∧ q = a2 then wl == a3 else ahB a3 a1 a2 p q
theorem ahB_self (l x y : Int) : ahB l x y x y = false := by
  unfold ahB
  split <;> (try split) <;> (try split) <;> simp
theorem glB_or (a1 a2 a3 wl p q : Int) : glB a1 a2 a3 wl p q = (ahB a3 a1 a2 p q || ((p == a1 && q == a2) && wl == a3)) := by
  unfold glB
  by_cases h : p = a1 ∧ q = a2
  · obtain ⟨rfl, rfl⟩ := h
    simp [ahB_self]
  · have e : (p == a1 && q == a2) = false := by
      rw [Bool.and_eq_false_iff]
      by_cases h1 : p = a1
      · exact .inr (by simpa using fun h2 => h ⟨h1, h2⟩)
      · exact .inl (by simpa using h1)
    rw [if_neg h, e]; simp

set_option maxRecDepth 100000 in
set_option maxHeartbeats 1000000 in
theorem rowAhead0_any (n fx fy tx ty : Int) (hn : n = 0) (w : World) :
    Calls Tryz.prog 230 #[.int .i8 n, .agg (tileC fx fy), .agg (tileC tx ty)] w fun e w' => e = .returned (.bool (decide (ty < fy))) ∧ Below w.heap.size w w' := by
  have hd : (n == 0) = true := by simp [hn]
  clear hn
  go_enter Tryz.func230, Tryz.ntmps230
  go_upto_region 1 with (fail)
  refine abs_world (fun W => W.heap[w.heap.size]? = some (.cells (tileC fx fy) 126 (0, 0)) ∧ W.heap[w.heap.size + 1]? = some (.cells (tileC tx ty) 126 (0, 0)) ∧ Below w.heap.size w W) (box2 w (.cells (tileC fx fy) 126) (.cells (tileC tx ty) 126)) ?_
  rintro W ⟨h0, h1, hb⟩
  generalize w.heap.size + 1 = b1 at *
  have H0 := Lib.hid h0
  have H1 := Lib.hid h1
  obtain ⟨c0, c1⟩ := tile_cells h0
  obtain ⟨d0, d1⟩ := tile_cells h1
  clear h0 h1
  clear H0 H1
  go_wp2
  go_ret
  exact ⟨rfl, hb⟩

set_option maxRecDepth 100000 in
set_option maxHeartbeats 1000000 in
theorem rowAhead1_any (n fx fy tx ty : Int) (hn : n ≠ 0) (w : World) :
    Calls Tryz.prog 230 #[.int .i8 n, .agg (tileC fx fy), .agg (tileC tx ty)] w fun e w' => e = .returned (.bool (decide (fy < ty))) ∧ Below w.heap.size w w' := by
  have hd : (n == 0) = false := by simp [hn]
  clear hn
  go_enter Tryz.func230, Tryz.ntmps230
  go_upto_region 1 with (fail)
  refine abs_world (fun W => W.heap[w.heap.size]? = some (.cells (tileC fx fy) 126 (0, 0)) ∧ W.heap[w.heap.size + 1]? = some (.cells (tileC tx ty) 126 (0, 0)) ∧ Below w.heap.size w W) (box2 w (.cells (tileC fx fy) 126) (.cells (tileC tx ty) 126)) ?_
  rintro W ⟨h0, h1, hb⟩
  generalize w.heap.size + 1 = b1 at *
  have H0 := Lib.hid h0
  have H1 := Lib.hid h1
  obtain ⟨c0, c1⟩ := tile_cells h0
  obtain ⟨d0, d1⟩ := tile_cells h1
  clear h0 h1
  clear H0 H1
  go_wp2
  go_ret
  exact ⟨rfl, hb⟩

set_option maxRecDepth 100000 in
set_option maxHeartbeats 1000000 in
theorem colAhead0_any (n fx fy tx ty : Int) (hn : n = 3) (w : World) :
    Calls Tryz.prog 233 #[.int .i8 n, .agg (tileC fx fy), .agg (tileC tx ty)] w fun e w' => e = .returned (.bool (decide (tx < fx))) ∧ Below w.heap.size w w' := by
  have hd : (n == 3) = true := by simp [hn]
  clear hn
  go_enter Tryz.func233, Tryz.ntmps233
  go_upto_region 1 with (fail)
  refine abs_world (fun W => W.heap[w.heap.size]? = some (.cells (tileC fx fy) 126 (0, 0)) ∧ W.heap[w.heap.size + 1]? = some (.cells (tileC tx ty) 126 (0, 0)) ∧ Below w.heap.size w W) (box2 w (.cells (tileC fx fy) 126) (.cells (tileC tx ty) 126)) ?_
  rintro W ⟨h0, h1, hb⟩
  generalize w.heap.size + 1 = b1 at *
  have H0 := Lib.hid h0
  have H1 := Lib.hid h1
  obtain ⟨c0, c1⟩ := tile_cells h0
  obtain ⟨d0, d1⟩ := tile_cells h1
  clear h0 h1
  clear H0 H1
  go_wp2
  go_ret
  exact ⟨rfl, hb⟩

set_option maxRecDepth 100000 in
set_option maxHeartbeats 1000000 in
theorem colAhead1_any (n fx fy tx ty : Int) (hn : n ≠ 3) (w : World) :
    Calls Tryz.prog 233 #[.int .i8 n, .agg (tileC fx fy), .agg (tileC tx ty)] w fun e w' => e = .returned (.bool (decide (fx < tx))) ∧ Below w.heap.size w w' := by
  have hd : (n == 3) = false := by simp [hn]
  clear hn
  go_enter Tryz.func233, Tryz.ntmps233
  go_upto_region 1 with (fail)
  refine abs_world (fun W => W.heap[w.heap.size]? = some (.cells (tileC fx fy) 126 (0, 0)) ∧ W.heap[w.heap.size + 1]? = some (.cells (tileC tx ty) 126 (0, 0)) ∧ Below w.heap.size w W) (box2 w (.cells (tileC fx fy) 126) (.cells (tileC tx ty) 126)) ?_
  rintro W ⟨h0, h1, hb⟩
  generalize w.heap.size + 1 = b1 at *
  have H0 := Lib.hid h0
  have H1 := Lib.hid h1
  obtain ⟨c0, c1⟩ := tile_cells h0
  obtain ⟨d0, d1⟩ := tile_cells h1
  clear h0 h1
  clear H0 H1
  go_wp2
  go_ret
  exact ⟨rfl, hb⟩

theorem m_ahR (n : Nat) (v : Value) (w : World) : (Go.method (n + 1) 262 v "loop.example/g01367/impl.isAhead").run Tryz.prog w = .ok (230, v) w := by kernel_rfl
theorem m_ahC (n : Nat) (v : Value) (w : World) : (Go.method (n + 1) 263 v "loop.example/g01367/impl.isAhead").run Tryz.prog w = .ok (233, v) w := by kernel_rfl
/-- The wall to which a desk is faced. -/
def wallV (l : Int) : Value := if l = 0 ∨ l = 2 then rowV l else colV l
theorem stood_tile : Tryz.prog.stoodInHeld 126 = false := by kernel_rfl
theorem fields_tile : Tryz.prog.underlying 126 = some (.struct (Tryz.prog.fieldsOf 126)) := by kernel_rfl
set_option maxRecDepth 100000 in
theorem run_eql_tile (x1 y1 x2 y2 : Int) (w : World) : (Op.equalIn 10000 126 (.agg (tileC x1 y1)) (.agg (tileC x2 y2))).run Tryz.prog w = .ok (x1 == x2 && y1 == y2) w := by
  rw [run_equalIn_agg w 9999 126 _ _ fields_tile stood_tile]
  have hf : (Tryz.prog.fieldsOf 126).toList.map (fun f => (f.name, f.type, f.offset)) = [("X", 24, 0), ("Y", 24, 1)] := by kernel_rfl
  generalize (Tryz.prog.fieldsOf 126).toList = fs at hf
  have hlen : fs.length = 2 := by simpa using congrArg List.length hf
  have a8 : ∀ w, (isAgg 24).run Tryz.prog w = .ok false w := fun w => by kernel_rfl
  have p0 : ∀ x y w, (part 24 (tileC x y) 0).run Tryz.prog w = .ok (.int .i8 x) w := fun x y w => by
    unfold part; rw [Sem.run_bind, a8]; rfl
  have p1 : ∀ x y w, (part 24 (tileC x y) 1).run Tryz.prog w = .ok (.int .i8 y) w := fun x y w => by
    unfold part; rw [Sem.run_bind, a8]; rfl
  match fs, hlen, hf with
  | [f0, f1], _, hf =>
    simp only [List.map_cons, List.map_nil, List.cons.injEq, Prod.mk.injEq, and_true] at hf
    obtain ⟨⟨n0, ty0, o0⟩, n1, ty1, o1⟩ := hf
    simp only [Op.eqFields, n0, n1, ty0, ty1, o0, o1]
    rw [if_pos (by decide), if_pos (by decide)]
    simp only [Sem.run_bind, p0, p1, Result.andThen_ok, run_equalIn_int _ 9998 24 .i8 .i8 _ _ Tryz.underlying24, Sem.run_ite]
    cases x1 == x2 <;> cases y1 == y2 <;> rfl

set_option maxRecDepth 100000 in
set_option maxHeartbeats 1000000 in
theorem glf0_true (x : Wn) (p q a1 a2 a3 : Int) (ha : a3 = 0) (hv : decide (q < a2) = true) (fb db : Nat) (w : World) (hf : w.heap[fb]? = some (.cells #[rowV a3] 248 (0, 0))) (hd : w.heap[db]? = some (.cells (deskC a1 a2 a3) 128 (0, 0))) :
    Calls Tryz.prog 187 #[.agg (winC x), .agg (tileC p q), .pointer (some ⟨fb, 0, none⟩), .pointer (some ⟨db, 0, none⟩)] w fun e w' => e = .returned (.bool (true)) ∧ Below w.heap.size w w' := by
  have HA := Lib.hid (fun w => rowAhead0_any a3 a1 a2 p q (by omega) w)
  rw [hv] at HA
  unfold rowV at hf
  have mR := m_ahR
  have hq := run_eql_tile p q a1 a2
  have hgd := fun w => run_eqGuard_agg (P := Tryz.prog) w .eql 126 (.tmp 13) (.tmp 15) (tileC p q) (tileC a1 a2) (by kernel_rfl)
  have cf : w.cell? ⟨fb, 0, none⟩ = some (.iface 262 (.int .i8 a3)) := by rw [cell_of_row w _ _ _ _ _ hf]; rfl
  obtain ⟨_, _, cl⟩ := desk_cells hd
  have HD := Lib.hid hd
  clear hv ha hf hd hq hgd
  go_enter Tryz.func187, Tryz.ntmps187
  go_upto_region 1 with (fail)
  refine abs_world (fun W => W.heap[w.heap.size]? = some (.cells (winC x) 174 (0, 0)) ∧ W.heap[w.heap.size + 1]? = some (.cells (tileC p q) 126 (0, 0)) ∧ Below w.heap.size w W) (box2 w (.cells (winC x) 174) (.cells (tileC p q) 126)) ?_
  rintro W ⟨h0, h1, hb⟩
  generalize w.heap.size + 1 = b1 at *
  have H0 := Lib.hid h0
  have H1 := Lib.hid h1
  obtain ⟨cw, _, _⟩ := win_cells h0
  replace HD := Lib.hid (below_row hb HD.out)
  replace cf := cell_belowB hb cf
  replace cl := cell_belowB hb cl
  clear h0 h1
  go_wp2_with (first | (refine wpList_load_part rfl 174 _ rfl w.heap.size 0 3 rfl 174 (winC x) (0, 0) _ H0.out Tryz.underlying174 rfl info_win (win_fits _) _ (win_all _) ?_) | (refine wpList_load_part rfl 126 _ rfl b1 0 2 rfl 126 (tileC p q) (0, 0) _ H1.out Tryz.underlying126 rfl info_tile (tile_fits _ _) _ (tile_all _ _) ?_) | (refine wpList_load_part rfl 128 _ rfl db 0 3 rfl 128 (deskC a1 a2 a3) (0, 0) _ HD.out Tryz.underlying128 rfl info_desk (desk_fits _ _ _) _ (desk_all _ _ _) ?_) | (refine wpList_load_part rfl 126 _ rfl db 0 2 rfl 128 (deskC a1 a2 a3) (0, 0) _ HD.out Tryz.underlying126 rfl info_tile (desk_fits2 _ _ _) _ (desk_tile _ _ _) ?_) | (go_at_call 230; refine (HA.out _).mono ?_; rintro e W1 ⟨rfl, hb1⟩; replace H0 := Lib.hid (below_row hb1 H0.out); replace H1 := Lib.hid (below_row hb1 H1.out); replace HD := Lib.hid (below_row hb1 HD.out); replace cf := cell_belowB hb1 cf; replace cl := cell_belowB hb1 cl; replace cw := cell_belowB hb1 cw; replace hb := hb.trans (hb1.mono hb.size); clear hb1; go_wp2))
  go_ret
  exact ⟨rfl, hb⟩

set_option maxRecDepth 100000 in
set_option maxHeartbeats 1000000 in
theorem glf0_false (x : Wn) (p q a1 a2 a3 : Int) (ha : a3 = 0) (hv : decide (q < a2) = false) (fb db : Nat) (w : World) (hf : w.heap[fb]? = some (.cells #[rowV a3] 248 (0, 0))) (hd : w.heap[db]? = some (.cells (deskC a1 a2 a3) 128 (0, 0))) :
    Calls Tryz.prog 187 #[.agg (winC x), .agg (tileC p q), .pointer (some ⟨fb, 0, none⟩), .pointer (some ⟨db, 0, none⟩)] w fun e w' => e = .returned (.bool ((p == a1 && q == a2) && x.1 == a3)) ∧ Below w.heap.size w w' := by
  have HA := Lib.hid (fun w => rowAhead0_any a3 a1 a2 p q (by omega) w)
  rw [hv] at HA
  unfold rowV at hf
  have mR := m_ahR
  have hq := run_eql_tile p q a1 a2
  have hgd := fun w => run_eqGuard_agg (P := Tryz.prog) w .eql 126 (.tmp 13) (.tmp 15) (tileC p q) (tileC a1 a2) (by kernel_rfl)
  have cf : w.cell? ⟨fb, 0, none⟩ = some (.iface 262 (.int .i8 a3)) := by rw [cell_of_row w _ _ _ _ _ hf]; rfl
  obtain ⟨_, _, cl⟩ := desk_cells hd
  have HD := Lib.hid hd
  cases he : (p == a1 && q == a2)
  all_goals
    clear hv ha hf hd
    go_enter Tryz.func187, Tryz.ntmps187
    go_upto_region 1 with (fail)
    refine abs_world (fun W => W.heap[w.heap.size]? = some (.cells (winC x) 174 (0, 0)) ∧ W.heap[w.heap.size + 1]? = some (.cells (tileC p q) 126 (0, 0)) ∧ Below w.heap.size w W) (box2 w (.cells (winC x) 174) (.cells (tileC p q) 126)) ?_
    rintro W ⟨h0, h1, hb⟩
    generalize w.heap.size + 1 = b1 at *
    have H0 := Lib.hid h0
    have H1 := Lib.hid h1
    obtain ⟨cw, _, _⟩ := win_cells h0
    replace HD := Lib.hid (below_row hb HD.out)
    replace cf := cell_belowB hb cf
    replace cl := cell_belowB hb cl
    clear h0 h1
    go_wp2_with (first | (refine wpList_load_partG 174 _ rfl w.heap.size 0 3 rfl rfl 174 (winC x) (0, 0) _ H0.out Tryz.underlying174 rfl info_win (win_fits _) _ (win_all _) ?_) | (refine wpList_load_partG 126 _ rfl b1 0 2 rfl rfl 126 (tileC p q) (0, 0) _ H1.out Tryz.underlying126 rfl info_tile (tile_fits _ _) _ (tile_all _ _) ?_) | (refine wpList_load_partG 128 _ rfl db 0 3 rfl rfl 128 (deskC a1 a2 a3) (0, 0) _ HD.out Tryz.underlying128 rfl info_desk (desk_fits _ _ _) _ (desk_all _ _ _) ?_) | (refine wpList_load_partG 126 _ rfl db 0 2 rfl rfl 128 (deskC a1 a2 a3) (0, 0) _ HD.out Tryz.underlying126 rfl info_tile (desk_fits2 _ _ _) _ (desk_tile _ _ _) ?_) | (go_at_call 230; refine (HA.out _).mono ?_; rintro e W1 ⟨rfl, hb1⟩; replace H0 := Lib.hid (below_row hb1 H0.out); replace H1 := Lib.hid (below_row hb1 H1.out); replace HD := Lib.hid (below_row hb1 HD.out); replace cf := cell_belowB hb1 cf; replace cl := cell_belowB hb1 cl; replace cw := cell_belowB hb1 cw; replace hb := hb.trans (hb1.mono hb.size); clear hb1))
    go_ret
    exact ⟨rfl, hb⟩

set_option maxRecDepth 100000 in
set_option maxHeartbeats 1000000 in
theorem glf1_true (x : Wn) (p q a1 a2 a3 : Int) (ha : a3 = 1) (hv : decide (a1 < p) = true) (fb db : Nat) (w : World) (hf : w.heap[fb]? = some (.cells #[colV a3] 248 (0, 0))) (hd : w.heap[db]? = some (.cells (deskC a1 a2 a3) 128 (0, 0))) :
    Calls Tryz.prog 187 #[.agg (winC x), .agg (tileC p q), .pointer (some ⟨fb, 0, none⟩), .pointer (some ⟨db, 0, none⟩)] w fun e w' => e = .returned (.bool (true)) ∧ Below w.heap.size w w' := by
  have HA := Lib.hid (fun w => colAhead1_any a3 a1 a2 p q (by omega) w)
  rw [hv] at HA
  unfold colV at hf
  have mR := m_ahC
  have hq := run_eql_tile p q a1 a2
  have hgd := fun w => run_eqGuard_agg (P := Tryz.prog) w .eql 126 (.tmp 13) (.tmp 15) (tileC p q) (tileC a1 a2) (by kernel_rfl)
  have cf : w.cell? ⟨fb, 0, none⟩ = some (.iface 263 (.int .i8 a3)) := by rw [cell_of_row w _ _ _ _ _ hf]; rfl
  obtain ⟨_, _, cl⟩ := desk_cells hd
  have HD := Lib.hid hd
  clear hv ha hf hd hq hgd
  go_enter Tryz.func187, Tryz.ntmps187
  go_upto_region 1 with (fail)
  refine abs_world (fun W => W.heap[w.heap.size]? = some (.cells (winC x) 174 (0, 0)) ∧ W.heap[w.heap.size + 1]? = some (.cells (tileC p q) 126 (0, 0)) ∧ Below w.heap.size w W) (box2 w (.cells (winC x) 174) (.cells (tileC p q) 126)) ?_
  rintro W ⟨h0, h1, hb⟩
  generalize w.heap.size + 1 = b1 at *
  have H0 := Lib.hid h0
  have H1 := Lib.hid h1
  obtain ⟨cw, _, _⟩ := win_cells h0
  replace HD := Lib.hid (below_row hb HD.out)
  replace cf := cell_belowB hb cf
  replace cl := cell_belowB hb cl
  clear h0 h1
  go_wp2_with (first | (refine wpList_load_part rfl 174 _ rfl w.heap.size 0 3 rfl 174 (winC x) (0, 0) _ H0.out Tryz.underlying174 rfl info_win (win_fits _) _ (win_all _) ?_) | (refine wpList_load_part rfl 126 _ rfl b1 0 2 rfl 126 (tileC p q) (0, 0) _ H1.out Tryz.underlying126 rfl info_tile (tile_fits _ _) _ (tile_all _ _) ?_) | (refine wpList_load_part rfl 128 _ rfl db 0 3 rfl 128 (deskC a1 a2 a3) (0, 0) _ HD.out Tryz.underlying128 rfl info_desk (desk_fits _ _ _) _ (desk_all _ _ _) ?_) | (refine wpList_load_part rfl 126 _ rfl db 0 2 rfl 128 (deskC a1 a2 a3) (0, 0) _ HD.out Tryz.underlying126 rfl info_tile (desk_fits2 _ _ _) _ (desk_tile _ _ _) ?_) | (go_at_call 233; refine (HA.out _).mono ?_; rintro e W1 ⟨rfl, hb1⟩; replace H0 := Lib.hid (below_row hb1 H0.out); replace H1 := Lib.hid (below_row hb1 H1.out); replace HD := Lib.hid (below_row hb1 HD.out); replace cf := cell_belowB hb1 cf; replace cl := cell_belowB hb1 cl; replace cw := cell_belowB hb1 cw; replace hb := hb.trans (hb1.mono hb.size); clear hb1; go_wp2))
  go_ret
  exact ⟨rfl, hb⟩

set_option maxRecDepth 100000 in
set_option maxHeartbeats 1000000 in
theorem glf1_false (x : Wn) (p q a1 a2 a3 : Int) (ha : a3 = 1) (hv : decide (a1 < p) = false) (fb db : Nat) (w : World) (hf : w.heap[fb]? = some (.cells #[colV a3] 248 (0, 0))) (hd : w.heap[db]? = some (.cells (deskC a1 a2 a3) 128 (0, 0))) :
    Calls Tryz.prog 187 #[.agg (winC x), .agg (tileC p q), .pointer (some ⟨fb, 0, none⟩), .pointer (some ⟨db, 0, none⟩)] w fun e w' => e = .returned (.bool ((p == a1 && q == a2) && x.1 == a3)) ∧ Below w.heap.size w w' := by
  have HA := Lib.hid (fun w => colAhead1_any a3 a1 a2 p q (by omega) w)
  rw [hv] at HA
  unfold colV at hf
  have mR := m_ahC
  have hq := run_eql_tile p q a1 a2
  have hgd := fun w => run_eqGuard_agg (P := Tryz.prog) w .eql 126 (.tmp 13) (.tmp 15) (tileC p q) (tileC a1 a2) (by kernel_rfl)
  have cf : w.cell? ⟨fb, 0, none⟩ = some (.iface 263 (.int .i8 a3)) := by rw [cell_of_row w _ _ _ _ _ hf]; rfl
  obtain ⟨_, _, cl⟩ := desk_cells hd
  have HD := Lib.hid hd
  cases he : (p == a1 && q == a2)
  all_goals
    clear hv ha hf hd
    go_enter Tryz.func187, Tryz.ntmps187
    go_upto_region 1 with (fail)
    refine abs_world (fun W => W.heap[w.heap.size]? = some (.cells (winC x) 174 (0, 0)) ∧ W.heap[w.heap.size + 1]? = some (.cells (tileC p q) 126 (0, 0)) ∧ Below w.heap.size w W) (box2 w (.cells (winC x) 174) (.cells (tileC p q) 126)) ?_
    rintro W ⟨h0, h1, hb⟩
    generalize w.heap.size + 1 = b1 at *
    have H0 := Lib.hid h0
    have H1 := Lib.hid h1
    obtain ⟨cw, _, _⟩ := win_cells h0
    replace HD := Lib.hid (below_row hb HD.out)
    replace cf := cell_belowB hb cf
    replace cl := cell_belowB hb cl
    clear h0 h1
    go_wp2_with (first | (refine wpList_load_partG 174 _ rfl w.heap.size 0 3 rfl rfl 174 (winC x) (0, 0) _ H0.out Tryz.underlying174 rfl info_win (win_fits _) _ (win_all _) ?_) | (refine wpList_load_partG 126 _ rfl b1 0 2 rfl rfl 126 (tileC p q) (0, 0) _ H1.out Tryz.underlying126 rfl info_tile (tile_fits _ _) _ (tile_all _ _) ?_) | (refine wpList_load_partG 128 _ rfl db 0 3 rfl rfl 128 (deskC a1 a2 a3) (0, 0) _ HD.out Tryz.underlying128 rfl info_desk (desk_fits _ _ _) _ (desk_all _ _ _) ?_) | (refine wpList_load_partG 126 _ rfl db 0 2 rfl rfl 128 (deskC a1 a2 a3) (0, 0) _ HD.out Tryz.underlying126 rfl info_tile (desk_fits2 _ _ _) _ (desk_tile _ _ _) ?_) | (go_at_call 233; refine (HA.out _).mono ?_; rintro e W1 ⟨rfl, hb1⟩; replace H0 := Lib.hid (below_row hb1 H0.out); replace H1 := Lib.hid (below_row hb1 H1.out); replace HD := Lib.hid (below_row hb1 HD.out); replace cf := cell_belowB hb1 cf; replace cl := cell_belowB hb1 cl; replace cw := cell_belowB hb1 cw; replace hb := hb.trans (hb1.mono hb.size); clear hb1))
    go_ret
    exact ⟨rfl, hb⟩

set_option maxRecDepth 100000 in
set_option maxHeartbeats 1000000 in
theorem glf2_true (x : Wn) (p q a1 a2 a3 : Int) (ha : a3 = 2) (hv : decide (a2 < q) = true) (fb db : Nat) (w : World) (hf : w.heap[fb]? = some (.cells #[rowV a3] 248 (0, 0))) (hd : w.heap[db]? = some (.cells (deskC a1 a2 a3) 128 (0, 0))) :
    Calls Tryz.prog 187 #[.agg (winC x), .agg (tileC p q), .pointer (some ⟨fb, 0, none⟩), .pointer (some ⟨db, 0, none⟩)] w fun e w' => e = .returned (.bool (true)) ∧ Below w.heap.size w w' := by
  have HA := Lib.hid (fun w => rowAhead1_any a3 a1 a2 p q (by omega) w)
  rw [hv] at HA
  unfold rowV at hf
  have mR := m_ahR
  have hq := run_eql_tile p q a1 a2
  have hgd := fun w => run_eqGuard_agg (P := Tryz.prog) w .eql 126 (.tmp 13) (.tmp 15) (tileC p q) (tileC a1 a2) (by kernel_rfl)
  have cf : w.cell? ⟨fb, 0, none⟩ = some (.iface 262 (.int .i8 a3)) := by rw [cell_of_row w _ _ _ _ _ hf]; rfl
  obtain ⟨_, _, cl⟩ := desk_cells hd
  have HD := Lib.hid hd
  clear hv ha hf hd hq hgd
  go_enter Tryz.func187, Tryz.ntmps187
  go_upto_region 1 with (fail)
  refine abs_world (fun W => W.heap[w.heap.size]? = some (.cells (winC x) 174 (0, 0)) ∧ W.heap[w.heap.size + 1]? = some (.cells (tileC p q) 126 (0, 0)) ∧ Below w.heap.size w W) (box2 w (.cells (winC x) 174) (.cells (tileC p q) 126)) ?_
  rintro W ⟨h0, h1, hb⟩
  generalize w.heap.size + 1 = b1 at *
  have H0 := Lib.hid h0
  have H1 := Lib.hid h1
  obtain ⟨cw, _, _⟩ := win_cells h0
  replace HD := Lib.hid (below_row hb HD.out)
  replace cf := cell_belowB hb cf
  replace cl := cell_belowB hb cl
  clear h0 h1
  go_wp2_with (first | (refine wpList_load_part rfl 174 _ rfl w.heap.size 0 3 rfl 174 (winC x) (0, 0) _ H0.out Tryz.underlying174 rfl info_win (win_fits _) _ (win_all _) ?_) | (refine wpList_load_part rfl 126 _ rfl b1 0 2 rfl 126 (tileC p q) (0, 0) _ H1.out Tryz.underlying126 rfl info_tile (tile_fits _ _) _ (tile_all _ _) ?_) | (refine wpList_load_part rfl 128 _ rfl db 0 3 rfl 128 (deskC a1 a2 a3) (0, 0) _ HD.out Tryz.underlying128 rfl info_desk (desk_fits _ _ _) _ (desk_all _ _ _) ?_) | (refine wpList_load_part rfl 126 _ rfl db 0 2 rfl 128 (deskC a1 a2 a3) (0, 0) _ HD.out Tryz.underlying126 rfl info_tile (desk_fits2 _ _ _) _ (desk_tile _ _ _) ?_) | (go_at_call 230; refine (HA.out _).mono ?_; rintro e W1 ⟨rfl, hb1⟩; replace H0 := Lib.hid (below_row hb1 H0.out); replace H1 := Lib.hid (below_row hb1 H1.out); replace HD := Lib.hid (below_row hb1 HD.out); replace cf := cell_belowB hb1 cf; replace cl := cell_belowB hb1 cl; replace cw := cell_belowB hb1 cw; replace hb := hb.trans (hb1.mono hb.size); clear hb1; go_wp2))
  go_ret
  exact ⟨rfl, hb⟩

set_option maxRecDepth 100000 in
set_option maxHeartbeats 1000000 in
theorem glf2_false (x : Wn) (p q a1 a2 a3 : Int) (ha : a3 = 2) (hv : decide (a2 < q) = false) (fb db : Nat) (w : World) (hf : w.heap[fb]? = some (.cells #[rowV a3] 248 (0, 0))) (hd : w.heap[db]? = some (.cells (deskC a1 a2 a3) 128 (0, 0))) :
    Calls Tryz.prog 187 #[.agg (winC x), .agg (tileC p q), .pointer (some ⟨fb, 0, none⟩), .pointer (some ⟨db, 0, none⟩)] w fun e w' => e = .returned (.bool ((p == a1 && q == a2) && x.1 == a3)) ∧ Below w.heap.size w w' := by
  have HA := Lib.hid (fun w => rowAhead1_any a3 a1 a2 p q (by omega) w)
  rw [hv] at HA
  unfold rowV at hf
  have mR := m_ahR
  have hq := run_eql_tile p q a1 a2
  have hgd := fun w => run_eqGuard_agg (P := Tryz.prog) w .eql 126 (.tmp 13) (.tmp 15) (tileC p q) (tileC a1 a2) (by kernel_rfl)
  have cf : w.cell? ⟨fb, 0, none⟩ = some (.iface 262 (.int .i8 a3)) := by rw [cell_of_row w _ _ _ _ _ hf]; rfl
  obtain ⟨_, _, cl⟩ := desk_cells hd
  have HD := Lib.hid hd
  cases he : (p == a1 && q == a2)
  all_goals
    clear hv ha hf hd
    go_enter Tryz.func187, Tryz.ntmps187
    go_upto_region 1 with (fail)
    refine abs_world (fun W => W.heap[w.heap.size]? = some (.cells (winC x) 174 (0, 0)) ∧ W.heap[w.heap.size + 1]? = some (.cells (tileC p q) 126 (0, 0)) ∧ Below w.heap.size w W) (box2 w (.cells (winC x) 174) (.cells (tileC p q) 126)) ?_
    rintro W ⟨h0, h1, hb⟩
    generalize w.heap.size + 1 = b1 at *
    have H0 := Lib.hid h0
    have H1 := Lib.hid h1
    obtain ⟨cw, _, _⟩ := win_cells h0
    replace HD := Lib.hid (below_row hb HD.out)
    replace cf := cell_belowB hb cf
    replace cl := cell_belowB hb cl
    clear h0 h1
    go_wp2_with (first | (refine wpList_load_partG 174 _ rfl w.heap.size 0 3 rfl rfl 174 (winC x) (0, 0) _ H0.out Tryz.underlying174 rfl info_win (win_fits _) _ (win_all _) ?_) | (refine wpList_load_partG 126 _ rfl b1 0 2 rfl rfl 126 (tileC p q) (0, 0) _ H1.out Tryz.underlying126 rfl info_tile (tile_fits _ _) _ (tile_all _ _) ?_) | (refine wpList_load_partG 128 _ rfl db 0 3 rfl rfl 128 (deskC a1 a2 a3) (0, 0) _ HD.out Tryz.underlying128 rfl info_desk (desk_fits _ _ _) _ (desk_all _ _ _) ?_) | (refine wpList_load_partG 126 _ rfl db 0 2 rfl rfl 128 (deskC a1 a2 a3) (0, 0) _ HD.out Tryz.underlying126 rfl info_tile (desk_fits2 _ _ _) _ (desk_tile _ _ _) ?_) | (go_at_call 230; refine (HA.out _).mono ?_; rintro e W1 ⟨rfl, hb1⟩; replace H0 := Lib.hid (below_row hb1 H0.out); replace H1 := Lib.hid (below_row hb1 H1.out); replace HD := Lib.hid (below_row hb1 HD.out); replace cf := cell_belowB hb1 cf; replace cl := cell_belowB hb1 cl; replace cw := cell_belowB hb1 cw; replace hb := hb.trans (hb1.mono hb.size); clear hb1))
    go_ret
    exact ⟨rfl, hb⟩

set_option maxRecDepth 100000 in
set_option maxHeartbeats 1000000 in
theorem glf3_true (x : Wn) (p q a1 a2 a3 : Int) (ha : a3 = 3) (hv : decide (p < a1) = true) (fb db : Nat) (w : World) (hf : w.heap[fb]? = some (.cells #[colV a3] 248 (0, 0))) (hd : w.heap[db]? = some (.cells (deskC a1 a2 a3) 128 (0, 0))) :
    Calls Tryz.prog 187 #[.agg (winC x), .agg (tileC p q), .pointer (some ⟨fb, 0, none⟩), .pointer (some ⟨db, 0, none⟩)] w fun e w' => e = .returned (.bool (true)) ∧ Below w.heap.size w w' := by
  have HA := Lib.hid (fun w => colAhead0_any a3 a1 a2 p q (by omega) w)
  rw [hv] at HA
  unfold colV at hf
  have mR := m_ahC
  have hq := run_eql_tile p q a1 a2
  have hgd := fun w => run_eqGuard_agg (P := Tryz.prog) w .eql 126 (.tmp 13) (.tmp 15) (tileC p q) (tileC a1 a2) (by kernel_rfl)
  have cf : w.cell? ⟨fb, 0, none⟩ = some (.iface 263 (.int .i8 a3)) := by rw [cell_of_row w _ _ _ _ _ hf]; rfl
  obtain ⟨_, _, cl⟩ := desk_cells hd
  have HD := Lib.hid hd
  clear hv ha hf hd hq hgd
  go_enter Tryz.func187, Tryz.ntmps187
  go_upto_region 1 with (fail)
  refine abs_world (fun W => W.heap[w.heap.size]? = some (.cells (winC x) 174 (0, 0)) ∧ W.heap[w.heap.size + 1]? = some (.cells (tileC p q) 126 (0, 0)) ∧ Below w.heap.size w W) (box2 w (.cells (winC x) 174) (.cells (tileC p q) 126)) ?_
  rintro W ⟨h0, h1, hb⟩
  generalize w.heap.size + 1 = b1 at *
  have H0 := Lib.hid h0
  have H1 := Lib.hid h1
  obtain ⟨cw, _, _⟩ := win_cells h0
  replace HD := Lib.hid (below_row hb HD.out)
  replace cf := cell_belowB hb cf
  replace cl := cell_belowB hb cl
  clear h0 h1
  go_wp2_with (first | (refine wpList_load_part rfl 174 _ rfl w.heap.size 0 3 rfl 174 (winC x) (0, 0) _ H0.out Tryz.underlying174 rfl info_win (win_fits _) _ (win_all _) ?_) | (refine wpList_load_part rfl 126 _ rfl b1 0 2 rfl 126 (tileC p q) (0, 0) _ H1.out Tryz.underlying126 rfl info_tile (tile_fits _ _) _ (tile_all _ _) ?_) | (refine wpList_load_part rfl 128 _ rfl db 0 3 rfl 128 (deskC a1 a2 a3) (0, 0) _ HD.out Tryz.underlying128 rfl info_desk (desk_fits _ _ _) _ (desk_all _ _ _) ?_) | (refine wpList_load_part rfl 126 _ rfl db 0 2 rfl 128 (deskC a1 a2 a3) (0, 0) _ HD.out Tryz.underlying126 rfl info_tile (desk_fits2 _ _ _) _ (desk_tile _ _ _) ?_) | (go_at_call 233; refine (HA.out _).mono ?_; rintro e W1 ⟨rfl, hb1⟩; replace H0 := Lib.hid (below_row hb1 H0.out); replace H1 := Lib.hid (below_row hb1 H1.out); replace HD := Lib.hid (below_row hb1 HD.out); replace cf := cell_belowB hb1 cf; replace cl := cell_belowB hb1 cl; replace cw := cell_belowB hb1 cw; replace hb := hb.trans (hb1.mono hb.size); clear hb1; go_wp2))
  go_ret
  exact ⟨rfl, hb⟩

set_option maxRecDepth 100000 in
set_option maxHeartbeats 1000000 in
theorem glf3_false (x : Wn) (p q a1 a2 a3 : Int) (ha : a3 = 3) (hv : decide (p < a1) = false) (fb db : Nat) (w : World) (hf : w.heap[fb]? = some (.cells #[colV a3] 248 (0, 0))) (hd : w.heap[db]? = some (.cells (deskC a1 a2 a3) 128 (0, 0))) :
    Calls Tryz.prog 187 #[.agg (winC x), .agg (tileC p q), .pointer (some ⟨fb, 0, none⟩), .pointer (some ⟨db, 0, none⟩)] w fun e w' => e = .returned (.bool ((p == a1 && q == a2) && x.1 == a3)) ∧ Below w.heap.size w w' := by
  have HA := Lib.hid (fun w => colAhead0_any a3 a1 a2 p q (by omega) w)
  rw [hv] at HA
  unfold colV at hf
  have mR := m_ahC
  have hq := run_eql_tile p q a1 a2
  have hgd := fun w => run_eqGuard_agg (P := Tryz.prog) w .eql 126 (.tmp 13) (.tmp 15) (tileC p q) (tileC a1 a2) (by kernel_rfl)
  have cf : w.cell? ⟨fb, 0, none⟩ = some (.iface 263 (.int .i8 a3)) := by rw [cell_of_row w _ _ _ _ _ hf]; rfl
  obtain ⟨_, _, cl⟩ := desk_cells hd
  have HD := Lib.hid hd
  cases he : (p == a1 && q == a2)
  all_goals
    clear hv ha hf hd
    go_enter Tryz.func187, Tryz.ntmps187
    go_upto_region 1 with (fail)
    refine abs_world (fun W => W.heap[w.heap.size]? = some (.cells (winC x) 174 (0, 0)) ∧ W.heap[w.heap.size + 1]? = some (.cells (tileC p q) 126 (0, 0)) ∧ Below w.heap.size w W) (box2 w (.cells (winC x) 174) (.cells (tileC p q) 126)) ?_
    rintro W ⟨h0, h1, hb⟩
    generalize w.heap.size + 1 = b1 at *
    have H0 := Lib.hid h0
    have H1 := Lib.hid h1
    obtain ⟨cw, _, _⟩ := win_cells h0
    replace HD := Lib.hid (below_row hb HD.out)
    replace cf := cell_belowB hb cf
    replace cl := cell_belowB hb cl
    clear h0 h1
    go_wp2_with (first | (refine wpList_load_partG 174 _ rfl w.heap.size 0 3 rfl rfl 174 (winC x) (0, 0) _ H0.out Tryz.underlying174 rfl info_win (win_fits _) _ (win_all _) ?_) | (refine wpList_load_partG 126 _ rfl b1 0 2 rfl rfl 126 (tileC p q) (0, 0) _ H1.out Tryz.underlying126 rfl info_tile (tile_fits _ _) _ (tile_all _ _) ?_) | (refine wpList_load_partG 128 _ rfl db 0 3 rfl rfl 128 (deskC a1 a2 a3) (0, 0) _ HD.out Tryz.underlying128 rfl info_desk (desk_fits _ _ _) _ (desk_all _ _ _) ?_) | (refine wpList_load_partG 126 _ rfl db 0 2 rfl rfl 128 (deskC a1 a2 a3) (0, 0) _ HD.out Tryz.underlying126 rfl info_tile (desk_fits2 _ _ _) _ (desk_tile _ _ _) ?_) | (go_at_call 233; refine (HA.out _).mono ?_; rintro e W1 ⟨rfl, hb1⟩; replace H0 := Lib.hid (below_row hb1 H0.out); replace H1 := Lib.hid (below_row hb1 H1.out); replace HD := Lib.hid (below_row hb1 HD.out); replace cf := cell_belowB hb1 cf; replace cl := cell_belowB hb1 cl; replace cw := cell_belowB hb1 cw; replace hb := hb.trans (hb1.mono hb.size); clear hb1))
    go_ret
    exact ⟨rfl, hb⟩

theorem glf_any (x : Wn) (p q a1 a2 a3 : Int) (h0 : 0 ≤ a3) (h3 : a3 ≤ 3) (fb db : Nat) (w : World) (hf : w.heap[fb]? = some (.cells #[wallV a3] 248 (0, 0))) (hd : w.heap[db]? = some (.cells (deskC a1 a2 a3) 128 (0, 0))) :
    Calls Tryz.prog 187 #[.agg (winC x), .agg (tileC p q), .pointer (some ⟨fb, 0, none⟩), .pointer (some ⟨db, 0, none⟩)] w fun e w' => e = .returned (.bool (glB a1 a2 a3 x.1 p q)) ∧ Below w.heap.size w w' := by
  rw [glB_or]
  rcases (by omega : a3 = 0 ∨ a3 = 1 ∨ a3 = 2 ∨ a3 = 3) with h | h | h | h
  · rw [show wallV a3 = rowV a3 from if_pos (by omega)] at hf
    rw [show ahB a3 a1 a2 p q = decide (q < a2) from if_pos h]
    cases hv : decide (q < a2) with
    | true => rw [Bool.true_or]; exact glf0_true x p q a1 a2 a3 h hv fb db w hf hd
    | false => rw [Bool.false_or]; exact glf0_false x p q a1 a2 a3 h hv fb db w hf hd
  · rw [show wallV a3 = colV a3 from if_neg (by omega)] at hf
    rw [show ahB a3 a1 a2 p q = decide (a1 < p) from (if_neg (by omega)).trans (if_pos h)]
    cases hv : decide (a1 < p) with
    | true => rw [Bool.true_or]; exact glf1_true x p q a1 a2 a3 h hv fb db w hf hd
    | false => rw [Bool.false_or]; exact glf1_false x p q a1 a2 a3 h hv fb db w hf hd
  · rw [show wallV a3 = rowV a3 from if_pos (by omega)] at hf
    rw [show ahB a3 a1 a2 p q = decide (a2 < q) from (if_neg (by omega)).trans ((if_neg (by omega)).trans (if_pos h))]
    cases hv : decide (a2 < q) with
    | true => rw [Bool.true_or]; exact glf2_true x p q a1 a2 a3 h hv fb db w hf hd
    | false => rw [Bool.false_or]; exact glf2_false x p q a1 a2 a3 h hv fb db w hf hd
  · rw [show wallV a3 = colV a3 from if_neg (by omega)] at hf
    rw [show ahB a3 a1 a2 p q = decide (p < a1) from (if_neg (by omega)).trans ((if_neg (by omega)).trans (if_neg (by omega)))]
    cases hv : decide (p < a1) with
    | true => rw [Bool.true_or]; exact glf3_true x p q a1 a2 a3 h hv fb db w hf hd
    | false => rw [Bool.false_or]; exact glf3_false x p q a1 a2 a3 h hv fb db w hf hd

theorem wallOf_any (n : Int) (h0 : 0 ≤ n) (h3 : n ≤ 3) (w : World) : Calls Tryz.prog 182 #[.int .i8 n] w fun e w' => e = .returned (wallV n) ∧ w = w' := by
  by_cases h : n = 0 ∨ n = 2
  · rw [show wallV n = rowV n from if_pos h]; exact wallOf_row n h w
  · rw [show wallV n = colV n from if_neg h]; exact wallOf_col n (by omega) w
theorem wallV_one (n : Int) : ∀ v ∈ #[wallV n], v.oneCell' = true := by
  intro v hv
  simp only [List.mem_toArray, List.mem_cons, List.not_mem_nil, or_false] at hv
  subst hv
  unfold wallV
  split <;> rfl

end Go.Proofs.YtpcmcopfdghdgaaGreatDoor

namespace Go.Proofs.YtpcmcopfdghdgaaGreatDoor
open Go.RowKit

attribute [local go_sem] run_store_f
theorem run_store_if (P : Program) (w : World) (a : Addr) (t : TypeId) (v : Value) (m : Mode) : (store a (.iface t v) m).run P w = stored P w a (.iface t v) m := run_store P w a _ m rfl
attribute [local go_sem] run_store_if

/-- Does a window of a room glare at a desk? -/
def glW (wd hg a1 a2 a3 : Int) (x : Wn) : Bool := glB a1 a2 a3 x.1 (tlW wd hg x).1 (tlW wd hg x).2

set_option maxRecDepth 100000 in
set_option maxHeartbeats 1000000 in
theorem glareAt_row (wd hg : Int) (sv : Value) (ws : List Wn) (ok : RmOk wd hg ws) (hwf : ∀ x ∈ ws, WnWf x) (a1 a2 a3 : Int) (ha : inRoom wd hg (a1, a2)) (hl : a3 = 0 ∨ a3 = 2) (w : World) (hws : WinsAt w sv ws) :
    Calls Tryz.prog 166 #[.agg (roomC wd hg sv), .agg (deskC a1 a2 a3)] w fun e w' => e = .returned (.float .f32 (litW wd hg (a1, a2) (glW wd hg a1 a2 a3) ws)) ∧ Below w.heap.size w w' := by
  have hV : wallV a3 = .iface 262 (.int .i8 a3) := if_pos hl
  have HL := Lib.hid (fun (fb db : Nat) (W : World) (hW : WinsAt W sv ws) (rf : W.heap[fb]? = some (.cells #[.iface 262 (.int .i8 a3)] 248 (0, 0))) (rd : W.heap[db]? = some (.cells (deskC a1 a2 a3) 128 (0, 0))) =>
    lightFrom_any wd hg sv ws ok hwf a1 a2 ha 187 (enters_of Tryz.func187 (by kernel_rfl) rfl) #[.pointer (some ⟨fb, 0, none⟩), .pointer (some ⟨db, 0, none⟩)] (glW wd hg a1 a2 a3) (fun V => V.heap[fb]? = some (.cells #[.iface 262 (.int .i8 a3)] 248 (0, 0)) ∧ V.heap[db]? = some (.cells (deskC a1 a2 a3) 128 (0, 0))) W hW (fun _ hb => ⟨below_row hb rf, below_row hb rd⟩) (fun x V _ hC => glf_any x _ _ a1 a2 a3 (by omega) (by omega) fb db V (by rw [hV]; exact hC.1) hC.2))
  have HWl := Lib.hid (fun w => wallOf_row a3 hl w)
  unfold rowV at HWl
  have HW := Lib.hid hws
  clear hws ok hwf ha hl hV
  go_enter Tryz.func166, Tryz.ntmps166
  go_upto_region 1 with (fail)
  refine abs_world (fun W => W.heap[w.heap.size]? = some (.cells (roomC wd hg sv) 70 (0, 0)) ∧ W.heap[w.heap.size + 1]? = some (.cells (deskC a1 a2 a3) 128 (0, 0)) ∧ Below w.heap.size w W) (box2 w (.cells (roomC wd hg sv) 70) (.cells (deskC a1 a2 a3) 128)) ?_
  rintro W ⟨h0, h1, hb⟩
  generalize w.heap.size + 1 = b1 at *
  have H0 := Lib.hid h0
  have H1 := Lib.hid h1
  obtain ⟨_, _, k2⟩ := desk_cells h1
  clear h0 h1
  have HV := Lib.hid (wins_below HW.out hb)
  go_upto_region 2 with (go_at_call 182; refine (HWl.out _).mono ?_; rintro e w1 ⟨rfl, rfl⟩)
  refine abs_world (fun V => Below W.heap.size W V ∧ V.heap[W.heap.size]? = some (.cells #[.iface 262 (.int .i8 a3)] 248 (0, 0))) ?_ ?_
  · exact ⟨(Below.refl _ _).alloc (Nat.le_refl _) _, heap_alloc_new _ _⟩
  rintro V ⟨hb1, hf⟩
  replace H0 := Lib.hid (below_row hb1 H0.out)
  replace H1 := Lib.hid (below_row hb1 H1.out)
  replace HV := Lib.hid (wins_below HV.out hb1)
  replace hb := hb.trans (hb1.mono hb.size)
  have HF := Lib.hid hf
  clear hb1 hf k2
  go_wp2_with (first | (refine wpList_load_partG 70 _ rfl w.heap.size 0 3 rfl rfl 70 (roomC wd hg sv) (0, 0) _ H0.out Tryz.underlying70 rfl info_room (room_fits _ _ _) _ (room_all _ _ _) ?_) | (refine wpList_load_partG 128 _ rfl b1 0 3 rfl rfl 128 (deskC a1 a2 a3) (0, 0) _ H1.out Tryz.underlying128 rfl info_desk (desk_fits _ _ _) _ (desk_all _ _ _) ?_) | (refine wpList_load_partG 126 _ rfl b1 0 2 rfl rfl 128 (deskC a1 a2 a3) (0, 0) _ H1.out Tryz.underlying126 rfl info_tile (desk_fits2 _ _ _) _ (desk_tile _ _ _) ?_) | (go_at_call 185; refine (HL.out _ _ _ HV.out HF.out H1.out).mono ?_; rintro e W1 ⟨rfl, hb1⟩))
  go_ret
  exact ⟨rfl, hb.trans (hb1.mono hb.size)⟩

set_option maxRecDepth 100000 in
set_option maxHeartbeats 1000000 in
theorem glareAt_col (wd hg : Int) (sv : Value) (ws : List Wn) (ok : RmOk wd hg ws) (hwf : ∀ x ∈ ws, WnWf x) (a1 a2 a3 : Int) (ha : inRoom wd hg (a1, a2)) (hl : a3 = 1 ∨ a3 = 3) (w : World) (hws : WinsAt w sv ws) :
    Calls Tryz.prog 166 #[.agg (roomC wd hg sv), .agg (deskC a1 a2 a3)] w fun e w' => e = .returned (.float .f32 (litW wd hg (a1, a2) (glW wd hg a1 a2 a3) ws)) ∧ Below w.heap.size w w' := by
  have hV : wallV a3 = .iface 263 (.int .i8 a3) := (if_neg (by omega))
  have HL := Lib.hid (fun (fb db : Nat) (W : World) (hW : WinsAt W sv ws) (rf : W.heap[fb]? = some (.cells #[.iface 263 (.int .i8 a3)] 248 (0, 0))) (rd : W.heap[db]? = some (.cells (deskC a1 a2 a3) 128 (0, 0))) =>
    lightFrom_any wd hg sv ws ok hwf a1 a2 ha 187 (enters_of Tryz.func187 (by kernel_rfl) rfl) #[.pointer (some ⟨fb, 0, none⟩), .pointer (some ⟨db, 0, none⟩)] (glW wd hg a1 a2 a3) (fun V => V.heap[fb]? = some (.cells #[.iface 263 (.int .i8 a3)] 248 (0, 0)) ∧ V.heap[db]? = some (.cells (deskC a1 a2 a3) 128 (0, 0))) W hW (fun _ hb => ⟨below_row hb rf, below_row hb rd⟩) (fun x V _ hC => glf_any x _ _ a1 a2 a3 (by omega) (by omega) fb db V (by rw [hV]; exact hC.1) hC.2))
  have HWl := Lib.hid (fun w => wallOf_col a3 hl w)
  unfold colV at HWl
  have HW := Lib.hid hws
  clear hws ok hwf ha hl hV
  go_enter Tryz.func166, Tryz.ntmps166
  go_upto_region 1 with (fail)
  refine abs_world (fun W => W.heap[w.heap.size]? = some (.cells (roomC wd hg sv) 70 (0, 0)) ∧ W.heap[w.heap.size + 1]? = some (.cells (deskC a1 a2 a3) 128 (0, 0)) ∧ Below w.heap.size w W) (box2 w (.cells (roomC wd hg sv) 70) (.cells (deskC a1 a2 a3) 128)) ?_
  rintro W ⟨h0, h1, hb⟩
  generalize w.heap.size + 1 = b1 at *
  have H0 := Lib.hid h0
  have H1 := Lib.hid h1
  obtain ⟨_, _, k2⟩ := desk_cells h1
  clear h0 h1
  have HV := Lib.hid (wins_below HW.out hb)
  go_upto_region 2 with (go_at_call 182; refine (HWl.out _).mono ?_; rintro e w1 ⟨rfl, rfl⟩)
  refine abs_world (fun V => Below W.heap.size W V ∧ V.heap[W.heap.size]? = some (.cells #[.iface 263 (.int .i8 a3)] 248 (0, 0))) ?_ ?_
  · exact ⟨(Below.refl _ _).alloc (Nat.le_refl _) _, heap_alloc_new _ _⟩
  rintro V ⟨hb1, hf⟩
  replace H0 := Lib.hid (below_row hb1 H0.out)
  replace H1 := Lib.hid (below_row hb1 H1.out)
  replace HV := Lib.hid (wins_below HV.out hb1)
  replace hb := hb.trans (hb1.mono hb.size)
  have HF := Lib.hid hf
  clear hb1 hf k2
  go_wp2_with (first | (refine wpList_load_partG 70 _ rfl w.heap.size 0 3 rfl rfl 70 (roomC wd hg sv) (0, 0) _ H0.out Tryz.underlying70 rfl info_room (room_fits _ _ _) _ (room_all _ _ _) ?_) | (refine wpList_load_partG 128 _ rfl b1 0 3 rfl rfl 128 (deskC a1 a2 a3) (0, 0) _ H1.out Tryz.underlying128 rfl info_desk (desk_fits _ _ _) _ (desk_all _ _ _) ?_) | (refine wpList_load_partG 126 _ rfl b1 0 2 rfl rfl 128 (deskC a1 a2 a3) (0, 0) _ H1.out Tryz.underlying126 rfl info_tile (desk_fits2 _ _ _) _ (desk_tile _ _ _) ?_) | (go_at_call 185; refine (HL.out _ _ _ HV.out HF.out H1.out).mono ?_; rintro e W1 ⟨rfl, hb1⟩))
  go_ret
  exact ⟨rfl, hb.trans (hb1.mono hb.size)⟩

theorem glareAt_any (wd hg : Int) (sv : Value) (ws : List Wn) (ok : RmOk wd hg ws) (hwf : ∀ x ∈ ws, WnWf x) (a1 a2 a3 : Int) (ha : inRoom wd hg (a1, a2)) (l0 : 0 ≤ a3) (l3 : a3 ≤ 3) (w : World) (hws : WinsAt w sv ws) :
    Calls Tryz.prog 166 #[.agg (roomC wd hg sv), .agg (deskC a1 a2 a3)] w fun e w' => e = .returned (.float .f32 (litW wd hg (a1, a2) (glW wd hg a1 a2 a3) ws)) ∧ Below w.heap.size w w' := by
  by_cases h : a3 = 0 ∨ a3 = 2
  · exact glareAt_row wd hg sv ws ok hwf a1 a2 a3 ha h w hws
  · exact glareAt_col wd hg sv ws ok hwf a1 a2 a3 ha (by omega) w hws

theorem pair_no {p q a1 a2 : Int} (h : ¬ (p = a1 ∧ q = a2)) : (p == a1 && q == a2) = false := by
  rw [Bool.and_eq_false_iff]
  by_cases h1 : p = a1
  · exact .inr (by simpa using fun h2 => h ⟨h1, h2⟩)
  · exact .inl (by simpa using h1)

set_option maxRecDepth 100000 in
set_option maxHeartbeats 1000000 in
theorem l03Ahead_e (wd hg : Int) (sv : Value) (x : Wn) (hf : FitOk wd hg x) (hrb : RB wd hg) (a1 a2 a3 p q : Int) (hpq : tlW wd hg x = (p, q)) (hE : p = a1 ∧ q = a2)  (gb : Nat) (T : TypeId) (fr : Nat × Nat) (w : World) (hb0 : w.heap[gb]? = some (.cells (roomC wd hg sv) T fr)) :
    Calls Tryz.prog 179 #[.pointer (some ⟨gb, 0, none⟩), .agg (deskC a1 a2 a3), .agg (winC x)] w fun e w' => e = .returned (.bool (x.1 == a3)) ∧ Below w.heap.size w w' := by
  have HT : Hid (∀ w : World, w.heap[gb]? = some (.cells (roomC wd hg sv) T fr) → Calls Tryz.prog 193 #[.pointer (some ⟨gb, 0, none⟩), .agg (winC x)] w fun e w' => e = .returned (.agg (tileC p q)) ∧ Below w.heap.size w w') := fun w h => by
    have t := l03Tile_any wd hg sv x hf hrb gb T fr w h
    rw [hpq] at t
    exact t
  have hq := run_eql_tile p q a1 a2
  have hgd := fun w => run_eqGuard_agg (P := Tryz.prog) w .eql 126 (.tmp 12) (.tmp 14) (tileC p q) (tileC a1 a2) (by kernel_rfl)
  rw [show (p == a1 && q == a2) = true by rw [hE.1, hE.2]; simp] at hq
  have HR := Lib.hid hb0
  clear hb0 hf hrb hpq hE
  go_enter Tryz.func179, Tryz.ntmps179
  go_upto_region 1 with (fail)
  refine abs_world (fun W => W.heap[w.heap.size]? = some (.cells (deskC a1 a2 a3) 128 (0, 0)) ∧ W.heap[w.heap.size + 1]? = some (.cells (winC x) 174 (0, 0)) ∧ Below w.heap.size w W) (box2 w (.cells (deskC a1 a2 a3) 128) (.cells (winC x) 174)) ?_
  rintro W ⟨h0, h1, hb⟩
  generalize w.heap.size + 1 = b1 at *
  have H0 := Lib.hid h0
  have H1 := Lib.hid h1
  replace HR := Lib.hid (below_row hb HR.out)
  clear h0 h1
  go_upto_region 2 with (first | (first | (refine wpList_load_partG 128 _ rfl w.heap.size 0 3 rfl rfl 128 (deskC a1 a2 a3) (0, 0) _ H0.out Tryz.underlying128 rfl info_desk (desk_fits _ _ _) _ (desk_all _ _ _) ?_) | (refine wpList_load_partG 126 _ rfl w.heap.size 0 2 rfl rfl 128 (deskC a1 a2 a3) (0, 0) _ H0.out Tryz.underlying126 rfl info_tile (desk_fits2 _ _ _) _ (desk_tile _ _ _) ?_) | (refine wpList_load_partG 174 _ rfl b1 0 3 rfl rfl 174 (winC x) (0, 0) _ H1.out Tryz.underlying174 rfl info_win (win_fits _) _ (win_all _) ?_) | (go_at_call 193; refine (HT.out _ HR.out).mono ?_; rintro e W1 ⟨rfl, hb1⟩; replace H0 := Lib.hid (below_row hb1 H0.out); replace H1 := Lib.hid (below_row hb1 H1.out); replace HR := Lib.hid (below_row hb1 HR.out); replace hb := hb.trans (hb1.mono hb.size); clear hb1)) | (refine wpList_store_part rfl 126 _ _ rfl _ 0 (tileC p q) rfl rfl 126 _ (heap_alloc_new _ _) (by kernel_rfl) (Nat.le_refl _) (tile_one _ _) ?_; rw [laid_allr _ _ (by rfl)]))
  refine abs_world (fun V => Below W1.heap.size W1 V ∧ V.heap[W1.heap.size]? = some (.cells (tileC p q) 126 (0, 0))) ⟨below_setRow ((Below.refl _ _).alloc (Nat.le_refl _) _) (Nat.le_refl _) _, setRow_heap _ _ _ _ _ _ (heap_alloc_new _ _)⟩ ?_
  rintro V ⟨hb9, h9⟩
  replace H0 := Lib.hid (below_row hb9 H0.out)
  replace H1 := Lib.hid (below_row hb9 H1.out)
  replace hb := hb.trans (hb9.mono hb.size)
  obtain ⟨d0, d1, d2⟩ := desk_cells H0.out
  obtain ⟨x0, _, _⟩ := win_cells H1.out
  obtain ⟨t0, t1⟩ := tile_cells h9
  have H9 := Lib.hid h9
  clear hb9 h9 HR HT
  generalize W1.heap.size = tb at *
  go_wp2_with (first | (refine wpList_load_partG 128 _ rfl w.heap.size 0 3 rfl rfl 128 (deskC a1 a2 a3) (0, 0) _ H0.out Tryz.underlying128 rfl info_desk (desk_fits _ _ _) _ (desk_all _ _ _) ?_) | (refine wpList_load_partG 126 _ rfl w.heap.size 0 2 rfl rfl 128 (deskC a1 a2 a3) (0, 0) _ H0.out Tryz.underlying126 rfl info_tile (desk_fits2 _ _ _) _ (desk_tile _ _ _) ?_) | (refine wpList_load_partG 126 _ rfl tb 0 2 rfl rfl 126 (tileC p q) (0, 0) _ H9.out Tryz.underlying126 rfl info_tile (tile_fits _ _) _ (tile_all _ _) ?_))
  go_ret
  exact ⟨rfl, hb⟩

set_option maxRecDepth 100000 in
set_option maxHeartbeats 1000000 in
theorem l03Ahead_0 (wd hg : Int) (sv : Value) (x : Wn) (hf : FitOk wd hg x) (hrb : RB wd hg) (a1 a2 a3 p q : Int) (hpq : tlW wd hg x = (p, q)) (hE : ¬ (p = a1 ∧ q = a2)) (hl : a3 = 0) (gb : Nat) (T : TypeId) (fr : Nat × Nat) (w : World) (hb0 : w.heap[gb]? = some (.cells (roomC wd hg sv) T fr)) :
    Calls Tryz.prog 179 #[.pointer (some ⟨gb, 0, none⟩), .agg (deskC a1 a2 a3), .agg (winC x)] w fun e w' => e = .returned (.bool (decide (q < a2))) ∧ Below w.heap.size w w' := by
  have HT : Hid (∀ w : World, w.heap[gb]? = some (.cells (roomC wd hg sv) T fr) → Calls Tryz.prog 193 #[.pointer (some ⟨gb, 0, none⟩), .agg (winC x)] w fun e w' => e = .returned (.agg (tileC p q)) ∧ Below w.heap.size w w') := fun w h => by
    have t := l03Tile_any wd hg sv x hf hrb gb T fr w h
    rw [hpq] at t
    exact t
  have hq := run_eql_tile p q a1 a2
  have hgd := fun w => run_eqGuard_agg (P := Tryz.prog) w .eql 126 (.tmp 12) (.tmp 14) (tileC p q) (tileC a1 a2) (by kernel_rfl)
  rw [pair_no hE] at hq
  have e0 : (a3 == 0) = true := by simp [hl]
  have HR := Lib.hid hb0
  clear hb0 hf hrb hpq hE hl
  go_enter Tryz.func179, Tryz.ntmps179
  go_upto_region 1 with (fail)
  refine abs_world (fun W => W.heap[w.heap.size]? = some (.cells (deskC a1 a2 a3) 128 (0, 0)) ∧ W.heap[w.heap.size + 1]? = some (.cells (winC x) 174 (0, 0)) ∧ Below w.heap.size w W) (box2 w (.cells (deskC a1 a2 a3) 128) (.cells (winC x) 174)) ?_
  rintro W ⟨h0, h1, hb⟩
  generalize w.heap.size + 1 = b1 at *
  have H0 := Lib.hid h0
  have H1 := Lib.hid h1
  replace HR := Lib.hid (below_row hb HR.out)
  clear h0 h1
  go_upto_region 2 with (first | (first | (refine wpList_load_partG 128 _ rfl w.heap.size 0 3 rfl rfl 128 (deskC a1 a2 a3) (0, 0) _ H0.out Tryz.underlying128 rfl info_desk (desk_fits _ _ _) _ (desk_all _ _ _) ?_) | (refine wpList_load_partG 126 _ rfl w.heap.size 0 2 rfl rfl 128 (deskC a1 a2 a3) (0, 0) _ H0.out Tryz.underlying126 rfl info_tile (desk_fits2 _ _ _) _ (desk_tile _ _ _) ?_) | (refine wpList_load_partG 174 _ rfl b1 0 3 rfl rfl 174 (winC x) (0, 0) _ H1.out Tryz.underlying174 rfl info_win (win_fits _) _ (win_all _) ?_) | (go_at_call 193; refine (HT.out _ HR.out).mono ?_; rintro e W1 ⟨rfl, hb1⟩; replace H0 := Lib.hid (below_row hb1 H0.out); replace H1 := Lib.hid (below_row hb1 H1.out); replace HR := Lib.hid (below_row hb1 HR.out); replace hb := hb.trans (hb1.mono hb.size); clear hb1)) | (refine wpList_store_part rfl 126 _ _ rfl _ 0 (tileC p q) rfl rfl 126 _ (heap_alloc_new _ _) (by kernel_rfl) (Nat.le_refl _) (tile_one _ _) ?_; rw [laid_allr _ _ (by rfl)]))
  refine abs_world (fun V => Below W1.heap.size W1 V ∧ V.heap[W1.heap.size]? = some (.cells (tileC p q) 126 (0, 0))) ⟨below_setRow ((Below.refl _ _).alloc (Nat.le_refl _) _) (Nat.le_refl _) _, setRow_heap _ _ _ _ _ _ (heap_alloc_new _ _)⟩ ?_
  rintro V ⟨hb9, h9⟩
  replace H0 := Lib.hid (below_row hb9 H0.out)
  replace H1 := Lib.hid (below_row hb9 H1.out)
  replace hb := hb.trans (hb9.mono hb.size)
  obtain ⟨d0, d1, d2⟩ := desk_cells H0.out
  obtain ⟨x0, _, _⟩ := win_cells H1.out
  obtain ⟨t0, t1⟩ := tile_cells h9
  have H9 := Lib.hid h9
  clear hb9 h9 HR HT
  generalize W1.heap.size = tb at *
  go_wp2_with (first | (refine wpList_load_partG 128 _ rfl w.heap.size 0 3 rfl rfl 128 (deskC a1 a2 a3) (0, 0) _ H0.out Tryz.underlying128 rfl info_desk (desk_fits _ _ _) _ (desk_all _ _ _) ?_) | (refine wpList_load_partG 126 _ rfl w.heap.size 0 2 rfl rfl 128 (deskC a1 a2 a3) (0, 0) _ H0.out Tryz.underlying126 rfl info_tile (desk_fits2 _ _ _) _ (desk_tile _ _ _) ?_) | (refine wpList_load_partG 126 _ rfl tb 0 2 rfl rfl 126 (tileC p q) (0, 0) _ H9.out Tryz.underlying126 rfl info_tile (tile_fits _ _) _ (tile_all _ _) ?_))
  go_ret
  exact ⟨rfl, hb⟩

set_option maxRecDepth 100000 in
set_option maxHeartbeats 1000000 in
theorem l03Ahead_1 (wd hg : Int) (sv : Value) (x : Wn) (hf : FitOk wd hg x) (hrb : RB wd hg) (a1 a2 a3 p q : Int) (hpq : tlW wd hg x = (p, q)) (hE : ¬ (p = a1 ∧ q = a2)) (hl : a3 = 1) (gb : Nat) (T : TypeId) (fr : Nat × Nat) (w : World) (hb0 : w.heap[gb]? = some (.cells (roomC wd hg sv) T fr)) :
    Calls Tryz.prog 179 #[.pointer (some ⟨gb, 0, none⟩), .agg (deskC a1 a2 a3), .agg (winC x)] w fun e w' => e = .returned (.bool (decide (a1 < p))) ∧ Below w.heap.size w w' := by
  have HT : Hid (∀ w : World, w.heap[gb]? = some (.cells (roomC wd hg sv) T fr) → Calls Tryz.prog 193 #[.pointer (some ⟨gb, 0, none⟩), .agg (winC x)] w fun e w' => e = .returned (.agg (tileC p q)) ∧ Below w.heap.size w w') := fun w h => by
    have t := l03Tile_any wd hg sv x hf hrb gb T fr w h
    rw [hpq] at t
    exact t
  have hq := run_eql_tile p q a1 a2
  have hgd := fun w => run_eqGuard_agg (P := Tryz.prog) w .eql 126 (.tmp 12) (.tmp 14) (tileC p q) (tileC a1 a2) (by kernel_rfl)
  rw [pair_no hE] at hq
  have e0 : (a3 == 0) = false := by simp [hl]
  have e1 : (a3 == 1) = true := by simp [hl]
  have HR := Lib.hid hb0
  clear hb0 hf hrb hpq hE hl
  go_enter Tryz.func179, Tryz.ntmps179
  go_upto_region 1 with (fail)
  refine abs_world (fun W => W.heap[w.heap.size]? = some (.cells (deskC a1 a2 a3) 128 (0, 0)) ∧ W.heap[w.heap.size + 1]? = some (.cells (winC x) 174 (0, 0)) ∧ Below w.heap.size w W) (box2 w (.cells (deskC a1 a2 a3) 128) (.cells (winC x) 174)) ?_
  rintro W ⟨h0, h1, hb⟩
  generalize w.heap.size + 1 = b1 at *
  have H0 := Lib.hid h0
  have H1 := Lib.hid h1
  replace HR := Lib.hid (below_row hb HR.out)
  clear h0 h1
  go_upto_region 2 with (first | (first | (refine wpList_load_partG 128 _ rfl w.heap.size 0 3 rfl rfl 128 (deskC a1 a2 a3) (0, 0) _ H0.out Tryz.underlying128 rfl info_desk (desk_fits _ _ _) _ (desk_all _ _ _) ?_) | (refine wpList_load_partG 126 _ rfl w.heap.size 0 2 rfl rfl 128 (deskC a1 a2 a3) (0, 0) _ H0.out Tryz.underlying126 rfl info_tile (desk_fits2 _ _ _) _ (desk_tile _ _ _) ?_) | (refine wpList_load_partG 174 _ rfl b1 0 3 rfl rfl 174 (winC x) (0, 0) _ H1.out Tryz.underlying174 rfl info_win (win_fits _) _ (win_all _) ?_) | (go_at_call 193; refine (HT.out _ HR.out).mono ?_; rintro e W1 ⟨rfl, hb1⟩; replace H0 := Lib.hid (below_row hb1 H0.out); replace H1 := Lib.hid (below_row hb1 H1.out); replace HR := Lib.hid (below_row hb1 HR.out); replace hb := hb.trans (hb1.mono hb.size); clear hb1)) | (refine wpList_store_part rfl 126 _ _ rfl _ 0 (tileC p q) rfl rfl 126 _ (heap_alloc_new _ _) (by kernel_rfl) (Nat.le_refl _) (tile_one _ _) ?_; rw [laid_allr _ _ (by rfl)]))
  refine abs_world (fun V => Below W1.heap.size W1 V ∧ V.heap[W1.heap.size]? = some (.cells (tileC p q) 126 (0, 0))) ⟨below_setRow ((Below.refl _ _).alloc (Nat.le_refl _) _) (Nat.le_refl _) _, setRow_heap _ _ _ _ _ _ (heap_alloc_new _ _)⟩ ?_
  rintro V ⟨hb9, h9⟩
  replace H0 := Lib.hid (below_row hb9 H0.out)
  replace H1 := Lib.hid (below_row hb9 H1.out)
  replace hb := hb.trans (hb9.mono hb.size)
  obtain ⟨d0, d1, d2⟩ := desk_cells H0.out
  obtain ⟨x0, _, _⟩ := win_cells H1.out
  obtain ⟨t0, t1⟩ := tile_cells h9
  have H9 := Lib.hid h9
  clear hb9 h9 HR HT
  generalize W1.heap.size = tb at *
  go_wp2_with (first | (refine wpList_load_partG 128 _ rfl w.heap.size 0 3 rfl rfl 128 (deskC a1 a2 a3) (0, 0) _ H0.out Tryz.underlying128 rfl info_desk (desk_fits _ _ _) _ (desk_all _ _ _) ?_) | (refine wpList_load_partG 126 _ rfl w.heap.size 0 2 rfl rfl 128 (deskC a1 a2 a3) (0, 0) _ H0.out Tryz.underlying126 rfl info_tile (desk_fits2 _ _ _) _ (desk_tile _ _ _) ?_) | (refine wpList_load_partG 126 _ rfl tb 0 2 rfl rfl 126 (tileC p q) (0, 0) _ H9.out Tryz.underlying126 rfl info_tile (tile_fits _ _) _ (tile_all _ _) ?_))
  go_ret
  exact ⟨rfl, hb⟩

set_option maxRecDepth 100000 in
set_option maxHeartbeats 1000000 in
theorem l03Ahead_2 (wd hg : Int) (sv : Value) (x : Wn) (hf : FitOk wd hg x) (hrb : RB wd hg) (a1 a2 a3 p q : Int) (hpq : tlW wd hg x = (p, q)) (hE : ¬ (p = a1 ∧ q = a2)) (hl : a3 = 2) (gb : Nat) (T : TypeId) (fr : Nat × Nat) (w : World) (hb0 : w.heap[gb]? = some (.cells (roomC wd hg sv) T fr)) :
    Calls Tryz.prog 179 #[.pointer (some ⟨gb, 0, none⟩), .agg (deskC a1 a2 a3), .agg (winC x)] w fun e w' => e = .returned (.bool (decide (a2 < q))) ∧ Below w.heap.size w w' := by
  have HT : Hid (∀ w : World, w.heap[gb]? = some (.cells (roomC wd hg sv) T fr) → Calls Tryz.prog 193 #[.pointer (some ⟨gb, 0, none⟩), .agg (winC x)] w fun e w' => e = .returned (.agg (tileC p q)) ∧ Below w.heap.size w w') := fun w h => by
    have t := l03Tile_any wd hg sv x hf hrb gb T fr w h
    rw [hpq] at t
    exact t
  have hq := run_eql_tile p q a1 a2
  have hgd := fun w => run_eqGuard_agg (P := Tryz.prog) w .eql 126 (.tmp 12) (.tmp 14) (tileC p q) (tileC a1 a2) (by kernel_rfl)
  rw [pair_no hE] at hq
  have e0 : (a3 == 0) = false := by simp [hl]
  have e1 : (a3 == 1) = false := by simp [hl]
  have e2 : (a3 == 2) = true := by simp [hl]
  have HR := Lib.hid hb0
  clear hb0 hf hrb hpq hE hl
  go_enter Tryz.func179, Tryz.ntmps179
  go_upto_region 1 with (fail)
  refine abs_world (fun W => W.heap[w.heap.size]? = some (.cells (deskC a1 a2 a3) 128 (0, 0)) ∧ W.heap[w.heap.size + 1]? = some (.cells (winC x) 174 (0, 0)) ∧ Below w.heap.size w W) (box2 w (.cells (deskC a1 a2 a3) 128) (.cells (winC x) 174)) ?_
  rintro W ⟨h0, h1, hb⟩
  generalize w.heap.size + 1 = b1 at *
  have H0 := Lib.hid h0
  have H1 := Lib.hid h1
  replace HR := Lib.hid (below_row hb HR.out)
  clear h0 h1
  go_upto_region 2 with (first | (first | (refine wpList_load_partG 128 _ rfl w.heap.size 0 3 rfl rfl 128 (deskC a1 a2 a3) (0, 0) _ H0.out Tryz.underlying128 rfl info_desk (desk_fits _ _ _) _ (desk_all _ _ _) ?_) | (refine wpList_load_partG 126 _ rfl w.heap.size 0 2 rfl rfl 128 (deskC a1 a2 a3) (0, 0) _ H0.out Tryz.underlying126 rfl info_tile (desk_fits2 _ _ _) _ (desk_tile _ _ _) ?_) | (refine wpList_load_partG 174 _ rfl b1 0 3 rfl rfl 174 (winC x) (0, 0) _ H1.out Tryz.underlying174 rfl info_win (win_fits _) _ (win_all _) ?_) | (go_at_call 193; refine (HT.out _ HR.out).mono ?_; rintro e W1 ⟨rfl, hb1⟩; replace H0 := Lib.hid (below_row hb1 H0.out); replace H1 := Lib.hid (below_row hb1 H1.out); replace HR := Lib.hid (below_row hb1 HR.out); replace hb := hb.trans (hb1.mono hb.size); clear hb1)) | (refine wpList_store_part rfl 126 _ _ rfl _ 0 (tileC p q) rfl rfl 126 _ (heap_alloc_new _ _) (by kernel_rfl) (Nat.le_refl _) (tile_one _ _) ?_; rw [laid_allr _ _ (by rfl)]))
  refine abs_world (fun V => Below W1.heap.size W1 V ∧ V.heap[W1.heap.size]? = some (.cells (tileC p q) 126 (0, 0))) ⟨below_setRow ((Below.refl _ _).alloc (Nat.le_refl _) _) (Nat.le_refl _) _, setRow_heap _ _ _ _ _ _ (heap_alloc_new _ _)⟩ ?_
  rintro V ⟨hb9, h9⟩
  replace H0 := Lib.hid (below_row hb9 H0.out)
  replace H1 := Lib.hid (below_row hb9 H1.out)
  replace hb := hb.trans (hb9.mono hb.size)
  obtain ⟨d0, d1, d2⟩ := desk_cells H0.out
  obtain ⟨x0, _, _⟩ := win_cells H1.out
  obtain ⟨t0, t1⟩ := tile_cells h9
  have H9 := Lib.hid h9
  clear hb9 h9 HR HT
  generalize W1.heap.size = tb at *
  go_wp2_with (first | (refine wpList_load_partG 128 _ rfl w.heap.size 0 3 rfl rfl 128 (deskC a1 a2 a3) (0, 0) _ H0.out Tryz.underlying128 rfl info_desk (desk_fits _ _ _) _ (desk_all _ _ _) ?_) | (refine wpList_load_partG 126 _ rfl w.heap.size 0 2 rfl rfl 128 (deskC a1 a2 a3) (0, 0) _ H0.out Tryz.underlying126 rfl info_tile (desk_fits2 _ _ _) _ (desk_tile _ _ _) ?_) | (refine wpList_load_partG 126 _ rfl tb 0 2 rfl rfl 126 (tileC p q) (0, 0) _ H9.out Tryz.underlying126 rfl info_tile (tile_fits _ _) _ (tile_all _ _) ?_))
  go_ret
  exact ⟨rfl, hb⟩

set_option maxRecDepth 100000 in
set_option maxHeartbeats 1000000 in
theorem l03Ahead_3 (wd hg : Int) (sv : Value) (x : Wn) (hf : FitOk wd hg x) (hrb : RB wd hg) (a1 a2 a3 p q : Int) (hpq : tlW wd hg x = (p, q)) (hE : ¬ (p = a1 ∧ q = a2)) (hl : a3 ≠ 0 ∧ a3 ≠ 1 ∧ a3 ≠ 2) (gb : Nat) (T : TypeId) (fr : Nat × Nat) (w : World) (hb0 : w.heap[gb]? = some (.cells (roomC wd hg sv) T fr)) :
    Calls Tryz.prog 179 #[.pointer (some ⟨gb, 0, none⟩), .agg (deskC a1 a2 a3), .agg (winC x)] w fun e w' => e = .returned (.bool (decide (p < a1))) ∧ Below w.heap.size w w' := by
  have HT : Hid (∀ w : World, w.heap[gb]? = some (.cells (roomC wd hg sv) T fr) → Calls Tryz.prog 193 #[.pointer (some ⟨gb, 0, none⟩), .agg (winC x)] w fun e w' => e = .returned (.agg (tileC p q)) ∧ Below w.heap.size w w') := fun w h => by
    have t := l03Tile_any wd hg sv x hf hrb gb T fr w h
    rw [hpq] at t
    exact t
  have hq := run_eql_tile p q a1 a2
  have hgd := fun w => run_eqGuard_agg (P := Tryz.prog) w .eql 126 (.tmp 12) (.tmp 14) (tileC p q) (tileC a1 a2) (by kernel_rfl)
  rw [pair_no hE] at hq
  have e0 : (a3 == 0) = false := by simpa using hl.1
  have e1 : (a3 == 1) = false := by simpa using hl.2.1
  have e2 : (a3 == 2) = false := by simpa using hl.2.2
  have HR := Lib.hid hb0
  clear hb0 hf hrb hpq hE hl
  go_enter Tryz.func179, Tryz.ntmps179
  go_upto_region 1 with (fail)
  refine abs_world (fun W => W.heap[w.heap.size]? = some (.cells (deskC a1 a2 a3) 128 (0, 0)) ∧ W.heap[w.heap.size + 1]? = some (.cells (winC x) 174 (0, 0)) ∧ Below w.heap.size w W) (box2 w (.cells (deskC a1 a2 a3) 128) (.cells (winC x) 174)) ?_
  rintro W ⟨h0, h1, hb⟩
  generalize w.heap.size + 1 = b1 at *
  have H0 := Lib.hid h0
  have H1 := Lib.hid h1
  replace HR := Lib.hid (below_row hb HR.out)
  clear h0 h1
  go_upto_region 2 with (first | (first | (refine wpList_load_partG 128 _ rfl w.heap.size 0 3 rfl rfl 128 (deskC a1 a2 a3) (0, 0) _ H0.out Tryz.underlying128 rfl info_desk (desk_fits _ _ _) _ (desk_all _ _ _) ?_) | (refine wpList_load_partG 126 _ rfl w.heap.size 0 2 rfl rfl 128 (deskC a1 a2 a3) (0, 0) _ H0.out Tryz.underlying126 rfl info_tile (desk_fits2 _ _ _) _ (desk_tile _ _ _) ?_) | (refine wpList_load_partG 174 _ rfl b1 0 3 rfl rfl 174 (winC x) (0, 0) _ H1.out Tryz.underlying174 rfl info_win (win_fits _) _ (win_all _) ?_) | (go_at_call 193; refine (HT.out _ HR.out).mono ?_; rintro e W1 ⟨rfl, hb1⟩; replace H0 := Lib.hid (below_row hb1 H0.out); replace H1 := Lib.hid (below_row hb1 H1.out); replace HR := Lib.hid (below_row hb1 HR.out); replace hb := hb.trans (hb1.mono hb.size); clear hb1)) | (refine wpList_store_part rfl 126 _ _ rfl _ 0 (tileC p q) rfl rfl 126 _ (heap_alloc_new _ _) (by kernel_rfl) (Nat.le_refl _) (tile_one _ _) ?_; rw [laid_allr _ _ (by rfl)]))
  refine abs_world (fun V => Below W1.heap.size W1 V ∧ V.heap[W1.heap.size]? = some (.cells (tileC p q) 126 (0, 0))) ⟨below_setRow ((Below.refl _ _).alloc (Nat.le_refl _) _) (Nat.le_refl _) _, setRow_heap _ _ _ _ _ _ (heap_alloc_new _ _)⟩ ?_
  rintro V ⟨hb9, h9⟩
  replace H0 := Lib.hid (below_row hb9 H0.out)
  replace H1 := Lib.hid (below_row hb9 H1.out)
  replace hb := hb.trans (hb9.mono hb.size)
  obtain ⟨d0, d1, d2⟩ := desk_cells H0.out
  obtain ⟨x0, _, _⟩ := win_cells H1.out
  obtain ⟨t0, t1⟩ := tile_cells h9
  have H9 := Lib.hid h9
  clear hb9 h9 HR HT
  generalize W1.heap.size = tb at *
  go_wp2_with (first | (refine wpList_load_partG 128 _ rfl w.heap.size 0 3 rfl rfl 128 (deskC a1 a2 a3) (0, 0) _ H0.out Tryz.underlying128 rfl info_desk (desk_fits _ _ _) _ (desk_all _ _ _) ?_) | (refine wpList_load_partG 126 _ rfl w.heap.size 0 2 rfl rfl 128 (deskC a1 a2 a3) (0, 0) _ H0.out Tryz.underlying126 rfl info_tile (desk_fits2 _ _ _) _ (desk_tile _ _ _) ?_) | (refine wpList_load_partG 126 _ rfl tb 0 2 rfl rfl 126 (tileC p q) (0, 0) _ H9.out Tryz.underlying126 rfl info_tile (tile_fits _ _) _ (tile_all _ _) ?_))
  go_ret
  exact ⟨rfl, hb⟩

theorem l03Ahead_any (wd hg : Int) (sv : Value) (x : Wn) (hf : FitOk wd hg x) (hrb : RB wd hg) (a1 a2 a3 : Int) (gb : Nat) (T : TypeId) (fr : Nat × Nat) (w : World) (hb0 : w.heap[gb]? = some (.cells (roomC wd hg sv) T fr)) :
    Calls Tryz.prog 179 #[.pointer (some ⟨gb, 0, none⟩), .agg (deskC a1 a2 a3), .agg (winC x)] w fun e w' => e = .returned (.bool (glW wd hg a1 a2 a3 x)) ∧ Below w.heap.size w w' := by
  unfold glW glB ahB
  by_cases hE : (tlW wd hg x).1 = a1 ∧ (tlW wd hg x).2 = a2
  · rw [if_pos hE]; exact l03Ahead_e wd hg sv x hf hrb a1 a2 a3 _ _ rfl hE gb T fr w hb0
  · rw [if_neg hE]
    by_cases h0 : a3 = 0
    · rw [if_pos h0]; exact l03Ahead_0 wd hg sv x hf hrb a1 a2 a3 _ _ rfl hE h0 gb T fr w hb0
    · rw [if_neg h0]
      by_cases h1 : a3 = 1
      · rw [if_pos h1]; exact l03Ahead_1 wd hg sv x hf hrb a1 a2 a3 _ _ rfl hE h1 gb T fr w hb0
      · rw [if_neg h1]
        by_cases h2 : a3 = 2
        · rw [if_pos h2]; exact l03Ahead_2 wd hg sv x hf hrb a1 a2 a3 _ _ rfl hE h2 gb T fr w hb0
        · rw [if_neg h2]; exact l03Ahead_3 wd hg sv x hf hrb a1 a2 a3 _ _ rfl hE ⟨h0, h1, h2⟩ gb T fr w hb0

end Go.Proofs.YtpcmcopfdghdgaaGreatDoor

namespace Go.Proofs.YtpcmcopfdghdgaaGreatDoor
open Go.RowKit

attribute [local go_sem] run_store_f

set_option maxRecDepth 100000 in
set_option maxHeartbeats 1000000 in
theorem l03Glare_any (wd hg : Int) (sv : Value) (ws : List Wn) (ok : RmOk wd hg ws) (hwf : ∀ x ∈ ws, WnWf x) (a1 a2 a3 : Int) (ha : inRoom wd hg (a1, a2)) (gb : Nat) (T : TypeId) (fr : Nat × Nat) (w : World) (hb0 : w.heap[gb]? = some (.cells (roomC wd hg sv) T fr)) (hws : WinsAt w sv ws) :
    Calls Tryz.prog 154 #[.pointer (some ⟨gb, 0, none⟩), .agg (deskC a1 a2 a3)] w fun e w' => e = .returned (.float .f32 (litW wd hg (a1, a2) (glW wd hg a1 a2 a3) ws)) ∧ Below w.heap.size w w' := by
  have HW := Lib.hid hws
  have HOk := Lib.hid ok
  have HF := Lib.hid hwf
  have HAt := Lib.hid ha
  have H0 := Lib.hid hb0
  obtain ⟨a, cap, rfl, hl1, hl2, _⟩ := hws
  unfold maxLen at hl2
  generalize hn : ws.length = n at *
  have HN := Lib.hid hn
  have HRB := Lib.hid (show RB wd hg from ⟨ok.w0, ok.w1, ok.h0, ok.h1⟩)
  clear hn hwf ha ok hb0
  go_enter Tryz.func154, Tryz.ntmps154
  go_upto_region 1 with (fail)
  refine abs_world (fun W => Below w.heap.size w W ∧ W.heap[w.heap.size]? = some (.cells (deskC a1 a2 a3) 128 (0, 0))) ⟨(Below.refl _ _).alloc (Nat.le_refl _) _, heap_alloc_new _ _⟩ ?_
  rintro W ⟨hb, h1⟩
  replace H0 := Lib.hid (below_row hb H0.out)
  have H1 := Lib.hid h1
  clear h1
  go_wp2
  go_loopw [5, 6] (fun q i wr => ∃ k : Nat, k ≤ n ∧ i = .int .i64 k ∧ q = .float .f32 (sumL (qsW wd hg (a1, a2) (glW wd hg a1 a2 a3) (ws.take k))) ∧ Below w.heap.size w wr ∧ wr.heap[gb]? = some (.cells (roomC wd hg (.slice a n cap)) T fr) ∧ wr.heap[w.heap.size]? = some (.cells (deskC a1 a2 a3) 128 (0, 0))) (fun _ i _ => n - (intOf i).toNat)
  case atStart => exact ⟨0, Nat.zero_le _, rfl, rfl, hb, H0.out, H1.out⟩
  case round =>
    clear H0 H1 hb
    obtain ⟨k, hk, rfl, rfl, hb, h0, h1⟩ := hrel
    have H0 := Lib.hid h0
    have H1 := Lib.hid h1
    obtain ⟨r0, r1, r2⟩ := room_cells h0
    clear h0 h1
    by_cases hlt : k < n
    · have hx : ws[k]? = some (ws[k]'(by rw [HN.out]; exact hlt)) := List.getElem?_eq_getElem _
      obtain ⟨g, o, rfl, hc⟩ := win_at (wins_below HW.out hb) hx
      have HCl := Lib.hid hc
      have hts : ws.take (k + 1) = ws.take k ++ [ws[k]'(by rw [HN.out]; exact hlt)] := by rw [List.take_succ_eq_append_getElem]
      have hmem := List.mem_of_getElem? hx
      generalize (ws[k]'(by rw [HN.out]; exact hlt)) = x at *
      have hfx : FitOk wd hg x := fit_get (HF.out x hmem) (HOk.out.all x hmem)
      have HT := Lib.hid hts
      obtain ⟨_, f2⟩ := from_facts HOk.out.w0 HOk.out.w1 HOk.out.h0 HOk.out.h1 HAt.out hfx
      have hqs : ∀ q ∈ qsW wd hg (a1, a2) (glW wd hg a1 a2 a3) (ws.take k), PartOk q := qsW_ok HOk.out.w0 HOk.out.w1 HOk.out.h0 HOk.out.h1 HAt.out (fun y hy => fit_get (HF.out y (List.mem_of_mem_take hy)) (HOk.out.all y (List.mem_of_mem_take hy)))
      have hql : (qsW wd hg (a1, a2) (glW wd hg a1 a2 a3) (ws.take k)).length ≤ 12 := Nat.le_trans (qsW_len _ _ _ _ _) (Nat.le_trans (List.length_take_le _ _) (by have := HOk.out.len; have := HN.out; omega))
      have f3 := sumL_step hqs f2 hql
      have HQ1 : Hid (glW wd hg a1 a2 a3 x = true → qsW wd hg (a1, a2) (glW wd hg a1 a2 a3) (ws.take (k + 1)) = qsW wd hg (a1, a2) (glW wd hg a1 a2 a3) (ws.take k) ++ [fromW wd hg (a1, a2) x]) := Lib.hid (fun h => by rw [HT.out]; exact qsW_hit _ _ _ _ _ _ h)
      have HQ2 : Hid (glW wd hg a1 a2 a3 x = false → qsW wd hg (a1, a2) (glW wd hg a1 a2 a3) (ws.take (k + 1)) = qsW wd hg (a1, a2) (glW wd hg a1 a2 a3) (ws.take k)) := Lib.hid (fun h => by rw [HT.out]; exact qsW_miss _ _ _ _ _ _ h)
      have HFr := Lib.hid (fun (V : World) hV => l03From_any wd hg (.slice (some ⟨g, o, none⟩) n cap) x hfx HRB.out a1 a2 HAt.out gb T fr V hV)
      have HAh := Lib.hid (fun (V : World) hV => l03Ahead_any wd hg (.slice (some ⟨g, o, none⟩) n cap) x hfx HRB.out a1 a2 a3 gb T fr V hV)
      have z1 : (k : Int) < (n : Int) := by omega
      have z2 : (0 : Int) ≤ (k : Int) := by omega
      have z3 : decide ((k : Int) < (n : Int)) = true := decide_eq_true z1
      have ra : ∀ T w, (binOp .add T (.float .f32 (sumL (qsW wd hg (a1, a2) (glW wd hg a1 a2 a3) (ws.take k)))) (.float .f32 (fromW wd hg (a1, a2) x))).run Tryz.prog w = .ok (.float .f32 (sumL (qsW wd hg (a1, a2) (glW wd hg a1 a2 a3) (ws.take k) ++ [fromW wd hg (a1, a2) x]))) w := fun T w => run_float_arith w .add T .f32 _ _ _ f3
      have hsz := row_lt H1.out
      clear hc hx hts hmem hfx f2 f3 hqs hql
      go_wp2
      refine wp_region_held_drew (S := (fun V => Below wr.heap.size wr V)) (by kernel_rfl) ((Below.refl _ _).drew) (fun hHeld => ?_)
      refine take_op (i := 0) (d := 16) (v := ?_) rfl rfl (by kernel_rfl) (by kernel_rfl) (by kernel_rfl) (fun _ _ _ h => h) (Or.inl ⟨by rfl, ?hy0u1⟩) hHeld ?rest0u1
      case hy0u1 =>
        intro w' hS'
        go_simp
        try with_reducible rfl
      simp only [List.setIfInBounds_toArray, List.set_cons_zero, List.set_cons_succ]
      refine take_op (i := 1) (d := 17) (v := .agg (deskC a1 a2 a3)) rfl rfl (by kernel_rfl) (by kernel_rfl) (by kernel_rfl) (fun _ _ _ h => h) (yields_row (by rfl) 128 (.tmp 3) (by rfl) w.heap.size 0 3 (by rfl) 128 (deskC a1 a2 a3) (0, 0) _ (fun _ h => below_row h H1.out) Tryz.underlying128 rfl info_desk (desk_fits _ _ _) (deskC a1 a2 a3) (desk_all _ _ _)) hHeld ?_
      simp only [List.setIfInBounds_toArray, List.set_cons_zero, List.set_cons_succ]
      refine take_op (i := 2) (d := 18) (v := ?_) rfl rfl (by kernel_rfl) (by kernel_rfl) (by kernel_rfl) (fun _ _ _ h => h) (Or.inl ⟨by rfl, ?hy2u2⟩) hHeld ?rest2u2
      case hy2u2 =>
        intro w' hS'
        go_simp
        try with_reducible rfl
      simp only [List.setIfInBounds_toArray, List.set_cons_zero, List.set_cons_succ]
      refine take_op (i := 3) (d := 19) (v := ?_) rfl rfl (by kernel_rfl) (by kernel_rfl) (by kernel_rfl) (fun _ _ _ h => h) (Or.inl ⟨by rfl, ?hy3u3⟩) hHeld ?rest3u3
      case hy3u3 =>
        intro w' hS'
        go_simp
        try with_reducible rfl
      simp only [List.setIfInBounds_toArray, List.set_cons_zero, List.set_cons_succ]
      refine take_op (i := 4) (d := 20) (v := ?_) rfl rfl (by kernel_rfl) (by kernel_rfl) (by kernel_rfl) (fun _ _ _ h => h) (Or.inl ⟨by rfl, ?hy4u4⟩) hHeld ?rest4u4
      case hy4u4 =>
        intro w' hS'
        go_simp
        try with_reducible rfl
      simp only [List.setIfInBounds_toArray, List.set_cons_zero, List.set_cons_succ]
      refine take_op (i := 5) (d := 21) (v := ?_) rfl rfl (by kernel_rfl) (by kernel_rfl) (by kernel_rfl) (fun _ _ _ h => h) (Or.inl ⟨by rfl, ?hy5u5⟩) hHeld ?rest5u5
      case hy5u5 =>
        intro w' hS'
        have r2 := cell_belowB hS' r2
        go_simp
        try with_reducible rfl
      simp only [List.setIfInBounds_toArray, List.set_cons_zero, List.set_cons_succ]
      refine take_op (i := 6) (d := 22) (v := ?_) rfl rfl (by kernel_rfl) (by kernel_rfl) (by kernel_rfl) (fun _ _ _ h => h) (Or.inl ⟨by rfl, ?hy6u6⟩) hHeld ?rest6u6
      case hy6u6 =>
        intro w' hS'
        go_simp
        try with_reducible rfl
      simp only [List.setIfInBounds_toArray, List.set_cons_zero, List.set_cons_succ]
      refine take_op (i := 7) (d := 23) (v := ?_) rfl rfl (by kernel_rfl) (by kernel_rfl) (by kernel_rfl) (fun _ _ _ h => h) (Or.inl ⟨by rfl, ?hy7u7⟩) hHeld ?rest7u7
      case hy7u7 =>
        intro w' hS'
        go_simp
        try with_reducible rfl
      simp only [List.setIfInBounds_toArray, List.set_cons_zero, List.set_cons_succ]
      refine take_op (i := 8) (d := 24) (v := .agg (winC x)) rfl rfl (by kernel_rfl) (by kernel_rfl) (by kernel_rfl) (fun _ _ _ h => h) (yields_cells (by rfl) 174 (.tmp 23) (by rfl) g (o + k * 3) 3 (by rfl) _ Tryz.underlying174 rfl info_win (winC x) rfl (fun _ h => (fun j v hj => cell_below h (HCl.out j v hj)))) hHeld ?_
      simp only [List.setIfInBounds_toArray, List.set_cons_zero, List.set_cons_succ]
      refine wpAnyH_ready (rs := [9]) (by kernel_rfl) (by simp) ?_
      refine AllReadyH.cons rfl (fun K hK => ?_) AllReadyH.nil
      go_simp
      refine (HAh.out _ (below_row hHeld H0.out)).mono ?_
      rintro e W1 ⟨rfl, hb1⟩
      refine hK.out _ _ (hHeld.trans (hb1.mono hHeld.size)) (fun hHeld2 => ?_)
      clear hK K
      replace hHeld := hHeld2
      clear hHeld2
      clear hb1
      refine wpAnyH_done (by kernel_rfl) ?_ _
      replace H0 := Lib.hid (below_row hHeld H0.out)
      replace H1 := Lib.hid (below_row hHeld H1.out)
      replace HCl := Lib.hid ((fun j v hj => cell_below hHeld (HCl.out j v hj)))
      replace r2 := cell_belowB hHeld r2
      replace hb := hb.trans (hHeld.mono hb.size)
      clear hHeld
      cases hgx : glW wd hg a1 a2 a3 x with
      | true =>
        have HQ := Lib.hid (HQ1.out hgx)
        clear HQ1 HQ2
        go_upto_region 6 with (fail)
        refine wp_region_held_drew (S := (fun V => Below W1.heap.size W1 V)) (by kernel_rfl) ((Below.refl _ _).drew) (fun hHeld => ?_)
        refine take_op (i := 0) (d := 26) (v := ?_) rfl rfl (by kernel_rfl) (by kernel_rfl) (by kernel_rfl) (fun _ _ _ h => h) (Or.inl ⟨by rfl, ?hy0u8⟩) hHeld ?rest0u8
        case hy0u8 =>
          intro w' hS'
          go_simp
          try with_reducible rfl
        simp only [List.setIfInBounds_toArray, List.set_cons_zero, List.set_cons_succ]
        refine take_op (i := 1) (d := 27) (v := ?_) rfl rfl (by kernel_rfl) (by kernel_rfl) (by kernel_rfl) (fun _ _ _ h => h) (Or.inl ⟨by rfl, ?hy1u9⟩) hHeld ?rest1u9
        case hy1u9 =>
          intro w' hS'
          go_simp
          try with_reducible rfl
        simp only [List.setIfInBounds_toArray, List.set_cons_zero, List.set_cons_succ]
        refine take_op (i := 2) (d := 28) (v := ?_) rfl rfl (by kernel_rfl) (by kernel_rfl) (by kernel_rfl) (fun _ _ _ h => h) (Or.inl ⟨by rfl, ?hy2u10⟩) hHeld ?rest2u10
        case hy2u10 =>
          intro w' hS'
          go_simp
          try with_reducible rfl
        simp only [List.setIfInBounds_toArray, List.set_cons_zero, List.set_cons_succ]
        refine take_op (i := 3) (d := 29) (v := ?_) rfl rfl (by kernel_rfl) (by kernel_rfl) (by kernel_rfl) (fun _ _ _ h => h) (Or.inl ⟨by rfl, ?hy3u11⟩) hHeld ?rest3u11
        case hy3u11 =>
          intro w' hS'
          go_simp
          try with_reducible rfl
        simp only [List.setIfInBounds_toArray, List.set_cons_zero, List.set_cons_succ]
        refine take_op (i := 4) (d := 30) (v := ?_) rfl rfl (by kernel_rfl) (by kernel_rfl) (by kernel_rfl) (fun _ _ _ h => h) (Or.inl ⟨by rfl, ?hy4u12⟩) hHeld ?rest4u12
        case hy4u12 =>
          intro w' hS'
          go_simp
          try with_reducible rfl
        simp only [List.setIfInBounds_toArray, List.set_cons_zero, List.set_cons_succ]
        refine take_op (i := 5) (d := 31) (v := ?_) rfl rfl (by kernel_rfl) (by kernel_rfl) (by kernel_rfl) (fun _ _ _ h => h) (Or.inl ⟨by rfl, ?hy5u13⟩) hHeld ?rest5u13
        case hy5u13 =>
          intro w' hS'
          have r2 := cell_belowB hS' r2
          go_simp
          try with_reducible rfl
        simp only [List.setIfInBounds_toArray, List.set_cons_zero, List.set_cons_succ]
        refine take_op (i := 6) (d := 32) (v := ?_) rfl rfl (by kernel_rfl) (by kernel_rfl) (by kernel_rfl) (fun _ _ _ h => h) (Or.inl ⟨by rfl, ?hy6u14⟩) hHeld ?rest6u14
        case hy6u14 =>
          intro w' hS'
          go_simp
          try with_reducible rfl
        simp only [List.setIfInBounds_toArray, List.set_cons_zero, List.set_cons_succ]
        refine take_op (i := 7) (d := 33) (v := ?_) rfl rfl (by kernel_rfl) (by kernel_rfl) (by kernel_rfl) (fun _ _ _ h => h) (Or.inl ⟨by rfl, ?hy7u15⟩) hHeld ?rest7u15
        case hy7u15 =>
          intro w' hS'
          go_simp
          try with_reducible rfl
        simp only [List.setIfInBounds_toArray, List.set_cons_zero, List.set_cons_succ]
        refine take_op (i := 8) (d := 34) (v := .agg (winC x)) rfl rfl (by kernel_rfl) (by kernel_rfl) (by kernel_rfl) (fun _ _ _ h => h) (yields_cells (by rfl) 174 (.tmp 33) (by rfl) g (o + k * 3) 3 (by rfl) _ Tryz.underlying174 rfl info_win (winC x) rfl (fun _ h => (fun j v hj => cell_below h (HCl.out j v hj)))) hHeld ?_
        simp only [List.setIfInBounds_toArray, List.set_cons_zero, List.set_cons_succ]
        refine take_op (i := 9) (d := 35) (v := ?_) rfl rfl (by kernel_rfl) (by kernel_rfl) (by kernel_rfl) (fun _ _ _ h => h) (Or.inl ⟨by rfl, ?hy9u16⟩) hHeld ?rest9u16
        case hy9u16 =>
          intro w' hS'
          go_simp
          try with_reducible rfl
        simp only [List.setIfInBounds_toArray, List.set_cons_zero, List.set_cons_succ]
        refine take_op (i := 10) (d := 36) (v := .agg (tileC a1 a2)) rfl rfl (by kernel_rfl) (by kernel_rfl) (by kernel_rfl) (fun _ _ _ h => h) (yields_row (by rfl) 126 (.tmp 35) (by rfl) w.heap.size 0 2 (by rfl) 128 (deskC a1 a2 a3) (0, 0) _ (fun _ h => below_row h H1.out) Tryz.underlying126 rfl info_tile (desk_fits2 _ _ _) (tileC a1 a2) (desk_tile _ _ _)) hHeld ?_
        simp only [List.setIfInBounds_toArray, List.set_cons_zero, List.set_cons_succ]
        refine wpAnyH_ready (rs := [11]) (by kernel_rfl) (by simp) ?_
        refine AllReadyH.cons rfl (fun K hK => ?_) AllReadyH.nil
        go_simp
        refine (HFr.out _ (below_row hHeld H0.out)).mono ?_
        rintro e W2 ⟨rfl, hb2⟩
        refine hK.out _ _ (hHeld.trans (hb2.mono hHeld.size)) (fun hHeld2 => ?_)
        clear hK K
        replace hHeld := hHeld2
        clear hHeld2
        clear hb2
        refine take_op (i := 12) (d := 38) (v := ?_) rfl rfl (by kernel_rfl) (by kernel_rfl) (by kernel_rfl) (fun _ _ _ h => h) (Or.inl ⟨by rfl, ?hy12u17⟩) hHeld ?rest12u17
        case hy12u17 =>
          intro w' hS'
          go_simp
          try with_reducible rfl
        simp only [List.setIfInBounds_toArray, List.set_cons_zero, List.set_cons_succ]
        refine take_op (i := 13) (d := 5) (v := ?_) rfl rfl (by kernel_rfl) (by kernel_rfl) (by kernel_rfl) (fun _ _ _ h => h) (Or.inl ⟨by rfl, ?hy13u18⟩) hHeld ?rest13u18
        case hy13u18 =>
          intro w' hS'
          go_simp
          try with_reducible rfl
        simp only [List.setIfInBounds_toArray, List.set_cons_zero, List.set_cons_succ]
        refine wpAnyH_done (by kernel_rfl) ?_ _
        replace H0 := Lib.hid (below_row hHeld H0.out)
        replace H1 := Lib.hid (below_row hHeld H1.out)
        replace HCl := Lib.hid ((fun j v hj => cell_below hHeld (HCl.out j v hj)))
        replace r2 := cell_belowB hHeld r2
        replace hb := hb.trans (hHeld.mono hb.size)
        clear hHeld
        have HH := Lib.hid (And.intro hb (And.intro H0.out H1.out))
        clear hb H0 H1 HCl r2 ra r0 r1
        go_wp2
        go_roundw
        case rel => exact ⟨k + 1, by omega, by go_num, by rw [HQ.out], HH.out.1, HH.out.2.1, HH.out.2.2⟩
        case measure => simp [intOf]; omega
      | false =>
        have HQ := Lib.hid (HQ2.out hgx)
        clear HQ1 HQ2
        have HH := Lib.hid (And.intro hb (And.intro H0.out H1.out))
        clear hb H0 H1 HCl r2 ra r0 r1
        go_wp2
        go_roundw
        case rel => exact ⟨k + 1, by omega, by go_num, by rw [HQ.out], HH.out.1, HH.out.2.1, HH.out.2.2⟩
        case measure => simp [intOf]; omega
    · obtain rfl : k = n := by omega
      have HL : Hid (ws.take k = ws) := Lib.hid (List.take_of_length_le (by rw [HN.out]; exact Nat.le_refl _))
      go_wp2
      go_ret
      refine ⟨?_, hb⟩
      rw [litW, HL.out]; rfl

end Go.Proofs.YtpcmcopfdghdgaaGreatDoor

namespace Go.Proofs.YtpcmcopfdghdgaaGreatDoor
open Go.RowKit

attribute [local go_sem] run_store_f
theorem ret_boolP {a b : Bool} (h : a = b) : Ending.returned (.bool a) = .returned (.bool b) := by rw [h]
theorem pers_one (l m g : Nat) : ∀ v ∈ persC l m g, v.oneCell' = true := by
  intro v hv
  simp only [persC, List.mem_toArray, List.mem_cons, List.not_mem_nil, or_false] at hv
  rcases hv with rfl | rfl | rfl <;> rfl
theorem ge0_yes {o : Option Ordering} (h : ge0 o = true) : o = some .gt ∨ o = some .eq := by
  rcases o with _ | (_ | _ | _) <;> simp_all [ge0]
theorem ge0_no {o : Option Ordering} (h : ge0 o = false) : ¬ (o = some .gt ∨ o = some .eq) := by
  rcases o with _ | (_ | _ | _) <;> simp_all [ge0]
theorem le0_yes {o : Option Ordering} (h : le0 o = true) : o = some .lt ∨ o = some .eq := by
  rcases o with _ | (_ | _ | _) <;> simp_all [le0]
theorem le0_no {o : Option Ordering} (h : le0 o = false) : ¬ (o = some .lt ∨ o = some .eq) := by
  rcases o with _ | (_ | _ | _) <;> simp_all [le0]
/-- What the walk over one person keeps. -/
def SuRel (w : World) (pb : Nat) (z : Int) (l m g : Nat) (q i : Value) (wr : World) : Prop :=
  ((q = .int .u16 0 ∧ i = .int .i64 0) ∨ (q = .int .u16 z ∧ i = .int .i64 1)) ∧ Below w.heap.size w wr ∧ wr.heap[pb]? = some (.cells (persC l m g) 134 (0, 0))
/-- Does so much light, and so much glare, suit a person? -/
def suB (li gr l m g : Nat) : Bool := (ge0 (FloatKind.f32.format.order li l) && le0 (FloatKind.f32.format.order li m)) && le0 (FloatKind.f32.format.order gr g)
def suW (wd hg a1 a2 a3 : Int) (ws : List Wn) (l m g : Nat) : Bool := suB (litW wd hg (a1, a2) (fun _ => true) ws) (litW wd hg (a1, a2) (glW wd hg a1 a2 a3) ws) l m g
def suN (b : Bool) : Int := if b then 1 else 0

set_option maxRecDepth 100000 in
set_option maxHeartbeats 1000000 in
theorem suited_one (wd hg : Int) (sv : Value) (ws : List Wn) (ok : RmOk wd hg ws) (hwf : ∀ x ∈ ws, WnWf x) (a1 a2 a3 : Int) (ha : inRoom wd hg (a1, a2)) (l0 : 0 ≤ a3) (l3 : a3 ≤ 3) (l m g : Nat) (pb : Nat) (w : World) (hws : WinsAt w sv ws) (hp : w.heap[pb]? = some (.cells (persC l m g) 134 (0, 0))) :
    Calls Tryz.prog 125 #[.agg (roomC wd hg sv), .agg (deskC a1 a2 a3), .slice (some ⟨pb, 0, none⟩) 1 1] w fun e w' => e = .returned (.int .u16 (suN (suW wd hg a1 a2 a3 ws l m g))) ∧ Below w.heap.size w w' := by
  have HL := Lib.hid (fun W (h : WinsAt W sv ws) => lightAt_any wd hg sv ws ok hwf a1 a2 ha W h)
  have HG := Lib.hid (fun W (h : WinsAt W sv ws) => glareAt_any wd hg sv ws ok hwf a1 a2 a3 ha l0 l3 W h)
  have HV := Lib.hid hws
  have HP := Lib.hid hp
  have HD := Lib.hid (show suW wd hg a1 a2 a3 ws l m g = suB (litW wd hg (a1, a2) (fun _ => true) ws) (litW wd hg (a1, a2) (glW wd hg a1 a2 a3) ws) l m g from rfl)
  generalize suW wd hg a1 a2 a3 ws l m g = res at *
  generalize litW wd hg (a1, a2) (fun _ => true) ws = li at *
  generalize litW wd hg (a1, a2) (glW wd hg a1 a2 a3) ws = gr at *
  clear ok hwf ha l0 l3 hws hp
  go_enter Tryz.func125, Tryz.ntmps125
  go_upto_region 1 with (fail)
  refine abs_world (fun W => W.heap[w.heap.size]? = some (.cells (roomC wd hg sv) 70 (0, 0)) ∧ W.heap[w.heap.size + 1]? = some (.cells (deskC a1 a2 a3) 128 (0, 0)) ∧ Below w.heap.size w W) (box2 w (.cells (roomC wd hg sv) 70) (.cells (deskC a1 a2 a3) 128)) ?_
  rintro W ⟨h0, h1, hb⟩
  generalize w.heap.size + 1 = b1 at *
  have H0 := Lib.hid h0
  have H1 := Lib.hid h1
  replace HV := Lib.hid (wins_below HV.out hb)
  replace HP := Lib.hid (below_row hb HP.out)
  clear h0 h1
  refine wp_region_held_drew (S := (fun V => Below W.heap.size W V)) (by kernel_rfl) ((Below.refl _ _).drew) (fun hHeld => ?_)
  refine take_op (i := 0) (d := 12) (v := .agg (roomC wd hg sv)) rfl rfl (by kernel_rfl) (by kernel_rfl) (by kernel_rfl) (fun _ _ _ h => h) (yields_row (by rfl) 70 (.tmp 3) (by rfl) w.heap.size 0 3 (by rfl) 70 (roomC wd hg sv) (0, 0) _ (fun _ h => below_row h H0.out) Tryz.underlying70 rfl info_room (room_fits _ _ _) (roomC wd hg sv) (room_all _ _ _)) hHeld ?_
  simp only [List.setIfInBounds_toArray, List.set_cons_zero, List.set_cons_succ]
  refine take_op (i := 1) (d := 13) (v := ?_) rfl rfl (by kernel_rfl) (by kernel_rfl) (by kernel_rfl) (fun _ _ _ h => h) (Or.inl ⟨by rfl, ?hy1u1⟩) hHeld ?rest1u1
  case hy1u1 =>
    intro w' hS'
    go_simp
    try with_reducible rfl
  simp only [List.setIfInBounds_toArray, List.set_cons_zero, List.set_cons_succ]
  refine take_op (i := 2) (d := 14) (v := .agg (tileC a1 a2)) rfl rfl (by kernel_rfl) (by kernel_rfl) (by kernel_rfl) (fun _ _ _ h => h) (yields_row (by rfl) 126 (.tmp 13) (by rfl) b1 0 2 (by rfl) 128 (deskC a1 a2 a3) (0, 0) _ (fun _ h => below_row h H1.out) Tryz.underlying126 rfl info_tile (desk_fits2 _ _ _) (tileC a1 a2) (desk_tile _ _ _)) hHeld ?_
  simp only [List.setIfInBounds_toArray, List.set_cons_zero, List.set_cons_succ]
  refine take_op (i := 4) (d := 16) (v := .agg (roomC wd hg sv)) rfl rfl (by kernel_rfl) (by kernel_rfl) (by kernel_rfl) (fun _ _ _ h => h) (yields_row (by rfl) 70 (.tmp 3) (by rfl) w.heap.size 0 3 (by rfl) 70 (roomC wd hg sv) (0, 0) _ (fun _ h => below_row h H0.out) Tryz.underlying70 rfl info_room (room_fits _ _ _) (roomC wd hg sv) (room_all _ _ _)) hHeld ?_
  simp only [List.setIfInBounds_toArray, List.set_cons_zero, List.set_cons_succ]
  refine take_op (i := 5) (d := 17) (v := .agg (deskC a1 a2 a3)) rfl rfl (by kernel_rfl) (by kernel_rfl) (by kernel_rfl) (fun _ _ _ h => h) (yields_row (by rfl) 128 (.tmp 4) (by rfl) b1 0 3 (by rfl) 128 (deskC a1 a2 a3) (0, 0) _ (fun _ h => below_row h H1.out) Tryz.underlying128 rfl info_desk (desk_fits _ _ _) (deskC a1 a2 a3) (desk_all _ _ _)) hHeld ?_
  simp only [List.setIfInBounds_toArray, List.set_cons_zero, List.set_cons_succ]
  refine wpAnyH_ready (rs := [3]) (by kernel_rfl) (by simp) ?_
  refine AllReadyH.cons rfl (fun K hK => ?_) AllReadyH.nil
  go_simp
  refine (HL.out _ (wins_below HV.out hHeld)).mono ?_
  rintro e W1 ⟨rfl, hb1⟩
  refine hK.out _ _ (hHeld.trans (hb1.mono hHeld.size)) (fun hHeld2 => ?_)
  clear hK K
  replace hHeld := hHeld2
  clear hHeld2
  clear hb1
  refine wpAnyH_ready (rs := [6]) (by kernel_rfl) (by simp) ?_
  refine AllReadyH.cons rfl (fun K hK => ?_) AllReadyH.nil
  go_simp
  refine (HG.out _ (wins_below HV.out hHeld)).mono ?_
  rintro e W2 ⟨rfl, hb2⟩
  refine hK.out _ _ (hHeld.trans (hb2.mono hHeld.size)) (fun hHeld2 => ?_)
  clear hK K
  replace hHeld := hHeld2
  clear hHeld2
  clear hb2
  refine take_op (i := 7) (d := 7) (v := ?_) rfl rfl (by kernel_rfl) (by kernel_rfl) (by kernel_rfl) (fun _ _ _ h => h) (Or.inl ⟨by rfl, ?hy7u2⟩) hHeld ?rest7u2
  case hy7u2 =>
    intro w' hS'
    go_simp
    try with_reducible rfl
  simp only [List.setIfInBounds_toArray, List.set_cons_zero, List.set_cons_succ]
  refine take_op (i := 8) (d := 8) (v := ?_) rfl rfl (by kernel_rfl) (by kernel_rfl) (by kernel_rfl) (fun _ _ _ h => h) (Or.inl ⟨by rfl, ?hy8u3⟩) hHeld ?rest8u3
  case hy8u3 =>
    intro w' hS'
    go_simp
    try with_reducible rfl
  simp only [List.setIfInBounds_toArray, List.set_cons_zero, List.set_cons_succ]
  refine wpAnyH_done (by kernel_rfl) ?_ _
  replace H0 := Lib.hid (below_row hHeld H0.out)
  replace H1 := Lib.hid (below_row hHeld H1.out)
  replace HV := Lib.hid (wins_below HV.out hHeld)
  replace HP := Lib.hid (below_row hHeld HP.out)
  replace hb := hb.trans (hHeld.mono hb.size)
  clear hHeld
  clear H0 H1 HV HL HG
  have HB0 := Lib.hid hb
  go_wp2
  go_loopw [9, 21] (fun q i wr => SuRel w pb  (suN res) l m g q i wr) (fun _ i _ => 1 - (intOf i).toNat)
  case atStart => exact ⟨.inl ⟨rfl, rfl⟩, hb, HP.out⟩
  case round =>
    clear hb HB0 HP
    obtain ⟨hq, hb, hp⟩ := hrel
    have HP := Lib.hid hp
    clear hp
    rcases hq with ⟨rfl, rfl⟩ | ⟨rfl, rfl⟩
    · skip
      go_upto_region 6 with (first | (refine wpList_load_partG 134 _ rfl pb 0 3 rfl rfl 134 (persC l m g) (0, 0) _ HP.out Tryz.underlying134 rfl info_pers (pers_fits _ _ _) _ (pers_all _ _ _) ?_) | (refine wpList_store_part rfl 134 _ _ rfl _ 0 (persC l m g) rfl rfl 134 _ (heap_alloc_new _ _) (by kernel_rfl) (Nat.le_refl _) (pers_one _ _ _) ?_; rw [laid_allr _ _ (by rfl)]))
      refine abs_world (fun V => Below wr.heap.size wr V ∧ V.heap[wr.heap.size]? = some (.cells (persC l m g) 134 (0, 0))) ⟨below_setRow ((Below.refl _ _).alloc (Nat.le_refl _) _) (Nat.le_refl _) _, setRow_heap _ _ _ _ _ _ (heap_alloc_new _ _)⟩ ?_
      rintro V ⟨hb1, h9⟩
      replace HP := Lib.hid (below_row hb1 HP.out)
      replace hb := hb.trans (hb1.mono hb.size)
      obtain ⟨p0, p1, p2⟩ := pers_cells h9
      clear hb1 h9
      generalize wr.heap.size = nb at *
      rcases h0 : FloatKind.f32.format.order li l with _ | (_ | _ | _)
      · have HR : Hid (res = false) := by unfold Hid; rw [HD.out]; unfold suB ge0 le0; rw [h0]; simp
        go_wp2
        go_roundw
        case rel => exact ⟨.inr ⟨by rw [HR.out]; rfl, rfl⟩, hb, HP.out⟩
        case measure => simp [intOf]
      · have HR : Hid (res = false) := by unfold Hid; rw [HD.out]; unfold suB ge0 le0; rw [h0]; simp
        go_wp2
        go_roundw
        case rel => exact ⟨.inr ⟨by rw [HR.out]; rfl, rfl⟩, hb, HP.out⟩
        case measure => simp [intOf]
      · rcases h1 : FloatKind.f32.format.order li m with _ | (_ | _ | _)
        · have HR : Hid (res = false) := by unfold Hid; rw [HD.out]; unfold suB ge0 le0; rw [h0, h1]; simp
          go_wp2
          go_roundw
          case rel => exact ⟨.inr ⟨by rw [HR.out]; rfl, rfl⟩, hb, HP.out⟩
          case measure => simp [intOf]
        · rcases h2 : FloatKind.f32.format.order gr g with _ | (_ | _ | _)
          · have HR : Hid (res = false) := by unfold Hid; rw [HD.out]; unfold suB ge0 le0; rw [h0, h1, h2]; rfl
            go_wp2
            go_roundw
            case rel => exact ⟨.inr ⟨by rw [HR.out]; rfl, rfl⟩, hb, HP.out⟩
            case measure => simp [intOf]
          · have HR : Hid (res = true) := by unfold Hid; rw [HD.out]; unfold suB ge0 le0; rw [h0, h1, h2]; rfl
            go_wp2
            go_roundw
            case rel => exact ⟨.inr ⟨by rw [HR.out]; rfl, rfl⟩, hb, HP.out⟩
            case measure => simp [intOf]
          · have HR : Hid (res = true) := by unfold Hid; rw [HD.out]; unfold suB ge0 le0; rw [h0, h1, h2]; rfl
            go_wp2
            go_roundw
            case rel => exact ⟨.inr ⟨by rw [HR.out]; rfl, rfl⟩, hb, HP.out⟩
            case measure => simp [intOf]
          · have HR : Hid (res = false) := by unfold Hid; rw [HD.out]; unfold suB ge0 le0; rw [h0, h1, h2]; rfl
            go_wp2
            go_roundw
            case rel => exact ⟨.inr ⟨by rw [HR.out]; rfl, rfl⟩, hb, HP.out⟩
            case measure => simp [intOf]
        · rcases h2 : FloatKind.f32.format.order gr g with _ | (_ | _ | _)
          · have HR : Hid (res = false) := by unfold Hid; rw [HD.out]; unfold suB ge0 le0; rw [h0, h1, h2]; rfl
            go_wp2
            go_roundw
            case rel => exact ⟨.inr ⟨by rw [HR.out]; rfl, rfl⟩, hb, HP.out⟩
            case measure => simp [intOf]
          · have HR : Hid (res = true) := by unfold Hid; rw [HD.out]; unfold suB ge0 le0; rw [h0, h1, h2]; rfl
            go_wp2
            go_roundw
            case rel => exact ⟨.inr ⟨by rw [HR.out]; rfl, rfl⟩, hb, HP.out⟩
            case measure => simp [intOf]
          · have HR : Hid (res = true) := by unfold Hid; rw [HD.out]; unfold suB ge0 le0; rw [h0, h1, h2]; rfl
            go_wp2
            go_roundw
            case rel => exact ⟨.inr ⟨by rw [HR.out]; rfl, rfl⟩, hb, HP.out⟩
            case measure => simp [intOf]
          · have HR : Hid (res = false) := by unfold Hid; rw [HD.out]; unfold suB ge0 le0; rw [h0, h1, h2]; rfl
            go_wp2
            go_roundw
            case rel => exact ⟨.inr ⟨by rw [HR.out]; rfl, rfl⟩, hb, HP.out⟩
            case measure => simp [intOf]
        · have HR : Hid (res = false) := by unfold Hid; rw [HD.out]; unfold suB ge0 le0; rw [h0, h1]; simp
          go_wp2
          go_roundw
          case rel => exact ⟨.inr ⟨by rw [HR.out]; rfl, rfl⟩, hb, HP.out⟩
          case measure => simp [intOf]
      · rcases h1 : FloatKind.f32.format.order li m with _ | (_ | _ | _)
        · have HR : Hid (res = false) := by unfold Hid; rw [HD.out]; unfold suB ge0 le0; rw [h0, h1]; simp
          go_wp2
          go_roundw
          case rel => exact ⟨.inr ⟨by rw [HR.out]; rfl, rfl⟩, hb, HP.out⟩
          case measure => simp [intOf]
        · rcases h2 : FloatKind.f32.format.order gr g with _ | (_ | _ | _)
          · have HR : Hid (res = false) := by unfold Hid; rw [HD.out]; unfold suB ge0 le0; rw [h0, h1, h2]; rfl
            go_wp2
            go_roundw
            case rel => exact ⟨.inr ⟨by rw [HR.out]; rfl, rfl⟩, hb, HP.out⟩
            case measure => simp [intOf]
          · have HR : Hid (res = true) := by unfold Hid; rw [HD.out]; unfold suB ge0 le0; rw [h0, h1, h2]; rfl
            go_wp2
            go_roundw
            case rel => exact ⟨.inr ⟨by rw [HR.out]; rfl, rfl⟩, hb, HP.out⟩
            case measure => simp [intOf]
          · have HR : Hid (res = true) := by unfold Hid; rw [HD.out]; unfold suB ge0 le0; rw [h0, h1, h2]; rfl
            go_wp2
            go_roundw
            case rel => exact ⟨.inr ⟨by rw [HR.out]; rfl, rfl⟩, hb, HP.out⟩
            case measure => simp [intOf]
          · have HR : Hid (res = false) := by unfold Hid; rw [HD.out]; unfold suB ge0 le0; rw [h0, h1, h2]; rfl
            go_wp2
            go_roundw
            case rel => exact ⟨.inr ⟨by rw [HR.out]; rfl, rfl⟩, hb, HP.out⟩
            case measure => simp [intOf]
        · rcases h2 : FloatKind.f32.format.order gr g with _ | (_ | _ | _)
          · have HR : Hid (res = false) := by unfold Hid; rw [HD.out]; unfold suB ge0 le0; rw [h0, h1, h2]; rfl
            go_wp2
            go_roundw
            case rel => exact ⟨.inr ⟨by rw [HR.out]; rfl, rfl⟩, hb, HP.out⟩
            case measure => simp [intOf]
          · have HR : Hid (res = true) := by unfold Hid; rw [HD.out]; unfold suB ge0 le0; rw [h0, h1, h2]; rfl
            go_wp2
            go_roundw
            case rel => exact ⟨.inr ⟨by rw [HR.out]; rfl, rfl⟩, hb, HP.out⟩
            case measure => simp [intOf]
          · have HR : Hid (res = true) := by unfold Hid; rw [HD.out]; unfold suB ge0 le0; rw [h0, h1, h2]; rfl
            go_wp2
            go_roundw
            case rel => exact ⟨.inr ⟨by rw [HR.out]; rfl, rfl⟩, hb, HP.out⟩
            case measure => simp [intOf]
          · have HR : Hid (res = false) := by unfold Hid; rw [HD.out]; unfold suB ge0 le0; rw [h0, h1, h2]; rfl
            go_wp2
            go_roundw
            case rel => exact ⟨.inr ⟨by rw [HR.out]; rfl, rfl⟩, hb, HP.out⟩
            case measure => simp [intOf]
        · have HR : Hid (res = false) := by unfold Hid; rw [HD.out]; unfold suB ge0 le0; rw [h0, h1]; simp
          go_wp2
          go_roundw
          case rel => exact ⟨.inr ⟨by rw [HR.out]; rfl, rfl⟩, hb, HP.out⟩
          case measure => simp [intOf]
    · go_wp2
      go_ret
      exact ⟨rfl, hb⟩

end Go.Proofs.YtpcmcopfdghdgaaGreatDoor

namespace Go.Proofs.YtpcmcopfdghdgaaGreatDoor
open Go.RowKit

/-- A slice of the call's own, from block number base on, that holds the elements xs. -/
def Own {α : Type} (w : World) (base : Nat) (E : TypeId) (mk : α → Value) (v : Value) (xs : List α) : Prop :=
  ∃ a cap, v = .slice a xs.length cap ∧ cap ≤ maxLen ∧ xs.length ≤ cap ∧
    ((a = none ∧ xs = []) ∨ ∃ g cur, a = some ⟨g, 0, none⟩ ∧ base ≤ g ∧ w.heap[g]? = some (.cells cur E (0, 0)) ∧ ∀ k, k < xs.length → cur[k]? = (xs[k]?).map mk)

theorem own_below {α : Type} {w w' : World} {base B : Nat} {E : TypeId} {mk : α → Value} {v : Value} {xs : List α} (h : Own w base E mk v xs) (hb : Below w.heap.size w w') (hB : B ≤ base) : Own w' B E mk v xs := by
  obtain ⟨a, cap, h1, h2, h3, h4⟩ := h
  refine ⟨a, cap, h1, h2, h3, h4.imp id ?_⟩
  rintro ⟨g, cur, e, hg, hc, hk⟩
  exact ⟨g, cur, e, by omega, below_row hb hc, hk⟩

/-- The block of a list that is not empty. -/
theorem own_get {α : Type} {w : World} {base : Nat} {E : TypeId} {mk : α → Value} {a : Option Addr} {n cap : Nat} {xs : List α} (h : Own w base E mk (.slice a n cap) xs) (k : Nat) (hk : k < n) :
    ∃ g cur, a = some ⟨g, 0, none⟩ ∧ base ≤ g ∧ w.heap[g]? = some (.cells cur E (0, 0)) ∧ n ≤ cap ∧ cap ≤ maxLen ∧ ∃ x, xs[k]? = some x ∧ cur[k]? = some (mk x) := by
  obtain ⟨a', cap', h1, h2, h3, h4⟩ := h
  injection h1 with e1 e2 e3
  subst e1 e3
  rcases h4 with ⟨_, rfl⟩ | ⟨g, cur, e, hg, hc, hx⟩
  · simp at e2; omega
  · have h5 := hx k (by omega)
    rw [List.getElem?_eq_getElem (by omega)] at h5
    exact ⟨g, cur, e, hg, hc, by omega, h2, _, List.getElem?_eq_getElem (by omega), h5⟩

theorem own_len {α : Type} {w : World} {base : Nat} {E : TypeId} {mk : α → Value} {v : Value} {xs : List α} (h : Own w base E mk v xs) : ∃ a cap, v = .slice a xs.length cap ∧ xs.length ≤ maxLen := by
  obtain ⟨a, cap, h1, h2, h3, h4⟩ := h
  exact ⟨a, cap, h1, by omega⟩

theorem cell_k {w : World} {g : Nat} {cur : Array Value} {E : TypeId} {fr : Nat × Nat} {k : Nat} {v : Value} (hc : w.heap[g]? = some (.cells cur E fr)) (hk : cur[k]? = some v) : w.cell? ⟨g, k, none⟩ = some v := by
  rw [cell_of_row w g k cur E fr hc, hk]

/-- The numbers that the helpers write. -/
def marks (k : Int) (n : Nat) : List Int := (List.range n).map (fun i : Nat => k + (i : Int))

theorem marks_len (k : Int) (n : Nat) : (marks k n).length = n := by simp [marks]

theorem marks_get (k : Int) (n i : Nat) (h : i < n) : (marks k n)[i]? = some (k + (i : Int)) := by simp [marks, h]

/-- What writing into a list does: it holds other elements, and all else is as it was. -/
def Marked (w : World) (E : TypeId) (b : Nat) (v : Value) (m : Int) (n : Nat) (e : Ending) (w' : World) : Prop :=
  e = .returned (.int .i64 (m + n)) ∧ Own w' b E (Value.int .i64) v (marks m n) ∧ Below b w w' ∧ ∀ k o, w.heap[k]? = some o → (∀ g n c, v = .slice (some ⟨g, 0, none⟩) n c → k ≠ g) → w'.heap[k]? = some o

end Go.Proofs.YtpcmcopfdghdgaaGreatDoor

namespace Go.Proofs.YtpcmcopfdghdgaaGreatDoor
open Go Go.RowKit

theorem heap_push (w : World) (o : Obj) (i : Nat) : (w.alloc o).heap[i]? = if i = w.heap.size then some o else w.heap[i]? := by
  show (w.heap.push o)[i]? = _
  exact Array.getElem?_push
theorem three_new (w : World) (a b c : Obj) : (((w.alloc a).alloc b).alloc c).heap[w.heap.size]? = some a ∧ (((w.alloc a).alloc b).alloc c).heap[w.heap.size + 1]? = some b ∧ (((w.alloc a).alloc b).alloc c).heap[w.heap.size + 1 + 1]? = some c ∧ Below w.heap.size w (((w.alloc a).alloc b).alloc c) := by
  refine ⟨?_, ?_, ?_, (((Below.refl _ _).alloc (Nat.le_refl _) _).alloc (by simp) _).alloc (by simp; omega) _⟩
  all_goals simp only [heap_push, World.size_alloc]
  · rw [if_neg (by omega), if_neg (by omega), if_true]
  · rw [if_neg (by omega), if_true]
  · rw [if_true]
theorem four_new (w : World) (a b c d : Obj) : ((((w.alloc a).alloc b).alloc c).alloc d).heap[w.heap.size]? = some a ∧ ((((w.alloc a).alloc b).alloc c).alloc d).heap[w.heap.size + 1]? = some b ∧ ((((w.alloc a).alloc b).alloc c).alloc d).heap[w.heap.size + 1 + 1]? = some c ∧ ((((w.alloc a).alloc b).alloc c).alloc d).heap[w.heap.size + 1 + 1 + 1]? = some d ∧ Below w.heap.size w ((((w.alloc a).alloc b).alloc c).alloc d) := by
  refine ⟨?_, ?_, ?_, ?_, ((((Below.refl _ _).alloc (Nat.le_refl _) _).alloc (by simp) _).alloc (by simp; omega) _).alloc (by simp; omega) _⟩
  all_goals simp only [heap_push, World.size_alloc]
  · rw [if_neg (by omega), if_neg (by omega), if_neg (by omega), if_true]
  · rw [if_neg (by omega), if_neg (by omega), if_true]
  · rw [if_neg (by omega), if_true]
  · rw [if_true]

end Go.Proofs.YtpcmcopfdghdgaaGreatDoor

namespace Go.Proofs.YtpcmcopfdghdgaaGreatDoor
open Go.RowKit Go.Shelf

attribute [local go_sem] Oper.semAt_some

/-- A tile of a room. -/
abbrev Tt (W H : Nat) := { t : Int × Int // inRoom (W : Int) (H : Int) t }

def tk (W H : Nat) (hW : 0 < W) (hH : 0 < H) (k : Nat) : Tt W H := ⟨(((k % W : Nat) : Int), ((k / W % H : Nat) : Int)), by
  have h1 := Nat.mod_lt k hW
  have h2 := Nat.mod_lt (k / W) hH
  exact ⟨by show (0 : Int) ≤ ((k % W : Nat) : Int); omega, by show ((k % W : Nat) : Int) < (W : Int); omega, by show (0 : Int) ≤ ((k / W % H : Nat) : Int); omega, by show ((k / W % H : Nat) : Int) < (H : Int); omega⟩⟩

def tks (W H : Nat) (hW : 0 < W) (hH : 0 < H) (k : Nat) : List (Tt W H) := (List.range k).map (tk W H hW hH)

theorem tks_succ (W H : Nat) (hW : 0 < W) (hH : 0 < H) (k : Nat) : tks W H hW hH (k + 1) = tks W H hW hH k ++ [tk W H hW hH k] := by simp [tks, List.range_succ]
@[simp] theorem tks_length (W H : Nat) (hW : 0 < W) (hH : 0 < H) (k : Nat) : (tks W H hW hH k).length = k := by simp [tks]

theorem tk_at (W H : Nat) (hW : 0 < W) (hH : 0 < H) {x y : Nat} (hx : x < W) (hy : y < H) : (tk W H hW hH (y * W + x)).1 = ((x : Int), (y : Int)) := by
  have e1 : (y * W + x) % W = x := by rw [Nat.mul_comm, Nat.mul_add_mod]; exact Nat.mod_eq_of_lt hx
  have e2 : (y * W + x) / W = y := by rw [Nat.mul_comm, Nat.mul_add_div hW, Nat.div_eq_of_lt hx, Nat.add_zero]
  have e3 : y % H = y := Nat.mod_eq_of_lt hy
  simp [tk, e1, e2, e3]

/-- One block stays as it is. -/
def KeepsAt (g : Nat) (A B : World) : Prop := ∀ o, A.heap[g]? = some o → B.heap[g]? = some o

theorem keepsAt_t {g : Nat} {A B C : World} (h : KeepsAt g A B) (k : KeepsAt g B C) : KeepsAt g A C := fun o ho => k o (h o ho)

theorem keepsAt_b {g : Nat} {w : World} (hg : g < w.heap.size) (W : World) (l : Nat) (o o' : Obj) (hl : w.heap.size ≤ l) (_ : W.heap[l]? = some o) (_ : o.isCells = false) (_ : o.isWalk = false) : KeepsAt g W (W.putObj l o') := by
  intro x hx
  rw [World.putObj_heap_other (by omega)]; exact hx

theorem room_cell0 {V : World} {g : Nat} {wd hg : Int} {sv : Value} {T : TypeId} {fr : Nat × Nat} (h : V.heap[g]? = some (.cells (roomC wd hg sv) T fr)) : V.cell? ⟨g, 0, none⟩ = some (.int .i8 wd) := by rw [cell_of_row _ _ _ _ _ _ h]; rfl

theorem room_cell1 {V : World} {g : Nat} {wd hg : Int} {sv : Value} {T : TypeId} {fr : Nat × Nat} (h : V.heap[g]? = some (.cells (roomC wd hg sv) T fr)) : V.cell? ⟨g, 1, none⟩ = some (.int .i8 hg) := by rw [cell_of_row _ _ _ _ _ _ h]; rfl

theorem i8_small (n : Int) (h0 : -128 ≤ n) (h1 : n ≤ 127) : IntKind.i8.wrap n = n := by
  rw [IntWalk.i8_in _ (by omega)]

end Go.Proofs.YtpcmcopfdghdgaaGreatDoor

namespace Go.Proofs.YtpcmcopfdghdgaaGreatDoor
open Go Go.RowKit

section

variable {P : Program}

theorem op_round {l n : Nat} {o : Oper} {a : Act} {w : World} {K : Act → World → Prop} {Q : Exit → Act → World → Prop} (hd : ∀ c, o.op ≠ .defer c) (h : o.wp P a w K Q) :
    o.wpIn (Fence.wide.inRound l) n P a w K Q := by
  refine ⟨fun _ _ => trivial, ?_⟩
  rw [Oper.semAt_eq _ _ _ hd]
  unfold Oper.wp at h
  generalize (execOp a.eval o).run P w = r at *
  cases r with
  | ok x w' =>
    cases x <;> simp only [Oper.upon, Oper.uponIn] at h ⊢
    case value => exact h
    case skip => exact h
    case defer => exact h
    case enter f args => exact ⟨fun h => (by cases h), CallsIn.inRound l (callsIn_wide.2 (h.mono fun e w' he => by cases e <;> exact he))⟩
    case row row args => exact ⟨fun h => (by cases h), fun c cs _ => let ⟨v, w', r, s⟩ := h c cs; ⟨v, w', r, stepsIn_wide.2 s⟩⟩
  | halt x w' => cases x <;> simp only [Oper.upon, Oper.uponIn] at h ⊢ <;> exact h


theorem any_round {l n : Nat} {md : Region.Mode} {ops : Array Oper} {Q : Exit → Act → World → Prop} (hd : ∀ (i : Nat) (o : Oper), ops[i]? = some o → ∀ c, o.op ≠ .defer c) (hlo : ¬ LetsOut Q) :
    ∀ (fuel : Nat) (listed : Array Bool) (a : Act) (w : World), wpAny P md ops Q fuel listed a w → wpAnyIn (Fence.wide.inRound l) n P md ops Q fuel listed a w
  | 0, _, _, _, h => h
  | fuel + 1, listed, a, w, h => by
    refine ⟨h.1, fun i hi => ?_⟩
    have h1 := h.2 i hi
    unfold wpOp at h1
    unfold wpOpIn
    cases ho : ops[i]? with
    | none => simp only [ho] at h1; exact any_round hd hlo fuel _ _ _ h1
    | some o =>
      simp only [ho] at h1 ⊢
      split
      · rename_i hw
        rw [if_pos hw] at h1
        have h2 := h1.resolve_right (fun h => hlo h.2)
        exact Oper.wpIn_mono (fun a w h => any_round hd hlo fuel _ a w h) (op_round (hd i o ho) h2)
      · rename_i hw
        rw [if_neg hw] at h1
        exact ⟨fun _ _ => trivial, any_round hd hlo fuel _ _ _ h1⟩

/-- A region that draws its order, in a round: from the law for a region under a held condition. -/
theorem region_round {l n id : Nat} {ops : Array Oper} {Q : Exit → Act → World → Prop} {S : World → Prop} {a : Act} {w : World} (hm : P.follows .mixedOrders = true)
    (hd : ∀ (i : Nat) (o : Oper), ops[i]? = some o → ∀ c, o.op ≠ .defer c) (hlo : ¬ LetsOut Q) (hS : S w.drew)
    (h : S w.drew → wpAnyH P .any ops Q S ops.size (Array.replicate ops.size false) a w.drew) : (Code.region id ops true).wpIn (Fence.wide.inRound l) n P Q a w :=
  wpIn_region_any hm (any_round hd hlo _ _ _ _ (wpAny_of_held _ _ _ _ (h hS)))

/-- Reads before one store, in a round. -/
theorem still_tail_round {l n id k : Nat} {Q : Exit → Act → World → Prop} {a : Act} {w : World} {os : List Oper} (hm : P.follows .mixedOrders = true) (hB : Region.lexTailB .any os.toArray k = true)
    (hd : ∀ (i : Nat) (o : Oper), os.toArray[i]? = some o → ∀ c, o.op ≠ .defer c) (hlo : ¬ LetsOut Q)
    (h : wpStill P os.toArray w.drew (fun a' => wpList P os.toArray Q (os.drop k) a' w.drew) (os.take k) a) : (Code.region id os.toArray true).wpIn (Fence.wide.inRound l) n P Q a w := by
  refine wpIn_region_any hm (any_round hd hlo _ _ _ _ ?_)
  simp only [Region.lexTailB, Bool.and_eq_true, decide_eq_true_eq] at hB
  obtain ⟨⟨⟨⟨hsel, hk⟩, hs⟩, hc⟩, hlex⟩ := hB
  have hk' : k < os.length := by simpa using hk
  have htl : (os.take k).length = k := by simp; omega
  have hdl : (os.drop k).length = os.toArray.size - k := by simp
  have inv0 : HeadInv .any os.toArray k (Array.replicate os.toArray.size false) :=
    ⟨by simp, fun j oj _ hl => (by rw [getD_replicate_false] at hl; cases hl), fun t _ ht => getD_in (by simpa using ht) (getD_replicate_false _ _)⟩
  have H := wpAnyL_lex (md := .any) (g := os.toArray.size - k) hsel hs hc hk (os.take k) 0 _ a (fun j hj => by
    have hj' : j < k := by rw [htl] at hj; exact hj
    simp [hj']) (by simpa using htl) inv0 (by rw [htl]; exact hlex) h
  have H2 := wpAny_of_head (Q' := Q) (g := os.toArray.size - k) (fun listed a' hL => by
    have h3 := wpAny_of_seq (md := .any) (Q' := Q) (os.drop k) k listed a' w.drew (fun j => by simp [List.getElem?_drop]) (by rw [hdl]; exact hL.1) hL.2
    rwa [hdl] at h3) _ _ _ H
  rw [htl, show k + (os.toArray.size - k) = os.toArray.size by omega] at H2
  exact H2

theorem no_defer {ops : List Oper} (h : ops.all (fun o => match o.op with | .defer _ => false | _ => true) = true) : ∀ (i : Nat) (o : Oper), ops.toArray[i]? = some o → ∀ c, o.op ≠ .defer c := by
  intro i o ho c hc
  have hm : o ∈ ops := List.mem_iff_getElem?.2 ⟨i, by simpa using ho⟩
  have := List.all_eq_true.1 h o hm
  rw [hc] at this
  cases this

end

end Go.Proofs.YtpcmcopfdghdgaaGreatDoor

namespace Go.Proofs.YtpcmcopfdghdgaaGreatDoor
open Go Go.RowKit

theorem list_roundL {P : Program} {l n : Nat} {ops : Array Oper} {Q : Exit → Act → World → Prop} (hlo : ¬ LetsOut Q) :
    ∀ (os : List Oper) (_ : ∀ o ∈ os, ∀ c, o.op ≠ .defer c) (a : Act) (w : World), wpList P ops Q os a w → wpListIn (Fence.wide.inRound l) n P ops Q os a w
  | [], _, _, _, h => h
  | o :: os, hd, a, w, h => by
    unfold wpList at h
    unfold wpListIn
    split
    · rename_i hw
      rw [if_pos hw] at h
      have h2 := h.resolve_right (fun h => hlo h.2)
      exact Oper.wpIn_mono (fun a w h => list_roundL hlo os (fun o ho => hd o (List.mem_cons_of_mem _ ho)) a w h) (op_round (hd o List.mem_cons_self) h2)
    · rename_i hw
      rw [if_neg hw] at h
      exact ⟨fun _ _ => trivial, list_roundL hlo os (fun o ho => hd o (List.mem_cons_of_mem _ ho)) _ w h⟩

/-- A region that draws no order, in a round: from the law outside. -/
theorem region_plain_round {P : Program} {l n id : Nat} {os : List Oper} {Q : Exit → Act → World → Prop} {a : Act} {w : World} (hd : os.all (fun o => match o.op with | .defer _ => false | _ => true) = true) (hlo : ¬ LetsOut Q)
    (h : wpList P os.toArray Q os a w) : (Code.region id os.toArray false).wpIn (Fence.wide.inRound l) n P Q a w :=
  wpIn_region_lit (list_roundL hlo os (fun o ho c hc => by
    have := List.all_eq_true.1 hd o ho
    rw [hc] at this
    cases this) a w h)

theorem wp_onlyL {P : Program} {c : Code} {K : Act → World → Prop} {Q : Exit → Act → World → Prop} {a : Act} {w : World} (h : c.wp P (Exit.then K (fun _ _ _ => False)) a w) : c.wp P (Exit.then K Q) a w :=
  Code.wp_mono (fun e a w h => by cases e <;> first | exact h | exact h.elim) h

end Go.Proofs.YtpcmcopfdghdgaaGreatDoor

namespace Go.Proofs.YtpcmcopfdghdgaaGreatDoor
open Go.RowKit

/-- Numbers of 16 bits as cells. -/
def i16s (xs : List Int) : Array Value := (xs.map (Value.int .i16)).toArray
@[simp] theorem i16s_size (xs : List Int) : (i16s xs).size = xs.length := by simp [i16s]

theorem i16s_get (xs : List Int) (k : Nat) (h : k < xs.length) : (i16s xs)[k]? = some (.int .i16 (xs[k]?.getD 0)) := by
  simp [i16s, h]

theorem i16s_one (xs : List Int) : ∀ v ∈ i16s xs, v.oneCell' = true := by
  intro v hv
  simp only [i16s, List.mem_toArray, List.mem_map] at hv
  obtain ⟨x, _, rfl⟩ := hv
  rfl

theorem i16s_set (xs : List Int) (k : Nat) (n : Int) : (i16s xs).setIfInBounds k (.int .i16 n) = i16s (xs.set k n) := by
  apply Array.ext'
  simp [i16s, List.map_set]

theorem copy_step (xs : List Int) (k : Nat) (hx : xs.length = 24) (hk : k < 24) :
    (xs.take k ++ List.replicate (24 - k) 0).set k (xs[k]?.getD 0) = xs.take (k + 1) ++ List.replicate (24 - (k + 1)) 0 := by
  apply List.ext_getElem?
  intro j
  simp only [List.getElem?_set, List.getElem?_append, List.length_take, List.getElem?_take, List.getElem?_replicate, List.length_append, List.length_replicate]
  by_cases h1 : k = j
  · subst h1
    simp [show k < 24 from hk, hx, show min k 24 + (24 - k) = 24 by omega, show min (k+1) 24 = k + 1 by omega]
  · rw [if_neg h1]
    by_cases h2 : j < k
    · simp [hx, show j < min k 24 by omega, show j < min (k+1) 24 by omega, show j < k + 1 by omega, h2]
    · simp only [hx, show ¬ j < min k 24 by omega, if_false, show ¬ j < min (k+1) 24 by omega]
      congr 1
      simp
      omega

theorem cell_of_i16s {w : World} {g : Nat} {xs : List Int} {t : TypeId} {fr : Nat × Nat} (hg : w.heap[g]? = some (.cells (i16s xs) t fr)) (k : Nat) (h : k < xs.length) :
    w.cell? ⟨g, k, none⟩ = some (.int .i16 (xs[k]?.getD 0)) := by
  rw [cell_of_row w g k _ t fr hg, i16s_get xs k h]

set_option maxRecDepth 100000 in
theorem info_arr : (Tryz.prog.info? 44).map (·.size) = some 24 := by kernel_rfl

theorem zeros24 : (#[.int .i16 0, .int .i16 0, .int .i16 0, .int .i16 0, .int .i16 0, .int .i16 0, .int .i16 0, .int .i16 0, .int .i16 0, .int .i16 0, .int .i16 0, .int .i16 0, .int .i16 0, .int .i16 0, .int .i16 0, .int .i16 0, .int .i16 0, .int .i16 0, .int .i16 0, .int .i16 0, .int .i16 0, .int .i16 0, .int .i16 0, .int .i16 0] : Array Value) = i16s (List.replicate 24 0) := rfl

theorem i16s_all (xs : List Int) (n : Nat) (h : xs.length = n) : (i16s xs).extract 0 (0 + n) = i16s xs := by
  have e : n = (i16s xs).size := by simp [h]
  rw [Nat.zero_add, e, Array.extract_size]

theorem laid_all (cs vs : Array Value) (h : cs.size = vs.size) : laid cs vs 0 = vs := by
  apply Array.ext'
  simp [laid]
  rw [← h]; simp

theorem heap_alloc (w : World) (o : Obj) (i : Nat) : (w.alloc o).heap[i]? = if i = w.heap.size then some o else w.heap[i]? := by
  show (w.heap.push o)[i]? = _
  exact Array.getElem?_push


/-- A sun as a value: 24 heights, 24 turns. -/
def sunC (hs ts : List Int) : Array Value := i16s (hs ++ ts)

theorem sunC_size (hs ts : List Int) (h : hs.length = 24) (t : ts.length = 24) : (sunC hs ts).size = 48 := by simp [sunC, h, t]

theorem sun_fits (hs ts : List Int) (h : hs.length = 24) (t : ts.length = 24) : 0 + 48 ≤ (sunC hs ts).size := by rw [sunC_size _ _ h t]; decide

theorem sun_all (hs ts : List Int) (h : hs.length = 24) (t : ts.length = 24) : (sunC hs ts).extract 0 (0 + 48) = sunC hs ts := i16s_all _ 48 (by rw [List.length_append, h, t])

theorem sunC_fst (hs ts : List Int) (h : hs.length = 24) : (sunC hs ts).extract 0 (0 + 24) = i16s hs := by
  apply Array.ext'
  simp [sunC, i16s, ← h]

theorem sunC_snd (hs ts : List Int) (h : hs.length = 24) (t : ts.length = 24) : (sunC hs ts).extract 24 (24 + 24) = i16s ts := by
  apply Array.ext'
  have e : 24 = (List.map (Value.int .i16) ts).length := by simp [t]
  simp only [sunC, i16s, List.map_append, List.extract_toArray, List.extract_eq_take_drop]
  rw [List.drop_append_of_le_length (by simp [h]), List.drop_of_length_le (by simp [h]), List.nil_append, List.take_of_length_le (by simp [t])]

theorem laid_fst (hs ts us : List Int) (h : hs.length = 24) (u : us.length = 24) : laid (sunC hs ts) (i16s us) 0 = sunC us ts := by
  apply Array.ext'
  simp [laid, sunC, i16s, u, h]

theorem laid_snd (hs ts us : List Int) (h : hs.length = 24) (t : ts.length = 24) (u : us.length = 24) : laid (sunC hs ts) (i16s us) 24 = sunC hs us := by
  apply Array.ext'
  simp [laid, sunC, i16s, u, h, t]

set_option maxRecDepth 100000 in
theorem info_sun : (Tryz.prog.info? 46).map (·.size) = some 48 := by kernel_rfl

def zer : List Int := List.replicate 24 0

theorem zer_length : zer.length = 24 := rfl

theorem abs_code {P : Program} {c : Code} {Q : Exit → Act → World → Prop} {a : Act} {w : World} (R : World → Prop) (hw : R w) (h : ∀ W, R W → Code.wp P c Q a W) : Code.wp P c Q a w := h w hw

end Go.Proofs.YtpcmcopfdghdgaaGreatDoor

namespace Go.Proofs.YtpcmcopfdghdgaaGreatDoor
open Go.RowKit Go.Shelf

/-- An hour of a day. -/
abbrev Hr := { h : Int // 0 ≤ h ∧ h < 24 }

def hr (k : Nat) : Hr := ⟨(k % 24 : Nat), by omega⟩

theorem hr_val (k : Nat) (h : k < 24) : (hr k).1 = (k : Int) := by simp [hr, Nat.mod_eq_of_lt h]

def hrs (k : Nat) : List Hr := (List.range k).map hr

theorem hrs_succ (k : Nat) : hrs (k + 1) = hrs k ++ [hr k] := by simp [hrs, List.range_succ]
@[simp] theorem hrs_length (k : Nat) : (hrs k).length = k := by simp [hrs]

set_option maxRecDepth 100000 in
set_option maxHeartbeats 1000000 in
theorem eachHour_in (F : Fence) (n : Nat) (hF : F.fn 109) (hro : F.round = none) (hn : 1 ≤ n) (l n₀ : Nat) (J Jx : List Hr → World → Prop)
    (hY : ∀ pre x W, J pre W → pre.length < 24 → YieldAt F (n - 1) Tryz.prog l #[.int .i64 x.1] W fun e W' =>
      (e = .returned (.bool true) ∧ J (pre ++ [x]) W' ∧ Below n₀ W W') ∨ (e = .returned (.bool false) ∧ Jx (pre ++ [x]) W'))
    (W : World) (h0 : J [] W) :
    CallsIn F n Tryz.prog 109 #[.func (.yield l) #[] #[]] W fun e W' => (∃ v, e = .returned v) ∧
      ((∃ xs, xs = hrs 24 ∧ J xs W') ∨ (∃ pre, (∃ k, k ≤ 24 ∧ pre = hrs k) ∧ Jx pre W')) := by
  refine callsIn_of_wp Tryz.func109 rfl hF ?_ hro
  simp only [Tryz.ntmps109, List.size_toArray, List.length_cons, List.length_nil, Nat.reduceAdd, Nat.reduceSub, Array.replicate_succ, Array.replicate_zero, List.push_toArray, List.append_toArray, List.nil_append, List.cons_append]
  gi_wp2
  gi_loopw [3] (fun i wr => ∃ k : Nat, k ≤ 24 ∧ i = .int .i64 k ∧ J (hrs k) wr ∧ Below n₀ W wr) (fun i _ => 24 - (intOf i).toNat)
  case atStart => exact ⟨0, Nat.zero_le _, rfl, h0, Below.refl _ _⟩
  case round =>
    obtain ⟨k, hk, rfl, hJs, hnx⟩ := hrel
    by_cases hlt : k < 24
    · obtain ⟨fn, tmps, assign, body, hy, hR⟩ := hY _ (hr k) wr hJs (by rw [hrs_length]; exact hlt)
      rw [hr_val k hlt] at hy
      gi_wp2
      refine hR.mono ?_
      rintro e W3 (⟨rfl, hJ3, hk3⟩ | ⟨rfl, hJx3⟩)
      · gi_wp2
        go_roundw
        case rel => exact ⟨k + 1, by omega, by simp, by rw [hrs_succ]; exact hJ3, hnx.trans hk3⟩
        case measure => simp [intOf]; omega
      · gi_wp2
        refine bodyPost_ret (results_none rfl _ _ _) rfl ?_
        exact ⟨⟨_, rfl⟩, .inr ⟨_, ⟨k + 1, by omega, (hrs_succ _).symm⟩, hJx3⟩⟩
    · obtain rfl : k = 24 := by omega
      gi_wp2
      go_end0
      exact ⟨⟨_, rfl⟩, .inl ⟨_, rfl, hJs⟩⟩

theorem eachHour_stops (F : Fence) (n : Nat) (hF : F.fn 109) (hro : F.round = none) (hn : 1 ≤ n) (n₀ : Nat) (w : World) :
    SeqStopsK F n Tryz.prog 109 #[] (fun x : Hr => #[Value.int .i64 x.1]) (Below n₀) (fun xs => xs = hrs 24) (fun pre => ∃ k, k ≤ 24 ∧ pre = hrs k) 24 w := fun l J Jx W _ _ _ hY h0 =>
  eachHour_in F n hF hro hn l n₀ J Jx hY W h0

end Go.Proofs.YtpcmcopfdghdgaaGreatDoor

namespace Go.Proofs.YtpcmcopfdghdgaaGreatDoor
open Go Go.RowKit

set_option maxRecDepth 100000 in
theorem size_i16 (w : World) : (sizeOf 26).run Tryz.prog w = .ok 1 w := by kernel_rfl

set_option maxRecDepth 100000 in
theorem agg_i16 (w : World) : (isAgg 26).run Tryz.prog w = .ok false w := by kernel_rfl

set_option maxRecDepth 100000 in
theorem agg_arr (w : World) : (isAgg 44).run Tryz.prog w = .ok true w := by kernel_rfl

set_option maxRecDepth 100000 in
theorem size_arr (w : World) : (sizeOf 44).run Tryz.prog w = .ok 24 w := by kernel_rfl

theorem part_i16 (xs : List Int) (i : Nat) (h : i < xs.length) (w : World) : (part 26 (i16s xs) i).run Tryz.prog w = .ok (.int .i16 (xs[i]?.getD 0)) w := by
  unfold part
  rw [Sem.run_bind, agg_i16]
  simp only [Result.andThen_ok, Bool.false_eq_true, if_false, i16s_get xs i h]
  rfl

theorem part_arr (cs : Array Value) (o : Nat) (w : World) : (part 44 cs o).run Tryz.prog w = .ok (.agg (cs.extract o (o + 24))) w := by
  unfold part
  rw [Sem.run_bind, agg_arr]
  simp only [Result.andThen_ok, if_true]
  rw [Sem.run_bind, size_arr]
  rfl

theorem eq_loop (d : Nat) (xs ys : List Int) (w : World) : ∀ (is : List Nat), (∀ i ∈ is, i < xs.length ∧ i < ys.length) →
    (forIn is ((none, ()) : Option Bool × Unit) (fun i _ => do
      if (!(← Op.equalIn (d + 1) 26 (← part 26 (i16s xs) (i * 1)) (← part 26 (i16s ys) (i * 1)))) = true then pure (ForInStep.done (some false, ()))
      else pure (ForInStep.yield (none, ())))).run Tryz.prog w = .ok (if is.all (fun i => xs[i]?.getD 0 == ys[i]?.getD 0) then (none, ()) else (some false, ())) w
  | [], _ => rfl
  | i :: is, h => by
    have hi := h i (by simp)
    have ih := eq_loop d xs ys w is (fun j hj => h j (by simp [hj]))
    rw [List.forIn_cons]
    simp only [Nat.mul_one] at ih ⊢
    simp only [Sem.run_bind, part_i16 xs i hi.1, part_i16 ys i hi.2, Result.andThen_ok, run_equalIn_int w d 26 .i16 .i16 _ _ Tryz.underlying26]
    cases hc : (xs[i]?.getD 0 == ys[i]?.getD 0)
    · simp [hc]
    · simp only [Bool.not_true, Bool.false_eq_true, if_false, Sem.run_pure, Result.andThen_ok, List.all_cons, hc, Bool.true_and]
      exact ih

theorem all_eq (xs ys : List Int) (n : Nat) (hx : xs.length = n) (hy : ys.length = n) : (List.range' 0 n).all (fun i => xs[i]?.getD 0 == ys[i]?.getD 0) = (xs == ys) := by
  rw [Bool.eq_iff_iff]
  simp only [List.all_eq_true, beq_iff_eq]
  constructor
  · intro h
    apply List.ext_getElem?
    intro i
    by_cases hi : i < n
    · have h1 := h i (by simp [List.mem_range']; omega)
      rw [List.getElem?_eq_getElem (by omega), List.getElem?_eq_getElem (by omega)] at h1 ⊢
      simpa using h1
    · rw [List.getElem?_eq_none (by omega), List.getElem?_eq_none (by omega)]
  · intro h i _
    rw [h]

theorem run_eq_arr (d : Nat) (xs ys : List Int) (hx : xs.length = 24) (hy : ys.length = 24) (w : World) :
    (Op.equalIn (d + 1 + 1) 44 (.agg (i16s xs)) (.agg (i16s ys))).run Tryz.prog w = .ok (xs == ys) w := by
  have hl := eq_loop d xs ys w (List.range' 0 24) (fun i hi => by simp [List.mem_range'] at hi; omega)
  rw [all_eq xs ys 24 hx hy] at hl
  rw [Op.equalIn.eq_def]
  simp only [Sem.run_bind, run_underlying Tryz.underlying44, Result.andThen_ok, size_i16]
  rw [Std.Legacy.Range.forIn_eq_forIn_range']
  have e : (Std.Legacy.Range.mk 0 24 1 (by decide)).size = 24 := by decide
  simp only [e]
  erw [hl]
  cases xs == ys <;> rfl


theorem run_eql_arr (xs ys : List Int) (hx : xs.length = 24) (hy : ys.length = 24) (w : World) :
    (Op.equalIn 10000 44 (.agg (i16s xs)) (.agg (i16s ys))).run Tryz.prog w = .ok (xs == ys) w := run_eq_arr 9998 xs ys hx hy w

set_option maxRecDepth 100000 in
theorem fields_sun : Tryz.prog.underlying 46 = some (.struct (Tryz.prog.fieldsOf 46)) := by kernel_rfl

set_option maxRecDepth 100000 in
theorem stood_sun : Tryz.prog.stoodInHeld 46 = false := by kernel_rfl

theorem fold_and (a b : Bool) (w : World) : (if (!a) = true then Sem.run Tryz.prog (pure false) w else ((Sem.run Tryz.prog (pure b) w).andThen fun r w' => Sem.run Tryz.prog (if (!r) = true then pure false else pure true) w')) = .ok (a && b) w := by
  cases a <;> cases b <;> rfl

set_option maxRecDepth 100000 in
theorem run_eql_sun (h1 t1 h2 t2 : List Int) (a1 : h1.length = 24) (b1 : t1.length = 24) (a2 : h2.length = 24) (b2 : t2.length = 24) (w : World) :
    (Op.equalIn 10000 46 (.agg (sunC h1 t1)) (.agg (sunC h2 t2))).run Tryz.prog w = .ok (h1 == h2 && t1 == t2) w := by
  rw [run_equalIn_agg w 9999 46 _ _ fields_sun stood_sun]
  have hf : (Tryz.prog.fieldsOf 46).toList.map (fun f => (f.name, f.type, f.offset)) = [("Height", 44, 0), ("Turns", 44, 24)] := by kernel_rfl
  generalize (Tryz.prog.fieldsOf 46).toList = fs at hf
  have hlen : fs.length = 2 := by simpa using congrArg List.length hf
  match fs, hlen, hf with
  | [f0, f1], _, hf =>
    simp only [List.map_cons, List.map_nil, List.cons.injEq, Prod.mk.injEq, and_true] at hf
    obtain ⟨⟨n0, ty0, o0⟩, n1, ty1, o1⟩ := hf
    simp only [Op.eqFields, n0, n1, ty0, ty1, o0, o1]
    rw [if_pos (by decide), if_pos (by decide)]
    simp only [Sem.run_bind, part_arr, Result.andThen_ok, sunC_fst _ _ a1, sunC_fst _ _ a2, sunC_snd _ _ a1 b1, sunC_snd _ _ a2 b2, run_eq_arr 9997 _ _ a1 a2, Sem.run_ite, run_eq_arr 9997 _ _ b1 b2]
    cases h1 == h2 <;> cases t1 == t2 <;> rfl

end Go.Proofs.YtpcmcopfdghdgaaGreatDoor

namespace Go.Proofs.YtpcmcopfdghdgaaGreatDoor
open Go.RowKit Go.Shelf

attribute [local go_sem] Oper.semAt_some

theorem heap_kept {W W' : World} {row : Option Nat} {b : Nat} {cs : Array Value} {t : TypeId} {fr : Nat × Nat} (h : W.heap[b]? = some (.cells cs t fr)) (hg : W.grownBy W' row)
    (hr : ∀ r, row = some r → ∃ o : Obj, W.heap[r]? = some o ∧ o.isCells = false) : W'.heap[b]? = some (.cells cs t fr) := by
  have hlt := (Array.getElem?_eq_some_iff.1 h).1
  rw [← h]
  refine hg.block b hlt fun e => ?_
  obtain ⟨o, ho, hc⟩ := hr b e.symm
  rw [h] at ho
  cases ho
  cases hc

/-- A number between two bounds. -/
def clampI (lo hi y : Int) : Int := if hi < (if lo > y then lo else y) then hi else (if lo > y then lo else y)

/-- The list whose first numbers are held. -/
def clampTo (lo hi : Int) (xs : List Int) (k : Nat) : List Int := (xs.take k).map (clampI lo hi) ++ xs.drop k

def Good (pre : List Hr) : Prop := pre = hrs pre.length

theorem good_snoc {pre : List Hr} {x : Hr} (h : Good (pre ++ [x])) (hl : pre.length < 24) : Good pre ∧ x.1 = (pre.length : Int) := by
  unfold Good at h
  rw [List.length_append, List.length_singleton, hrs_succ] at h
  have h1 := List.append_inj_left h (by simp)
  have h2 := List.append_inj_right h (by simp)
  refine ⟨h1, ?_⟩
  injection h2 with h3
  rw [h3, hr_val _ hl]

theorem good_all : Good (hrs 24) := by unfold Good; rw [hrs_length]

theorem clampTo_get (lo hi : Int) (xs : List Int) (k : Nat) (hx : xs.length = 24) (hk : k < 24) : (clampTo lo hi xs k)[k]?.getD 0 = xs[k]?.getD 0 := by
  unfold clampTo
  rw [List.getElem?_append_right (by simp; omega), List.getElem?_drop]
  congr 2
  simp; omega

theorem clampTo_step (lo hi : Int) (xs : List Int) (k : Nat) (hx : xs.length = 24) (hk : k < 24) :
    (clampTo lo hi xs k).set k (clampI lo hi (xs[k]?.getD 0)) = clampTo lo hi xs (k + 1) := by
  apply List.ext_getElem?
  intro j
  unfold clampTo
  simp only [List.getElem?_set, List.getElem?_append, List.length_map, List.length_take, List.getElem?_map, List.getElem?_take, List.getElem?_drop, List.length_append, List.length_drop, hx]
  by_cases h1 : k = j
  · subst h1
    rw [if_pos rfl, if_pos (by omega), if_pos (by omega), if_pos (by omega), List.getElem?_eq_getElem (by omega)]
    rfl
  · rw [if_neg h1]
    by_cases h2 : j < k
    · rw [if_pos (by omega), if_pos (by omega), if_pos (by omega), if_pos (by omega)]
    · rw [if_neg (by omega), if_neg (by omega)]
      congr 1
      omega

theorem clampTo_all (lo hi : Int) (xs : List Int) (hx : xs.length = 24) : clampTo lo hi xs 24 = xs.map (clampI lo hi) := by
  unfold clampTo
  rw [List.take_of_length_le (by omega), List.drop_of_length_le (by omega), List.append_nil]

theorem clampTo_none (lo hi : Int) (xs : List Int) : clampTo lo hi xs 0 = xs := rfl

def HeldI (w : World) (lo hi : Int) (xs : List Int) (pre : List Hr) (W : World) : Prop :=
  ∃ ys : List Int, ys.length = 24 ∧ W.heap[w.heap.size]? = some (.cells (i16s ys) 44 (0, 0)) ∧ W.heap[w.heap.size + 1]? = some (.cells #[.int .i16 lo] 26 (0, 0)) ∧ W.heap[w.heap.size + 1 + 1]? = some (.cells #[.int .i16 hi] 26 (0, 0)) ∧ W.heap[w.heap.size + 1 + 1 + 1]? = some (.cells (i16s zer) 44 (0, 0)) ∧ (Good pre → ys = clampTo lo hi xs pre.length) ∧ Below w.heap.size w W

theorem heldI_own (w : World) (lo hi : Int) (xs : List Int) (B : Nat) (hB : w.heap.size ≤ B) : OwnFrom B (HeldI w lo hi xs) := by
  intro s W W' row ⟨ys, hy, h0, h1, h2, h3, hg, hb⟩ hg' hr
  have hr2 := fun r e => (hr r e).2
  exact ⟨ys, hy, heap_kept h0 hg' hr2, heap_kept h1 hg' hr2, heap_kept h2 hg' hr2, heap_kept h3 hg' hr2, hg, ownFrom_below (β := Unit) (Nat.le_refl _) hB () W W' row hb hg' hr⟩

theorem held_step {w W : World} {lo hi : Int} {xs ys : List Int} {pre : List Hr} {k : Nat} {h01 : 0 ≤ (k : Int) ∧ (k : Int) < 24} (hx : xs.length = 24) (hy : ys.length = 24) (hl : pre.length < 24)
    (h0 : W.heap[w.heap.size]? = some (.cells (i16s ys) 44 (0, 0))) (h1 : W.heap[w.heap.size + 1]? = some (.cells #[.int .i16 lo] 26 (0, 0))) (h2 : W.heap[w.heap.size + 1 + 1]? = some (.cells #[.int .i16 hi] 26 (0, 0)))
    (h3 : W.heap[w.heap.size + 1 + 1 + 1]? = some (.cells (i16s zer) 44 (0, 0))) (hg : Good pre → ys = clampTo lo hi xs pre.length) (hb : Below w.heap.size w W) (v : Int) (hv : v = clampI lo hi (ys[k]?.getD 0)) :
    KeepsOthers W (W.setCell ⟨w.heap.size, k, none⟩ (.int .i16 v)).drew ∧ Below w.heap.size W (W.setCell ⟨w.heap.size, k, none⟩ (.int .i16 v)).drew ∧ HeldI w lo hi xs (pre ++ [⟨k, h01⟩]) (W.setCell ⟨w.heap.size, k, none⟩ (.int .i16 v)).drew := by
  have hk : k < 24 := by have := h01.2; omega
  refine ⟨(KeepsOthers.setCell _ _ _).trans (KeepsOthers.drew _), ((Below.refl w.heap.size W).setCell (p := ⟨w.heap.size, k, none⟩) (Nat.le_refl _) _).drew, ys.set k v, by simp [hy], ?_, ?_, ?_, ?_, ?_, (hb.setCell (p := ⟨w.heap.size, k, none⟩) (Nat.le_refl _) _).drew⟩
  · rw [heap_drew, heap_setCell_same _ _ _ _ _ _ h0, i16s_set]
  · rw [heap_drew, heap_setCell_other _ _ _ _ (by simp)]; exact h1
  · rw [heap_drew, heap_setCell_other _ _ _ _ (by simp; omega)]; exact h2
  · rw [heap_drew, heap_setCell_other _ _ _ _ (by simp; omega)]; exact h3
  · intro hgs
    obtain ⟨hgp, hxk⟩ := good_snoc hgs hl
    have hkl : k = pre.length := by have : (k : Int) = (pre.length : Int) := hxk; omega
    have hys := hg hgp
    rw [List.length_append, List.length_singleton, hv, hys, hkl, clampTo_get lo hi xs _ hx hl, clampTo_step lo hi xs _ hx hl]

theorem arrU : Tryz.prog.follows .mixedOrders = true := by kernel_rfl

set_option maxRecDepth 100000 in
set_option maxHeartbeats 2000000 in
theorem held_any (xs : List Int) (hx : xs.length = 24) (lo hi : Int) (w : World) :
    Calls Tryz.prog 140 #[.agg (i16s xs), .int .i16 lo, .int .i16 hi] w fun e w' => e = .returned (.agg (i16s (xs.map (clampI lo hi)))) ∧ Below w.heap.size w w' := by
  refine (callsIn_wide (n := 4)).1 ?_
  have Hx := Lib.hid hx
  clear hx
  refine callsIn_of_wp_marks Tryz.func140 rfl trivial ?_ rfl
  simp only [Tryz.ntmps140, List.size_toArray, List.length_cons, List.length_nil, Nat.reduceAdd, Nat.reduceSub, Array.replicate_succ, Array.replicate_zero, List.push_toArray, List.append_toArray, List.nil_append, List.cons_append]
  gi_wp2
  refine wpIn_rangeFunc_ownF rfl (by decide) (gf := 109) (lb := #[]) rfl trivial (enters_of Tryz.func109 (by kernel_rfl) rfl)
    (eachHour_stops Fence.wide _ trivial rfl (by decide) w.heap.size _) belowK_t (belowK_b (by simp; omega)) (Below.refl _ _) (fun _ => rfl)
    (HeldI w lo hi xs)
    (fun _ _ _ => False) (heldI_own w lo hi xs _ (by simp; omega)) (fun _ _ _ _ _ hs _ _ => hs) ?h0
    (fun x => { tmps := #[.agg (i16s xs), .int .i16 lo, .int .i16 hi, .pointer (some ⟨w.heap.size, 0, none⟩), .pointer (some ⟨w.heap.size + 1, 0, none⟩), .pointer (some ⟨w.heap.size + 1 + 1, 0, none⟩), .pointer (some ⟨w.heap.size + 1 + 1 + 1, 0, none⟩), .int .i64 x.1, .int .i64 x.1, undef, undef, undef, undef, undef, undef, undef, undef, undef, undef], defers := [] }) ?assign ?body ?done ?stop
  case h0 =>
    refine ⟨xs, Hx.out, ?_, ?_, ?_, ?_, fun _ => rfl, ((((Below.refl _ _).alloc (Nat.le_refl _) _).alloc (by simp) _).alloc (by simp; omega) _).alloc (by simp; omega) _⟩
    all_goals simp only [heap_alloc, World.size_alloc]
    · rw [if_neg (by omega), if_neg (by omega), if_neg (by omega), if_true]
    · rw [if_neg (by omega), if_neg (by omega), if_true]
    · rw [if_neg (by omega), if_true]
    · rw [if_true]; rfl
  case assign =>
    intro l x W K hK
    gi_wp2
    exact hK
  case body =>
    rintro l pre x W ⟨ys, hy, h0, h1, h2, h3, hg, hb⟩ hl
    have hmx := arrU
    obtain ⟨x, hx0, hx1⟩ := x
    obtain ⟨k, rfl⟩ := Int.eq_ofNat_of_zero_le hx0
    have hk : k < 24 := by omega
    have c0 := cell_of_i16s h0 k (by rw [hy]; exact hk)
    have c1 : W.cell? ⟨w.heap.size + 1, 0, none⟩ = some (.int .i16 lo) := by rw [cell_of_row W _ _ _ _ _ h1]; rfl
    have c2 : W.cell? ⟨w.heap.size + 1 + 1, 0, none⟩ = some (.int .i16 hi) := by rw [cell_of_row W _ _ _ _ _ h2]; rfl
    have f0 := frozen_of_row W w.heap.size k _ _ h0
    have H0 := Lib.hid h0
    have H1 := Lib.hid h1
    have H2 := Lib.hid h2
    have H3 := Lib.hid h3
    have HG := Lib.hid hg
    have Hy := Lib.hid hy
    clear h0 h1 h2 h3 hg hy
    gi_wp2
    refine still_tail_round (k := 9) hmx (by kernel_rfl) (no_defer (by rfl)) (fun ⟨_, _, h⟩ => h) ?_
    simp only [List.take_succ_cons, List.take_zero, List.drop_succ_cons, List.drop_zero]
    repeat still_step
    refine wpStill_nil ?_
    go_wp2
    all_goals refine held_step Hx.out Hy.out hl H0.out H1.out H2.out H3.out HG.out hb _ ?_
    all_goals (unfold clampI; clear H0 H1 H2 H3 HG Hy c0 f0)
    all_goals (repeat (first | rw [if_pos (by omega)] | rw [if_neg (by omega)]))
  case done =>
    rintro D zs W hD rfl ⟨ys, hy, h0, h1, h2, h3, hg, hb⟩ hK
    rename_i K hcont
    have hD' : w.heap.size + 4 ≤ D := by simpa using hD
    have hys : ys = xs.map (clampI lo hi) := by rw [hg good_all, hrs_length, clampTo_all lo hi xs Hx.out]
    subst hys
    clear hg hD h1 h2
    have H0 := Lib.hid h0
    have H3 := Lib.hid h3
    have HK := Lib.hid hK
    have Hy := Lib.hid hy
    clear h0 h3 hK hy
    refine hcont _ _ ?_
    refine wpIn_wide.2 ?_
    go_wp2_with (first | (refine wpList_load_part rfl 44 _ rfl w.heap.size 0 24 rfl 44 (i16s (xs.map (clampI lo hi))) (0, 0) _ H0.out Tryz.underlying44 rfl info_arr (by rw [i16s_size, Hy.out]; decide) (i16s (xs.map (clampI lo hi))) (i16s_all _ 24 Hy.out) ?_) | (refine wpList_store_part rfl 44 _ _ rfl (w.heap.size + 1 + 1 + 1) 0 (i16s (xs.map (clampI lo hi))) rfl rfl 44 (i16s zer) H3.out (by rw [i16s_size, Hy.out]; exact info_arr) (by rw [i16s_size, i16s_size, Hy.out]; decide) (i16s_one _) ?_; rw [laid_all _ _ (by rw [i16s_size, i16s_size, Hy.out]; rfl)]))
    have hK2 : (W.setRow (w.heap.size + 1 + 1 + 1) (i16s (xs.map (clampI lo hi)))).heap[D]? = some (.deferred (some [])) := (setRow_other _ _ _ _ (by omega)).trans HK.out
    have hR := setRow_heap W (w.heap.size + 1 + 1 + 1) _ (i16s (xs.map (clampI lo hi))) _ _ H3.out
    refine ⟨by simp, .inl ⟨_, _, rfl, run_takeDeferred hK2, ?_⟩⟩
    refine ⟨.agg (i16s (xs.map (clampI lo hi))), results_cell_row rfl _ _ (w.heap.size + 1 + 1 + 1) 44 _ (0, 0) _ rfl ((World.putObj_heap_other (by omega)).trans hR) Tryz.underlying44 rfl (by rw [i16s_size, Hy.out]; exact info_arr), rfl, ?_⟩
    exact (below_setRow hb (by omega) _).trans (belowK_b (w := w) (Nat.le_refl _) _ D _ _ (by omega) hK2 rfl rfl)
  case stop =>
    rintro D c pre W _ _ h _
    exact h.elim

end Go.Proofs.YtpcmcopfdghdgaaGreatDoor
