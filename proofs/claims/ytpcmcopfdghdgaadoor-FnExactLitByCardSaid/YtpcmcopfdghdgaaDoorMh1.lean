/-
  Place, Place2, LightF, LightA, RwA, LightS, IsTile, RoomV, RoomW, RoomS, LightL, Box, DeskA, Glare, RwB, RwC, RwD, Errs, Code, New, EtA, Round, RoundL, Sun, Hours, Eq.
-/
import Derived.Test.YtpcmcopfdghdgaaDoorRoomK
import Derived.Test.YtpcmcopfdghdgaaDoorRoomF
import Derived.StillTailTactics
import Derived.IntWalk
import Derived.Shelf.Abstract
import Derived.Great.BuildSlice
import Derived.Test.YtpcmcopfdghdgaaDoorRoomL
import Derived.Test.YtpcmcopfdghdgaaDoorRoomE
import Derived.Test.YtpcmcopfdghdgaaDoorRow
import Derived.Laws.StructEq
import Derived.Laws.EntriesVeiled
import Derived.Laws.AppendOwn
import Derived.Test.YtpcmcopfdghdgaaDoorSgn
import Derived.Test.YtpcmcopfdghdgaaDoorRows
import Derived.Stop.LaidTwo
import Derived.LaidEql
import Derived.LaidMore
import Derived.LaidHandle
import Derived.WalkKit
import Derived.ProofKit
import Derived.OpenShut
import Derived.RowKitTokens
import Derived.Test.YtpcmcopfdghdgaaDoorChecked
import Derived.Stop.Asserts
import Derived.Elder7
import Derived.Lib.Hide
import Derived.RangeFuncNested
import Derived.RangeFuncBound
import Derived.RangeFuncCalls
import Derived.RangeFuncLeaves
import Derived.RangeFuncFrom
import Derived.RangeFuncWrites
import Derived.Shelf.RegionOpen
import Derived.OwnWalkIn
import Derived.TacticsInMore
import Derived.LoopNIn
import Derived.LoopIn
import Derived.Sort.AtCallIn
import Derived.RangeFuncBox
import Derived.Test.YtpcmcopfdghdgaaDoorRoomP
import Derived.Test.YtpcmcopfdghdgaaDoorTileA
import Derived.Deep.RegionHeld3
import Derived.OrdersIn
import Derived.StillTail
import Derived.WalkSpells
import Derived.WalkLawsBesides
import Derived.Deep.Cut
import Derived.Deep.DeepCutAuto

namespace Go.Proofs.YtpcmcopfdghdgaaDoor
open Go.RowKit

attribute [local go_sem] run_store_f

theorem info_tile : (Tryd.prog.info? 175).map (·.size) = some 2 := by kernel_rfl
theorem tile_fits (x y : Int) : 0 + 2 ≤ (tileC x y).size := Nat.le_refl _
theorem tile_all (x y : Int) : (tileC x y).extract 0 (0 + 2) = tileC x y := rfl
theorem tile_one (x y : Int) : ∀ v ∈ tileC x y, v.oneCell' = true := by
  intro v hv
  simp only [tileC, List.mem_toArray, List.mem_cons, List.not_mem_nil, or_false] at hv
  rcases hv with rfl | rfl <;> rfl
theorem tile_cells {x y : Int} {W : World} {g : Nat} {T : TypeId} {fr : Nat × Nat} (h : W.heap[g]? = some (.cells (tileC x y) T fr)) :
    W.cell? ⟨g, 0, none⟩ = some (.int .i8 x) ∧ W.cell? ⟨g, 1, none⟩ = some (.int .i8 y) :=
  ⟨by rw [cell_of_row W _ _ _ _ _ h]; rfl, by rw [cell_of_row W _ _ _ _ _ h]; rfl⟩
def RB (wd hg : Int) : Prop := 1 ≤ wd ∧ wd ≤ 10 ∧ 1 ≤ hg ∧ hg ≤ 10


theorem run_store_row {P : Program} (w : World) (g : Nat) (t : TypeId) (vs old : Array Value) (hg : w.heap[g]? = some (.cells old t (0, 0))) (hs : old.size = vs.size) (h1 : ∀ v ∈ vs, v.oneCell' = true) :
    (storeCells ⟨g, 0, none⟩ vs.toList).run P w = .ok () (w.setRow g vs) := by
  have hst := run_storeCells_at P g 0 t vs.toList 0 old w hg (by simp; omega) (fun v hv => h1 v (by simpa using hv))
  have hl := laid_allr old vs hs
  unfold laid at hl
  simp only [Nat.add_zero] at hst
  rw [hst]
  simp at hl ⊢
  rw [hl]

end Go.Proofs.YtpcmcopfdghdgaaDoor

namespace Go.Proofs.YtpcmcopfdghdgaaDoor
open Go.RowKit

attribute [local go_sem] run_store_f

theorem tlW_0 {wd hg : Int} {x : Wn} (h : x.1 = 0) : tlW wd hg x = (x.2.1, 0) := if_pos h
theorem tlW_1 {wd hg : Int} {x : Wn} (h : x.1 = 1) : tlW wd hg x = (wd - 1, x.2.1) := by unfold tlW; rw [if_neg (by omega), if_pos h]
theorem tlW_2 {wd hg : Int} {x : Wn} (h : x.1 = 2) : tlW wd hg x = (x.2.1, hg - 1) := by unfold tlW; rw [if_neg (by omega), if_neg (by omega), if_pos h]
theorem tlW_3 {wd hg : Int} {x : Wn} (h : x.1 = 3) : tlW wd hg x = (0, x.2.1) := by unfold tlW; rw [if_neg (by omega), if_neg (by omega), if_neg (by omega)]

end Go.Proofs.YtpcmcopfdghdgaaDoor

namespace Go.Proofs.YtpcmcopfdghdgaaDoor
open Go.RowKit

attribute [local go_sem] run_store_f

end Go.Proofs.YtpcmcopfdghdgaaDoor

namespace Go.Proofs.YtpcmcopfdghdgaaDoor
open Go.RowKit

attribute [local go_sem] run_store_f

end Go.Proofs.YtpcmcopfdghdgaaDoor

namespace Go.Proofs.YtpcmcopfdghdgaaDoor
open Go.RowKit

attribute [local go_sem] run_store_f

theorem wpList_buildRR {P : Program} {ops : Array Oper} {rest : List Oper} {o : Oper} {a : Act} {w : World} {Q : Exit → Act → World → Prop} (hg : o.guard = none) (t : TypeId) (parts : Array (Nat × Operand)) (ho : o.op = .build t parts)
    (d : Option Tmp) (hd : o.dst = d) (l : List (Nat × Value)) (hp : parts.toList.map (fun x => (x.1, a.eval x.2)) = l) (cells : Array Value) (hf : P.built t l = some cells)
    (h : wpList P ops Q rest (a.put d (.agg cells)) w) : wpList P ops Q (o :: rest) a w := by
  refine wpList_buildTo hg t parts ho d hd cells ?_ h
  rw [Array.toList_map, ← hf, ← hp]

theorem built_room (a b : Int) (v : Option Addr) (n c : Nat) : Tryd.prog.built 33 [(0, .int .i8 a), (1, .int .i8 b), (2, .slice v n c)] = some (roomC a b (.slice v n c)) := by kernel_rfl

theorem built_room0 : Tryd.prog.built 33 [] = some (roomC 0 0 (.slice none 0 0)) := by kernel_rfl

theorem room_oneS (wd hg : Int) (a : Option Addr) (n c : Nat) : ∀ u ∈ roomC wd hg (.slice a n c), u.oneCell' = true := by
  intro u hu
  simp only [roomC, List.mem_toArray, List.mem_cons, List.not_mem_nil, or_false] at hu
  rcases hu with rfl | rfl | rfl <;> rfl

theorem rwZ (V : World) (o : Obj) (cs : Array Value) : Below V.heap.size V ((V.alloc o).setRow V.heap.size cs) := below_setRow ((Below.refl _ _).alloc (Nat.le_refl _) _) (Nat.le_refl _) _

set_option maxRecDepth 100000 in
set_option maxHeartbeats 4000000 in
theorem withWindows_any (wd hg : Int) (sv : Value) (ws : List Wn) (hlen : ws.length ≤ 12) (Fc : FuncId) (hE : ∀ args w, (callFunc Fc args).run Tryd.prog w = .ok (.enter Fc args) w) (lbw : Array Value) (f : Wn → Wn) (C : World → Prop) (w : World) (hws : WinsAt w sv ws)
    (hC : ∀ W, Below w.heap.size w W → C W)
    (hP : ∀ (x : Wn) (W : World), x ∈ ws → C W → Calls Tryd.prog Fc (#[.agg (winC x)] ++ lbw) W fun e W' => e = .returned (.agg (winC (f x))) ∧ Below W.heap.size W W') :
    Calls Tryd.prog 41 #[.agg (roomC wd hg sv), .func (.func Fc) #[] lbw] w fun e w' => (∃ v, e = .returned (.agg (roomC wd hg v)) ∧ OwnW w' w.heap.size v (ws.map f)) ∧ Below w.heap.size w w' := by
  have HW := Lib.hid hws
  have HCc := Lib.hid hC
  have HPp := Lib.hid hP
  obtain ⟨a, cap, rfl, hl1, hl2, _⟩ := hws
  unfold maxLen at hl2
  generalize hn : ws.length = n at *
  have HN := Lib.hid hn
  have hmk := fun w => make_wins n (by omega) w
  clear hn hC hP
  go_enter Tryd.func41, Tryd.ntmps41
  go_upto_region 1 with (fail)
  refine abs_world (fun W => W.heap[w.heap.size]? = some (.cells (roomC wd hg (.slice a n cap)) 33 (0, 0)) ∧ W.heap[w.heap.size + 1]? = some (.cells (roomC 0 0 (.slice none 0 0)) 33 (0, 0)) ∧ Below w.heap.size w W) (two_at w (.cells (roomC wd hg (.slice a n cap)) 33) (.cells (roomC 0 0 (.slice none 0 0)) 33)) ?_
  rintro W ⟨h0, h1, hb⟩
  have n01 : w.heap.size < w.heap.size + 1 := by omega
  generalize w.heap.size + 1 = b4 at *
  obtain ⟨r0, r1, r2⟩ := room_cells h0
  have H0 := Lib.hid h0
  have H1 := Lib.hid h1
  clear h0 h1
  go_upto_region 2 with (fail)
  refine abs_world (fun V => V.heap[w.heap.size]? = some (.cells (roomC wd hg (.slice a n cap)) 33 (0, 0)) ∧ V.heap[b4]? = some (.cells (roomC 0 0 (.slice none 0 0)) 33 (0, 0)) ∧ V.heap[W.heap.size]? = some (.cells (madeCells #[.int .i8 0, .int .i8 0, .float .f32 0] (n * 3)) 68 (0, 0)) ∧ Below w.heap.size w V) ⟨below_row ((Below.refl W.heap.size _).alloc (Nat.le_refl _) _) H0.out, below_row ((Below.refl W.heap.size _).alloc (Nat.le_refl _) _) H1.out, heap_alloc_new _ _, hb.alloc hb.size _⟩ ?_
  have hlb := row_lt H1.out
  have hsz := hb.size
  clear H0 H1 hb r0 r1 r2 hmk
  generalize W.heap.size = gb at *
  rintro V ⟨h0, h1, hg0, hb⟩
  obtain ⟨r0, r1, r2⟩ := room_cells h0
  have H0 := Lib.hid h0
  have H1 := Lib.hid h1
  have HG0 := Lib.hid hg0
  clear h0 h1 hg0
  go_upto_region 3 with (fail)
  go_loopw [15] (fun i wr => ∃ k : Nat, k ≤ n ∧ i = .int .i64 (k : Int) ∧ wr.heap[w.heap.size]? = some (.cells (roomC wd hg (.slice a n cap)) 33 (0, 0)) ∧ wr.heap[b4]? = some (.cells (roomC 0 0 (.slice none 0 0)) 33 (0, 0)) ∧ Below w.heap.size w wr ∧ ∃ cur, wr.heap[gb]? = some (.cells cur 68 (0, 0)) ∧ cur.size = n * 3 ∧ ∀ j x, j < k → ws[j]? = some x → cur.extract (j * 3) (j * 3 + 3) = winC (f x)) (fun i _ => n - (intOf i).toNat)
  case atStart => exact ⟨0, Nat.zero_le _, rfl, H0.out, H1.out, hb, _, HG0.out, size_madeCells _ _, fun j x hj => by omega⟩
  case round =>
    clear H0 H1 hb HG0 r0 r1 r2
    obtain ⟨k, hk, rfl, h0, h1, hb, cur, hg', hs, hp⟩ := hrel
    have H0 := Lib.hid h0
    have H1 := Lib.hid h1
    have HG := Lib.hid hg'
    have HP := Lib.hid hp
    clear h0 h1 hg' hp
    by_cases hlt : k < n
    · have hx : ws[k]? = some (ws[k]'(by rw [HN.out]; exact hlt)) := List.getElem?_eq_getElem _
      obtain ⟨g, o, rfl, hc⟩ := win_at (wins_below HW.out hb) hx
      have HCl := Lib.hid hc
      have hmem := List.mem_of_getElem? hx
      generalize (ws[k]'(by rw [HN.out]; exact hlt)) = x at *
      have HX := Lib.hid hx
      have HMM := Lib.hid hmem
      have hks : k * 3 + 3 ≤ cur.size := by omega
      have z1 : (k : Int) < (n : Int) := by omega
      have z2 : (0 : Int) ≤ (k : Int) := by omega
      clear hc hx hmem
      go_upto_region 5 with (first | (refine wpList_load_cells rfl 68 _ rfl g (o + k * 3) 3 rfl _ Tryd.underlying68 rfl info_win (winC x) rfl HCl.out ?_) | (refine wpList_store_part rfl 68 _ _ rfl _ 0 (winC x) rfl rfl 68 _ (heap_alloc_new _ _) (by kernel_rfl) (Nat.le_refl _) (win_one _) ?_; rw [laid_allr _ _ (by rfl)]))
      refine abs_world (fun X => X.heap[w.heap.size]? = some (.cells (roomC wd hg (.slice (some ⟨g, o, none⟩) n cap)) 33 (0, 0)) ∧ X.heap[b4]? = some (.cells (roomC 0 0 (.slice none 0 0)) 33 (0, 0)) ∧ X.heap[gb]? = some (.cells cur 68 (0, 0)) ∧ X.heap[wr.heap.size]? = some (.cells (winC x) 68 (0, 0)) ∧ Below w.heap.size w X) ⟨below_row (rwZ _ _ _) H0.out, below_row (rwZ _ _ _) H1.out, below_row (rwZ _ _ _) HG.out, setRow_heap _ _ _ _ _ _ (heap_alloc_new _ _), hb.trans ((rwZ _ _ _).mono hb.size)⟩ ?_
      clear H0 H1 HG hb
      generalize wr.heap.size = wb at *
      rintro X ⟨h0, h1, hg', hwn, hb⟩
      have H0 := Lib.hid h0
      have H1 := Lib.hid h1
      have HG := Lib.hid hg'
      have HWN := Lib.hid hwn
      have HPx := Lib.hid (HPp.out x X HMM.out (HCc.out X hb))
      clear h0 h1 hg' hwn
      go_wp2_with (first | (refine wpList_load_part rfl 68 _ rfl wb 0 3 rfl 68 (winC x) (0, 0) _ HWN.out Tryd.underlying68 rfl info_win (win_fits _) _ (win_all _) ?_) | (refine HPx.out.mono ?_; rintro e W7 ⟨rfl, hb7⟩; replace H0 := Lib.hid (below_row hb7 H0.out); replace H1 := Lib.hid (below_row hb7 H1.out); replace HG := Lib.hid (below_row hb7 HG.out); replace hb := hb.trans (hb7.mono hb.size); clear hb7) | (refine wpList_store_part rfl 68 _ _ rfl gb (k * 3) (winC (f x)) rfl rfl 68 cur HG.out (by kernel_rfl) hks (win_one _) ?_))
      go_roundw
      case rel =>
        refine ⟨k + 1, by omega, by go_num, (setRow_other _ _ _ _ (by omega)).trans H0.out, (setRow_other _ _ _ _ (by omega)).trans H1.out, below_setRow hb (by omega) _, _, setRow_heap _ _ _ _ _ _ HG.out, by rw [laid_size _ _ _ hks]; exact hs, fun j y hj hy => ?_⟩
        by_cases e : j = k
        · subst e
          rw [HX.out] at hy
          obtain rfl := Option.some.inj hy
          exact laid_here cur (winC (f x)) (j * 3) hks
        · rw [laid_there cur (winC (f x)) (k * 3) (j * 3) 3 hks (by omega)]
          exact HP.out j y (by omega) hy
      case measure => simp [intOf]; omega
    · obtain rfl : k = n := by omega
      obtain ⟨r0, r1, r2⟩ := room_cells H0.out
      have hcl := row_lt HG.out
      have HR : Hid (OwnW (wr.setRow b4 (roomC wd hg (.slice (some ⟨gb, 0, none⟩) k k))) w.heap.size (.slice (some ⟨gb, 0, none⟩) k k) (ws.map f)) := by
        refine ⟨gb, cur, by rw [List.length_map, HN.out], by omega, (setRow_other _ _ _ _ (by omega)).trans HG.out, by rw [List.length_map, HN.out]; exact hs, by rw [List.length_map]; have := HN.out; omega, fun j x hx => ?_⟩
        rw [List.getElem?_map] at hx
        cases hy : ws[j]? with
        | none => rw [hy] at hx; cases hx
        | some y =>
          rw [hy] at hx
          obtain rfl := Option.some.inj hx
          have := (List.getElem?_eq_some_iff.1 hy).1
          exact HP.out j y (by have := HN.out; omega) hy
      clear HP hs
      go_wp2_with (first | (refine wpList_buildRR rfl 33 _ rfl _ rfl [(0, .int .i8 wd), (1, .int .i8 hg), (2, .slice (some ⟨gb, 0, none⟩) k k)] rfl (roomC wd hg (.slice (some ⟨gb, 0, none⟩) k k)) (built_room _ _ _ _ _) ?_) | (refine wpList_store_part rfl 33 _ _ rfl b4 0 (roomC wd hg (.slice (some ⟨gb, 0, none⟩) k k)) rfl rfl 33 _ H1.out info_room (Nat.le_refl _) (room_oneS _ _ _ _ _) ?_; rw [laid_allr _ _ (by rfl)]))
      exact bodyPost_ret (v := .agg (roomC wd hg (.slice (some ⟨gb, 0, none⟩) k k))) (results_cell_row rfl _ _ _ _ _ _ _ rfl (setRow_heap _ _ _ _ _ _ H1.out) Tryd.underlying33 rfl info_room) rfl ⟨⟨_, rfl, HR.out⟩, below_setRow hb (by omega) _⟩

end Go.Proofs.YtpcmcopfdghdgaaDoor

namespace Go.Proofs.YtpcmcopfdghdgaaDoor
open Go.RowKit

attribute [local go_sem] run_store_f

theorem sq_turn (a b : Int) : (a - b) * (a - b) = (b - a) * (b - a) := by
  have e : b - a = -(a - b) := by omega
  rw [e, Int.neg_mul_neg]

end Go.Proofs.YtpcmcopfdghdgaaDoor

namespace Go.Proofs.YtpcmcopfdghdgaaDoor
open Go.RowKit

attribute [local go_sem] run_store_f

/-- There is such a tile. -/
def isT (wd hg x y : Int) : Bool := inI 0 (wd - 1) x && inI 0 (hg - 1) y
theorem isT_get {wd hg x y : Int} (h : isT wd hg x y = true) : 0 ≤ x ∧ x < wd ∧ 0 ≤ y ∧ y < hg := by
  simp only [isT, Bool.and_eq_true] at h
  have a := inI_get h.1
  have b := inI_get h.2
  omega
theorem isT_bad {wd hg x y : Int} (h : ¬ (0 ≤ x ∧ x < wd ∧ 0 ≤ y ∧ y < hg)) : isT wd hg x y = false := by
  rw [Bool.eq_false_iff]
  intro k
  exact h (isT_get k)



theorem l00In_is (a lo hi : Int) (r : Bool) (h : inI lo hi a = r) (w : World) : Calls Tryd.prog 55 #[.int .i64 a, .int .i64 lo, .int .i64 hi] w fun e w' => e = .returned (.bool r) ∧ w = w' := by subst h; exact l00In_ban a lo hi w

end Go.Proofs.YtpcmcopfdghdgaaDoor

namespace Go.Proofs.YtpcmcopfdghdgaaDoor
open Go.RowKit

attribute [local go_sem] run_store_f

set_option maxRecDepth 100000 in
set_option maxHeartbeats 1000000 in
theorem validFn_any (wd hg : Int) (sv : Value) (x : Wn) (gb : Nat) (w : World) (hb0 : w.heap[gb]? = some (.cells (roomC wd hg sv) 33 (0, 0))) :
    Calls Tryd.prog 61 #[.agg (winC x), .pointer (some ⟨gb, 0, none⟩)] w fun e w' => e = .returned (.bool (!fitB wd hg x)) ∧ Below w.heap.size w w' := by
  have hl := row_lt hb0
  have H0 := Lib.hid hb0
  clear hb0
  go_enter Tryd.func61, Tryd.ntmps61
  go_upto_region 1 with (fail)
  refine abs_world (fun W => Below w.heap.size w W ∧ W.heap[w.heap.size]? = some (.cells (winC x) 68 (0, 0))) ⟨(Below.refl _ _).alloc (Nat.le_refl _) _, heap_alloc_new _ _⟩ ?_
  rintro W ⟨hb, h1⟩
  replace H0 := Lib.hid (below_row hb H0.out)
  have H1 := Lib.hid h1
  clear h1
  go_wp2_with (first | (refine wpList_load_part rfl 33 _ rfl gb 0 3 rfl 33 (roomC wd hg sv) (0, 0) _ H0.out Tryd.underlying33 rfl info_room (room_fits _ _ _) _ (room_all _ _ _) ?_) | (refine wpList_load_part rfl 68 _ rfl w.heap.size 0 3 rfl 68 (winC x) (0, 0) _ H1.out Tryd.underlying68 rfl info_win (win_fits _) _ (win_all _) ?_) | (go_at_call 62; refine (fits_any wd hg sv x _).mono ?_; rintro e W1 ⟨rfl, hb1⟩))
  go_ret
  exact ⟨rfl, hb.trans (hb1.mono hb.size)⟩

/-- What looking for a window that does not fit finds. -/
def Found (wd hg : Int) (ws : List Wn) (w : World) (e : Ending) (w' : World) : Prop := ∃ r : Int, e = .returned (.int .i64 r) ∧ decide (0 ≤ r) = !ws.all (fitB wd hg) ∧ Below w.heap.size w w'
set_option maxRecDepth 100000 in
set_option maxHeartbeats 1000000 in
theorem indexFn_any (wd hg : Int) (sv : Value) (ws : List Wn) (gb : Nat) (w : World) (hb0 : w.heap[gb]? = some (.cells (roomC wd hg sv) 33 (0, 0))) (hws : WinsAt w sv ws) :
    Calls Tryd.prog 76 #[sv, .func (.func 61) #[] #[.pointer (some ⟨gb, 0, none⟩)]] w fun e w' => Found wd hg ws w e w' := by
  have hws' := hws
  obtain ⟨a, cap, rfl, hl1, hl2, _⟩ := hws'
  have HW := Lib.hid hws
  have H0 := Lib.hid hb0
  clear hws hb0
  unfold maxLen at hl2
  generalize hn : ws.length = n at *
  go_enter Tryd.func76, Tryd.ntmps76
  go_wp2
  go_loopw [8] (fun i wr => ∃ k : Nat, k ≤ n ∧ i = .int .i64 k ∧ Below w.heap.size w wr ∧ (ws.take k).all (fitB wd hg) = true) (fun i _ => n - (intOf i).toNat)
  case atStart => exact ⟨0, Nat.zero_le _, rfl, Below.refl _ _, rfl⟩
  case round =>
    obtain ⟨k, hk, rfl, hb, hall⟩ := hrel
    have HA := Lib.hid hall
    clear hall
    by_cases hlt : k < n
    · have hx : ws[k]? = some ws[k] := List.getElem?_eq_getElem (by omega)
      obtain ⟨g, o, rfl, hc⟩ := win_at (wins_below HW.out hb) hx
      have HC := Lib.hid hc
      have hts : ws.take (k + 1) = ws.take k ++ [ws[k]] := by rw [List.take_succ_eq_append_getElem (by omega)]
      have HT := Lib.hid hts
      have hdx := HW.out
      generalize ws[k] = x at *
      have HD : Hid (ws[k]? = some x) := Lib.hid hx
      replace H0 := Lib.hid (below_row hb H0.out)
      have z1 : (k : Int) < (n : Int) := by omega
      have z2 : (0 : Int) ≤ (k : Int) := by omega
      clear hc hts hx hdx
      cases hf : fitB wd hg x with
      | true =>
        have hnf : (!fitB wd hg x) = false := by rw [hf]; rfl
        go_wp2_with (first | (refine wpList_load_cells rfl 68 _ rfl g (o + k * 3) 3 rfl _ Tryd.underlying68 rfl info_win (winC x) rfl HC.out ?_) | (go_at_call 61; refine (validFn_any wd hg _ x gb _ H0.out).mono ?_; rw [hnf]; rintro e W1 ⟨rfl, hb1⟩))
        go_roundw
        case rel => exact ⟨k + 1, by omega, by go_num, hb.trans (hb1.mono hb.size), by rw [HT.out, List.all_append, HA.out]; simp [hf]⟩
        case measure => simp [intOf]; omega
      | false =>
        have hnf : (!fitB wd hg x) = true := by rw [hf]; rfl
        go_wp2_with (first | (refine wpList_load_cells rfl 68 _ rfl g (o + k * 3) 3 rfl _ Tryd.underlying68 rfl info_win (winC x) rfl HC.out ?_) | (go_at_call 61; refine (validFn_any wd hg _ x gb _ H0.out).mono ?_; rw [hnf]; rintro e W1 ⟨rfl, hb1⟩))
        go_ret
        refine ⟨k, rfl, ?_, hb.trans (hb1.mono hb.size)⟩
        have hmem := List.mem_of_getElem? HD.out
        have hall : ws.all (fitB wd hg) = false := by
          rw [Bool.eq_false_iff]
          intro ha
          have := List.all_eq_true.1 ha x hmem
          rw [hf] at this; cases this
        rw [hall]; simp
    · obtain rfl : k = n := by omega
      go_wp2
      go_ret
      refine ⟨-1, rfl, ?_, hb⟩
      have hall := HA.out
      rw [List.take_of_length_le (by omega)] at hall
      rw [hall]; rfl

set_option maxRecDepth 100000 in
set_option maxHeartbeats 1000000 in
theorem containsFn_any (wd hg : Int) (sv : Value) (ws : List Wn) (gb : Nat) (w : World) (hb0 : w.heap[gb]? = some (.cells (roomC wd hg sv) 33 (0, 0))) (hws : WinsAt w sv ws) :
    Calls Tryd.prog 60 #[sv, .func (.func 61) #[] #[.pointer (some ⟨gb, 0, none⟩)]] w fun e w' => e = .returned (.bool (!ws.all (fitB wd hg))) ∧ Below w.heap.size w w' := by
  have HC := indexFn_any wd hg sv ws gb w hb0 hws
  clear hb0 hws
  go_enter Tryd.func60, Tryd.ntmps60
  go_wp2_with (go_at_call 76; refine HC.mono ?_; rintro e W1 ⟨r, rfl, hd, hb1⟩)
  go_ret
  first | exact ⟨ret_boolR hd, hb1⟩ | exact ⟨rfl, hb1⟩

theorem okRm_len {wd hg : Int} {ws : List Wn} (h0 : 1 ≤ wd ∧ wd ≤ 10) (h1 : 1 ≤ hg ∧ hg ≤ 10) (h2 : ws.length ≤ 12) : okRm wd hg ws = ws.all (fitB wd hg) := by
  simp [okRm, inI, h0, h1, h2]
theorem okRm_bad {wd hg : Int} {ws : List Wn} (h : ¬ ((1 ≤ wd ∧ wd ≤ 10) ∧ (1 ≤ hg ∧ hg ≤ 10) ∧ ws.length ≤ 12)) : okRm wd hg ws = false := by
  rw [Bool.eq_false_iff]
  intro k
  have r := okRm_get k
  exact h ⟨⟨r.w0, r.w1⟩, ⟨r.h0, r.h1⟩, r.len⟩

set_option maxRecDepth 100000 in
set_option maxHeartbeats 1000000 in
theorem ValidRoom_any (wd hg : Int) (sv : Value) (ws : List Wn) (w : World) (hws : WinsAt w sv ws) :
    Calls Tryd.prog 36 #[.agg (roomC wd hg sv)] w fun e w' => e = .returned (.bool (okRm wd hg ws)) ∧ Below w.heap.size w w' := by
  have HW := Lib.hid hws
  obtain ⟨a, cap, rfl, hl1, hl2, _⟩ := hws
  unfold maxLen at hl2
  generalize hn : ws.length = n at *
  have HN := Lib.hid hn
  clear hn
  by_cases hw : 1 ≤ wd ∧ wd ≤ 10
  · by_cases hh : 1 ≤ hg ∧ hg ≤ 10
    · by_cases hn : n ≤ 12
      · have e := okRm_len (ws := ws) hw hh (by rw [HN.out]; exact hn)
        rw [e]
        obtain ⟨w0, w1⟩ := hw
        obtain ⟨q0, q1⟩ := hh
        have z : (n : Int) ≤ 12 := by omega
        clear e
        go_enter Tryd.func36, Tryd.ntmps36
        go_upto_region 1 with (fail)
        refine abs_world (fun W => Below w.heap.size w W ∧ W.heap[w.heap.size]? = some (.cells (roomC wd hg (.slice a n cap)) 33 (0, 0))) ⟨(Below.refl _ _).alloc (Nat.le_refl _) _, heap_alloc_new _ _⟩ ?_
        rintro W ⟨hb, h0⟩
        have H0 := Lib.hid h0
        obtain ⟨k0, k1, k2⟩ := room_cells h0
        replace HW := Lib.hid (wins_below HW.out hb)
        clear h0
        have HC := Lib.hid (containsFn_any wd hg _ ws w.heap.size W H0.out HW.out)
        go_wp2_with (go_at_call 60; refine HC.out.mono ?_; rintro e W1 ⟨rfl, hb1⟩)
        go_ret
        exact ⟨ret_boolR (by cases ws.all (fitB wd hg) <;> rfl), hb.trans (hb1.mono hb.size)⟩
      · rw [okRm_bad (by rw [HN.out]; omega)]
        obtain ⟨w0, w1⟩ := hw
        obtain ⟨q0, q1⟩ := hh
        have z : (12 : Int) < (n : Int) := by omega
        go_enter Tryd.func36, Tryd.ntmps36
        go_upto_region 1 with (fail)
        refine abs_world (fun W => Below w.heap.size w W ∧ W.heap[w.heap.size]? = some (.cells (roomC wd hg (.slice a n cap)) 33 (0, 0))) ⟨(Below.refl _ _).alloc (Nat.le_refl _) _, heap_alloc_new _ _⟩ ?_
        rintro W ⟨hb, h0⟩
        have H0 := Lib.hid h0
        obtain ⟨k0, k1, k2⟩ := room_cells h0
        replace HW := Lib.hid (wins_below HW.out hb)
        clear h0
        go_wp2
        go_ret
        exact ⟨rfl, hb⟩
    · rw [okRm_bad (by omega)]
      obtain ⟨w0, w1⟩ := hw
      have hc : hg < 1 ∨ 10 < hg := by omega
      clear hh
      by_cases q : hg < 1
      · clear hc
        go_enter Tryd.func36, Tryd.ntmps36
        go_upto_region 1 with (fail)
        refine abs_world (fun W => Below w.heap.size w W ∧ W.heap[w.heap.size]? = some (.cells (roomC wd hg (.slice a n cap)) 33 (0, 0))) ⟨(Below.refl _ _).alloc (Nat.le_refl _) _, heap_alloc_new _ _⟩ ?_
        rintro W ⟨hb, h0⟩
        have H0 := Lib.hid h0
        obtain ⟨k0, k1, k2⟩ := room_cells h0
        replace HW := Lib.hid (wins_below HW.out hb)
        clear h0
        go_wp2
        go_ret
        exact ⟨rfl, hb⟩
      · have q1 : 1 ≤ hg := by omega
        have q2 : 10 < hg := by omega
        clear q hc
        go_enter Tryd.func36, Tryd.ntmps36
        go_upto_region 1 with (fail)
        refine abs_world (fun W => Below w.heap.size w W ∧ W.heap[w.heap.size]? = some (.cells (roomC wd hg (.slice a n cap)) 33 (0, 0))) ⟨(Below.refl _ _).alloc (Nat.le_refl _) _, heap_alloc_new _ _⟩ ?_
        rintro W ⟨hb, h0⟩
        have H0 := Lib.hid h0
        obtain ⟨k0, k1, k2⟩ := room_cells h0
        replace HW := Lib.hid (wins_below HW.out hb)
        clear h0
        go_wp2
        go_ret
        exact ⟨rfl, hb⟩
  · rw [okRm_bad (by omega)]
    have hc : wd < 1 ∨ 10 < wd := by omega
    clear hw
    by_cases q : wd < 1
    · clear hc
      go_enter Tryd.func36, Tryd.ntmps36
      go_upto_region 1 with (fail)
      refine abs_world (fun W => Below w.heap.size w W ∧ W.heap[w.heap.size]? = some (.cells (roomC wd hg (.slice a n cap)) 33 (0, 0))) ⟨(Below.refl _ _).alloc (Nat.le_refl _) _, heap_alloc_new _ _⟩ ?_
      rintro W ⟨hb, h0⟩
      have H0 := Lib.hid h0
      obtain ⟨k0, k1, k2⟩ := room_cells h0
      replace HW := Lib.hid (wins_below HW.out hb)
      clear h0
      go_wp2
      go_ret
      exact ⟨rfl, hb⟩
    · have q1 : 1 ≤ wd := by omega
      have q2 : 10 < wd := by omega
      clear q hc
      go_enter Tryd.func36, Tryd.ntmps36
      go_upto_region 1 with (fail)
      refine abs_world (fun W => Below w.heap.size w W ∧ W.heap[w.heap.size]? = some (.cells (roomC wd hg (.slice a n cap)) 33 (0, 0))) ⟨(Below.refl _ _).alloc (Nat.le_refl _) _, heap_alloc_new _ _⟩ ?_
      rintro W ⟨hb, h0⟩
      have H0 := Lib.hid h0
      obtain ⟨k0, k1, k2⟩ := room_cells h0
      replace HW := Lib.hid (wins_below HW.out hb)
      clear h0
      go_wp2
      go_ret
      exact ⟨rfl, hb⟩

end Go.Proofs.YtpcmcopfdghdgaaDoor

namespace Go.Proofs.YtpcmcopfdghdgaaDoor
open Go.RowKit

attribute [local go_sem] run_store_f

set_option maxHeartbeats 1000000 in
theorem l03Wall_any (a : Int) (w : World) : Calls Tryd.prog 73 #[.int .i64 a] w fun e w' => e = .returned (.bool (inI 0 3 a)) ∧ w = w' := by
  go_enter Tryd.func73, Tryd.ntmps73
  go_wp2_with (go_at_call 55; refine (l00In_ban _ _ _ _).mono ?_; rintro e w' ⟨rfl, rfl⟩)
  go_ret
  exact ⟨rfl, rfl⟩

set_option maxRecDepth 100000 in
set_option maxHeartbeats 1000000 in
theorem l03Window_any (wd hg : Int) (iw : I8 wd) (ih : I8 hg) (sv : Value) (x : Wn) (hx : WnWf x) (gb : Nat) (T : TypeId) (fr : Nat × Nat) (w : World) (hb0 : w.heap[gb]? = some (.cells (roomC wd hg sv) T fr)) :
    Calls Tryd.prog 56 #[.pointer (some ⟨gb, 0, none⟩), .agg (winC x)] w fun e w' => e = .returned (.bool (fitB wd hg x)) ∧ Below w.heap.size w w' := by
  obtain ⟨iw0, iw1⟩ := iw
  obtain ⟨ih0, ih1⟩ := ih
  obtain ⟨⟨x0, x1⟩, ⟨y0, y1⟩, _⟩ := hx
  have H0 := Lib.hid hb0
  clear hb0
  go_enter Tryd.func56, Tryd.ntmps56
  go_upto_region 1 with (fail)
  refine abs_world (fun W => Below w.heap.size w W ∧ W.heap[w.heap.size]? = some (.cells (winC x) 68 (0, 0))) ⟨(Below.refl _ _).alloc (Nat.le_refl _) _, heap_alloc_new _ _⟩ ?_
  rintro W ⟨hb, h1⟩
  replace H0 := Lib.hid (below_row hb H0.out)
  obtain ⟨k0, k1, k2⟩ := room_cells H0.out
  obtain ⟨p0, p1, p2⟩ := win_cells h1
  clear h1 H0
  by_cases hk : x.1 = 1 ∨ x.1 = 3
  · have el : lastW wd hg x.1 = hg := if_pos hk
    have ef : fitB wd hg x = (inI 0 3 x.1 && (inI 0 (hg - 1) x.2.1 && partB x.2.2)) := by rw [fitB, el]
    have EF := Lib.hid ef
    clear el ef
    by_cases h1 : x.1 = 1
    · have e1 : inI 0 3 x.1 = true := by rw [h1]; rfl
      have d1 : (x.1 == 1) = true := by rw [h1]; rfl
      have E1 := Lib.hid e1
      clear hk h1 e1
      go_wp2_with (first | (go_at_call 73; refine (l03Wall_any _ _).mono ?_; rw [E1.out]; rintro e w' ⟨rfl, rfl⟩) | (go_at_call 55; refine (l00In_ban _ _ _ _).mono ?_; rintro e w' ⟨rfl, rfl⟩) | (go_at_call 74; refine (l01Part_any _ _).mono ?_; rintro e w' ⟨rfl, rfl⟩))
      all_goals
        go_ret
        refine ⟨ret_boolR ?_, hb⟩
        rw [EF.out, E1.out]
        simp [*]
    · have h3 : x.1 = 3 := by omega
      have e1 : inI 0 3 x.1 = true := by rw [h3]; rfl
      have d1 : (x.1 == 1) = false := by rw [h3]; rfl
      have d3 : (x.1 == 3) = true := by rw [h3]; rfl
      have E1 := Lib.hid e1
      clear hk h1 h3 e1
      go_wp2_with (first | (go_at_call 73; refine (l03Wall_any _ _).mono ?_; rw [E1.out]; rintro e w' ⟨rfl, rfl⟩) | (go_at_call 55; refine (l00In_ban _ _ _ _).mono ?_; rintro e w' ⟨rfl, rfl⟩) | (go_at_call 74; refine (l01Part_any _ _).mono ?_; rintro e w' ⟨rfl, rfl⟩))
      all_goals
        go_ret
        refine ⟨ret_boolR ?_, hb⟩
        rw [EF.out, E1.out]
        simp [*]
  · have el : lastW wd hg x.1 = wd := if_neg hk
    have ef : fitB wd hg x = (inI 0 3 x.1 && (inI 0 (wd - 1) x.2.1 && partB x.2.2)) := by rw [fitB, el]
    have EF := Lib.hid ef
    have d1 : (x.1 == 1) = false := by simp; omega
    have d3 : (x.1 == 3) = false := by simp; omega
    clear el ef hk
    cases hw : inI 0 3 x.1
    all_goals
      have E1 := Lib.hid hw
      clear hw
      go_wp2_with (first | (go_at_call 73; refine (l03Wall_any _ _).mono ?_; rw [E1.out]; rintro e w' ⟨rfl, rfl⟩) | (go_at_call 55; refine (l00In_ban _ _ _ _).mono ?_; rintro e w' ⟨rfl, rfl⟩) | (go_at_call 74; refine (l01Part_any _ _).mono ?_; rintro e w' ⟨rfl, rfl⟩))
      all_goals
        go_ret
        refine ⟨ret_boolR ?_, hb⟩
        rw [EF.out, E1.out]
        simp [*]

end Go.Proofs.YtpcmcopfdghdgaaDoor

namespace Go.Proofs.YtpcmcopfdghdgaaDoor
open Go.RowKit

attribute [local go_sem] run_store_f

set_option maxRecDepth 100000 in
set_option maxHeartbeats 1000000 in
theorem l03Ok_any (wd hg : Int) (iw : I8 wd) (ih : I8 hg) (sv : Value) (ws : List Wn) (hwf : ∀ x ∈ ws, WnWf x) (gb : Nat) (T : TypeId) (fr : Nat × Nat) (w : World) (hb0 : w.heap[gb]? = some (.cells (roomC wd hg sv) T fr)) (hws : WinsAt w sv ws) :
    Calls Tryd.prog 26 #[.pointer (some ⟨gb, 0, none⟩)] w fun e w' => e = .returned (.bool (okRm wd hg ws)) ∧ Below w.heap.size w w' := by
  have HW := Lib.hid hws
  have HF := Lib.hid hwf
  obtain ⟨a, cap, rfl, hl1, hl2, _⟩ := hws
  unfold maxLen at hl2
  generalize hn : ws.length = n at *
  have HN := Lib.hid hn
  have H0 := Lib.hid hb0
  obtain ⟨k0, k1, k2⟩ := room_cells hb0
  have HIW := Lib.hid iw
  have HIH := Lib.hid ih
  obtain ⟨iw0, iw1⟩ := iw
  obtain ⟨ih0, ih1⟩ := ih
  clear hn hb0 hwf
  cases ew : inI 1 10 wd with
  | false =>
    have eo : okRm wd hg ws = false := by simp [okRm, ew]
    rw [eo]
    have EW := Lib.hid ew
    have EH := EW
    clear ew eo
    go_enter Tryd.func26, Tryd.ntmps26
    go_wp2_with (go_at_call 55; refine (l00In_ban _ _ _ _).mono ?_; (first | rw [EW.out] | rw [EH.out]); rintro e w' ⟨rfl, rfl⟩)
    go_ret
    exact ⟨rfl, Below.refl _ _⟩
  | true =>
    cases eh : inI 1 10 hg with
    | false =>
      have eo : okRm wd hg ws = false := by simp [okRm, eh]
      rw [eo]
      have EW := Lib.hid ew
      have EH := Lib.hid eh
      clear ew eh eo
      go_enter Tryd.func26, Tryd.ntmps26
      go_wp2_with (go_at_call 55; refine (l00In_ban _ _ _ _).mono ?_; (first | rw [EW.out] | rw [EH.out]); rintro e w' ⟨rfl, rfl⟩)
      go_ret
      exact ⟨rfl, Below.refl _ _⟩
    | true =>
      by_cases h12 : n ≤ 12
      · have eo : okRm wd hg ws = ws.all (fitB wd hg) := by
          have := HN.out
          simp [okRm, ew, eh]; omega
        rw [eo]
        have EW := Lib.hid ew
        have EH := Lib.hid eh
        have z12 : (n : Int) ≤ 12 := by omega
        clear ew eh eo
        go_enter Tryd.func26, Tryd.ntmps26
        go_wp2_with (go_at_call 55; refine (l00In_ban _ _ _ _).mono ?_; (first | rw [EW.out] | rw [EH.out]); rintro e w' ⟨rfl, rfl⟩)
        go_loopw [3] (fun i wr => ∃ k : Nat, k ≤ n ∧ i = .int .i64 k ∧ Below w.heap.size w wr ∧ (ws.take k).all (fitB wd hg) = true) (fun i _ => n - (intOf i).toNat)
        case atStart => exact ⟨0, Nat.zero_le _, rfl, Below.refl _ _, rfl⟩
        case round =>
          clear k0 k1 k2
          obtain ⟨k, hk, rfl, hb, hall⟩ := hrel
          have HA := Lib.hid hall
          replace H0 := Lib.hid (below_row hb H0.out)
          obtain ⟨k0, k1, k2⟩ := room_cells H0.out
          clear hall
          by_cases hlt : k < n
          · have hx : ws[k]? = some (ws[k]'(by rw [HN.out]; exact hlt)) := List.getElem?_eq_getElem _
            obtain ⟨g, o, rfl, hc⟩ := win_at (wins_below HW.out hb) hx
            have HC := Lib.hid hc
            have hts : ws.take (k + 1) = ws.take k ++ [ws[k]'(by rw [HN.out]; exact hlt)] := by rw [List.take_succ_eq_append_getElem]
            have HT := Lib.hid hts
            have hwx := HF.out _ (List.mem_of_getElem? hx)
            generalize (ws[k]'(by rw [HN.out]; exact hlt)) = x at *
            have HD := Lib.hid hx
            have HWx := Lib.hid hwx
            have z1 : (k : Int) < (n : Int) := by omega
            have z2 : (0 : Int) ≤ (k : Int) := by omega
            clear hc hts hx hwx
            cases hf : fitB wd hg x with
            | true =>
              have HFt := Lib.hid hf
              clear hf
              go_wp2_with (first | (refine wpList_load_cells rfl 68 _ rfl g (o + k * 3) 3 rfl _ Tryd.underlying68 rfl info_win (winC x) rfl HC.out ?_) | (go_at_call 56; refine (l03Window_any wd hg HIW.out HIH.out _ x HWx.out gb _ _ _ H0.out).mono ?_; rw [HFt.out]; rintro e W1 ⟨rfl, hb1⟩))
              go_roundw
              case rel => exact ⟨k + 1, by omega, by go_num, hb.trans (hb1.mono hb.size), by rw [HT.out, List.all_append, HA.out]; simp [HFt.out]⟩
              case measure => simp [intOf]; omega
            | false =>
              have HFt := Lib.hid hf
              clear hf
              go_wp2_with (first | (refine wpList_load_cells rfl 68 _ rfl g (o + k * 3) 3 rfl _ Tryd.underlying68 rfl info_win (winC x) rfl HC.out ?_) | (go_at_call 56; refine (l03Window_any wd hg HIW.out HIH.out _ x HWx.out gb _ _ _ H0.out).mono ?_; rw [HFt.out]; rintro e W1 ⟨rfl, hb1⟩))
              go_ret
              refine ⟨?_, hb.trans (hb1.mono hb.size)⟩
              have hall : ws.all (fitB wd hg) = false := by
                rw [Bool.eq_false_iff]
                intro ha
                have := List.all_eq_true.1 ha x (List.mem_of_getElem? HD.out)
                rw [HFt.out] at this; cases this
              rw [hall]; rfl
          · obtain rfl : k = n := by omega
            have hall := HA.out
            rw [List.take_of_length_le (by rw [HN.out]; exact Nat.le_refl _)] at hall
            have HL := Lib.hid hall
            clear hall
            go_wp2
            go_ret
            exact ⟨by rw [HL.out]; rfl, hb⟩
      · have eo : okRm wd hg ws = false := by
          have := HN.out
          simp [okRm, ew, eh]; intro h; omega
        rw [eo]
        have EW := Lib.hid ew
        have EH := Lib.hid eh
        have z12 : (12 : Int) < (n : Int) := by omega
        clear ew eh eo
        go_enter Tryd.func26, Tryd.ntmps26
        go_wp2_with (go_at_call 55; refine (l00In_ban _ _ _ _).mono ?_; (first | rw [EW.out] | rw [EH.out]); rintro e w' ⟨rfl, rfl⟩)
        go_ret
        exact ⟨rfl, Below.refl _ _⟩

end Go.Proofs.YtpcmcopfdghdgaaDoor

namespace Go.Proofs.YtpcmcopfdghdgaaDoor
open Go.RowKit

attribute [local go_sem] run_store_f

end Go.Proofs.YtpcmcopfdghdgaaDoor

namespace Go.Proofs.YtpcmcopfdghdgaaDoor
open Go Go.RowKit

theorem alloc_at (w : World) (o : Obj) (i : Nat) : (w.alloc o).heap[i]? = if i = w.heap.size then some o else w.heap[i]? := by
  show (w.heap.push o)[i]? = _
  exact Array.getElem?_push
theorem box2 (w : World) (a b : Obj) : ((w.alloc a).alloc b).heap[w.heap.size]? = some a ∧ ((w.alloc a).alloc b).heap[w.heap.size + 1]? = some b ∧ Below w.heap.size w ((w.alloc a).alloc b) := by
  refine ⟨?_, ?_, ((Below.refl _ _).alloc (Nat.le_refl _) _).alloc (by simp) _⟩
  all_goals simp only [alloc_at, World.size_alloc]
  · rw [if_neg (by omega), if_true]
  · rw [if_true]
theorem box3 (w : World) (a b c : Obj) : (((w.alloc a).alloc b).alloc c).heap[w.heap.size]? = some a ∧ (((w.alloc a).alloc b).alloc c).heap[w.heap.size + 1]? = some b ∧ (((w.alloc a).alloc b).alloc c).heap[w.heap.size + 1 + 1]? = some c ∧ Below w.heap.size w (((w.alloc a).alloc b).alloc c) := by
  refine ⟨?_, ?_, ?_, (((Below.refl _ _).alloc (Nat.le_refl _) _).alloc (by simp) _).alloc (by simp; omega) _⟩
  all_goals simp only [alloc_at, World.size_alloc]
  · rw [if_neg (by omega), if_neg (by omega), if_true]
  · rw [if_neg (by omega), if_true]
  · rw [if_true]
theorem box4 (w : World) (a b c d : Obj) : ((((w.alloc a).alloc b).alloc c).alloc d).heap[w.heap.size]? = some a ∧ ((((w.alloc a).alloc b).alloc c).alloc d).heap[w.heap.size + 1]? = some b ∧ ((((w.alloc a).alloc b).alloc c).alloc d).heap[w.heap.size + 1 + 1]? = some c ∧ ((((w.alloc a).alloc b).alloc c).alloc d).heap[w.heap.size + 1 + 1 + 1]? = some d ∧ Below w.heap.size w ((((w.alloc a).alloc b).alloc c).alloc d) := by
  refine ⟨?_, ?_, ?_, ?_, ((((Below.refl _ _).alloc (Nat.le_refl _) _).alloc (by simp) _).alloc (by simp; omega) _).alloc (by simp; omega) _⟩
  all_goals simp only [alloc_at, World.size_alloc]
  · rw [if_neg (by omega), if_neg (by omega), if_neg (by omega), if_true]
  · rw [if_neg (by omega), if_neg (by omega), if_true]
  · rw [if_neg (by omega), if_true]
  · rw [if_true]
theorem cell_belowB {W W' : World} (hb : Below W.heap.size W W') {a : Addr} {v : Value} (h : W.cell? a = some v) : W'.cell? a = some v :=
  (hb.cell (World.block_lt_of_cell? W a h)).trans h

theorem wpList_load_partG {P : Program} {ops : Array Oper} {rest : List Oper} {o : Oper} {a : Act} {w : World} {Q : Exit → Act → World → Prop} (ty : TypeId) (x : Operand) (ho : o.op = .load ty x)
    (g off n : Nat) (hx : a.eval x = .pointer (some ⟨g, off, none⟩)) (hw : Region.wanted o (yielded ops a.tmps) = true) (t : TypeId) (cs : Array Value) (fr : Nat × Nat) (d : TypeDesc) (hg : w.heap[g]? = some (.cells cs t fr))
    (hu : P.underlying ty = some d) (hd : (match d with | .struct _ | .array _ _ => true | _ => false) = true) (hi : (P.info? ty).map (·.size) = some n) (hn : off + n ≤ cs.size)
    (vs : Array Value) (hvs : cs.extract off (off + n) = vs) (h : wpList P ops Q rest (a.put o.dst (.agg vs)) w) : wpList P ops Q (o :: rest) a w := by
  subst hvs
  refine wpList_step fun K hK => ?_
  simp only [hw, if_true]
  unfold Oper.wp execOp
  simp only [ho, hx, Instr.loadAt, Instr.sureAddr, Sem.run_bind, Sem.run_pure, Result.andThen_ok, run_loadVar_part w g off n t ty cs fr d hg hu hd hi hn]
  exact hK _ _ h

end Go.Proofs.YtpcmcopfdghdgaaDoor

namespace Go.Proofs.YtpcmcopfdghdgaaDoor
open Go.ChangeShapes Go.WideShapes Go.ChangeAt Go.RowKit Go.Deep Go.Joins

attribute [local go_sem] run_store_f

theorem desk_fits (x y l : Int) : 0 + 3 ≤ (deskC x y l).size := Nat.le_refl _
theorem desk_fits2 (x y l : Int) : 0 + 2 ≤ (deskC x y l).size := by show 0 + 2 ≤ 3; decide
theorem desk_all (x y l : Int) : (deskC x y l).extract 0 (0 + 3) = deskC x y l := rfl
theorem desk_tile (x y l : Int) : (deskC x y l).extract 0 (0 + 2) = tileC x y := rfl
theorem desk_one (x y l : Int) : ∀ v ∈ deskC x y l, v.oneCell' = true := by
  intro v hv
  simp only [deskC, List.mem_toArray, List.mem_cons, List.not_mem_nil, or_false] at hv
  rcases hv with rfl | rfl | rfl <;> rfl
theorem desk_cells {x y l : Int} {W : World} {g : Nat} {T : TypeId} {fr : Nat × Nat} (h : W.heap[g]? = some (.cells (deskC x y l) T fr)) :
    W.cell? ⟨g, 0, none⟩ = some (.int .i8 x) ∧ W.cell? ⟨g, 1, none⟩ = some (.int .i8 y) ∧ W.cell? ⟨g, 2, none⟩ = some (.int .i8 l) :=
  ⟨by rw [cell_of_row W _ _ _ _ _ h]; rfl, by rw [cell_of_row W _ _ _ _ _ h]; rfl, by rw [cell_of_row W _ _ _ _ _ h]; rfl⟩

/-- Is a desk one of a room? -/
def isD (wd hg x y l : Int) : Bool := isT wd hg x y && inI 0 3 l

end Go.Proofs.YtpcmcopfdghdgaaDoor

namespace Go.Proofs.YtpcmcopfdghdgaaDoor
open Go.RowKit

attribute [local go_sem] run_store_f

/-- Does a tile lie ahead of one who looks from another tile to a wall? -/
def ahB (l fx fy tx ty : Int) : Bool := if l = 0 then decide (ty < fy) else if l = 1 then decide (fx < tx) else if l = 2 then decide (fy < ty) else decide (tx < fx)
/-- Does a window at a tile glare at a desk? -/
def glB (a1 a2 a3 wl p q : Int) : Bool := if p = a1 ∧ q = a2 then wl == a3 else ahB a3 a1 a2 p q
theorem ahB_self (l x y : Int) : ahB l x y x y = false := by
  unfold ahB
  split <;> (try split) <;> (try split) <;> simp
theorem glB_or (a1 a2 a3 wl p q : Int) : glB a1 a2 a3 wl p q = (ahB a3 a1 a2 p q || ((p == a1 && q == a2) && wl == a3)) := by
  unfold glB
  by_cases h : p = a1 ∧ q = a2
  · obtain ⟨rfl, rfl⟩ := h
    simp [ahB_self]
  · have e : (p == a1 && q == a2) = false := by
      rw [Bool.and_eq_false_iff]
      by_cases h1 : p = a1
      · exact .inr (by simpa using fun h2 => h ⟨h1, h2⟩)
      · exact .inl (by simpa using h1)
    rw [if_neg h, e]; simp

end Go.Proofs.YtpcmcopfdghdgaaDoor

namespace Go.Proofs.YtpcmcopfdghdgaaDoor
open Go.RowKit

attribute [local go_sem] run_store_f

def mirW (wd : Int) (x : Wn) : Wn := if x.1 = 1 ∨ x.1 = 3 then (4 - x.1, x.2.1, x.2.2) else (x.1, wd - 1 - x.2.1, x.2.2)

theorem ta_rowR (v : Value) (w : World) : (Instr.typeAssert (.iface 129 v) 117 129 true).run Tryd.prog w = .ok (.tuple #[v, .bool true]) w := by kernel_rfl

theorem ta_colR (v : Value) (w : World) : (Instr.typeAssert (.iface 130 v) 117 129 true).run Tryd.prog w = .ok (.tuple #[.int .i8 0, .bool false]) w := by kernel_rfl

theorem ta_colC (v : Value) (w : World) : (Instr.typeAssert (.iface 130 v) 117 130 true).run Tryd.prog w = .ok (.tuple #[v, .bool true]) w := by kernel_rfl

end Go.Proofs.YtpcmcopfdghdgaaDoor

namespace Go.Proofs.YtpcmcopfdghdgaaDoor
open Go.ChangeShapes Go.WideShapes Go.ChangeAt Go.RowKit Go.Deep Go.Joins

attribute [local go_sem] run_store_f

/-- Windows that lie at the head of a block of the call's own. -/
def OwnV (w : World) (b : Nat) (v : Value) (ws : List Wn) : Prop :=
  ∃ g cap cur, v = .slice (some ⟨g, 0, none⟩) ws.length cap ∧ b ≤ g ∧ w.heap[g]? = some (.cells cur 68 (0, 0)) ∧ ws.length ≤ cap ∧ cap ≤ maxLen ∧ ws.length * 3 ≤ cur.size ∧ ∀ k x, ws[k]? = some x → cur.extract (k * 3) (k * 3 + 3) = winC x

theorem ownV_below {w w' : World} {b B : Nat} {v : Value} {ws : List Wn} (h : OwnV w b v ws) (hb : Below w.heap.size w w') (hB : B ≤ b) : OwnV w' B v ws := by
  obtain ⟨g, cap, cur, h1, h2, h3, h4, h5, h6, h7⟩ := h
  exact ⟨g, cap, cur, h1, by omega, below_row hb h3, h4, h5, h6, h7⟩

theorem ownV_at {w : World} {b : Nat} {v : Value} {ws : List Wn} (h : OwnV w b v ws) : WinsAt w v ws := by
  obtain ⟨g, cap, cur, rfl, h2, h3, h4, h5, h6, h7⟩ := h
  refine ⟨_, _, rfl, h4, h5, fun k x hx => ⟨g, 0, rfl, ?_, ?_, ?_⟩⟩
  all_goals
    have hk : k < ws.length := (List.getElem?_eq_some_iff.1 hx).1
    have he := h7 k x hx
    rw [cell_of_row w _ _ _ _ _ h3]
  · have : (cur.extract (k * 3) (k * 3 + 3))[0]? = some (.int .i8 x.1) := by rw [he]; rfl
    rw [Array.getElem?_extract] at this
    split at this
    · simpa using this
    · cases this
  · have : (cur.extract (k * 3) (k * 3 + 3))[1]? = some (.int .i8 x.2.1) := by rw [he]; rfl
    rw [Array.getElem?_extract] at this
    split at this
    · simpa using this
    · cases this
  · have : (cur.extract (k * 3) (k * 3 + 3))[2]? = some (.float .f32 x.2.2) := by rw [he]; rfl
    rw [Array.getElem?_extract] at this
    split at this
    · simpa using this
    · cases this

theorem cur_one {ws : List Wn} {cur : Array Value} (hs : cur.size = ws.length * 3) (h : ∀ k x, ws[k]? = some x → cur.extract (k * 3) (k * 3 + 3) = winC x) : ∀ u ∈ cur.toList, u.oneCell' = true := by
  intro u hu
  obtain ⟨j, hj⟩ := List.mem_iff_getElem?.1 hu
  rw [Array.getElem?_toList] at hj
  have hjl := (Array.getElem?_eq_some_iff.1 hj).1
  have hk : j / 3 < ws.length := by omega
  have hx : ws[j / 3]? = some (ws[j / 3]'hk) := List.getElem?_eq_getElem _
  have he := h _ _ hx
  have hm : (cur.extract (j / 3 * 3) (j / 3 * 3 + 3))[j % 3]? = some u := by
    rw [Array.getElem?_extract, if_pos (by omega)]
    rw [show j / 3 * 3 + j % 3 = j from by omega]
    exact hj
  rw [he] at hm
  exact win_one _ u (Array.mem_of_getElem? hm)

theorem run_store_rowR {P : Program} (w : World) (g : Nat) (t : TypeId) (vs old : Array Value) (hg : w.heap[g]? = some (.cells old t (0, 0))) (hs : old.size = vs.size) (h1 : ∀ v ∈ vs, v.oneCell' = true) :
    (storeCells ⟨g, 0, none⟩ vs.toList).run P w = .ok () (w.setRow g vs) := by
  have hst := run_storeCells_at P g 0 t vs.toList 0 old w hg (by simp; omega) (fun v hv => h1 v (by simpa using hv))
  have hl := laid_allr old vs hs
  unfold laid at hl
  simp only [Nat.add_zero] at hst
  rw [hst]
  simp at hl ⊢
  rw [hl]

theorem infoW3 : (Tryd.prog.info? 68).map (fun i => (i.zero, i.size, i.bytes)) = some (some (.agg #[.int .i8 0, .int .i8 0, .float .f32 0]), 3, 8) := by kernel_rfl

set_option maxRecDepth 100000 in
set_option maxHeartbeats 4000000 in
theorem l03Own_any (wd hg : Int) (sv : Value) (ws : List Wn) (b gb : Nat) (w : World) (hws : OwnW w b sv ws) (hb0 : w.heap[gb]? = some (.cells (roomC wd hg sv) 33 (0, 0))) :
    Calls Tryd.prog 30 #[.pointer (some ⟨gb, 0, none⟩)] w fun e w' => (∃ v, e = .returned (.agg (roomC wd hg v)) ∧ OwnV w' w.heap.size v ws) ∧ Below w.heap.size w w' := by
  obtain ⟨i0, hi, hz0, hz1, hz2⟩ := info_parts infoW3
  obtain ⟨g, cur, rfl, hbg, hgr, hcs, hcl, hce⟩ := hws
  have HON := Lib.hid (cur_one hcs hce)
  have HCE := Lib.hid hce
  have hgbl := row_lt hb0
  have hgl := row_lt hgr
  have HB0 := Lib.hid hb0
  have HGR := Lib.hid hgr
  generalize hn : ws.length = n at *
  have HN := Lib.hid hn
  clear hce hb0 hgr hn
  go_enter Tryd.func30, Tryd.ntmps30
  go_upto_region 1 with (fail)
  refine abs_world (fun X => (∃ cs : Array Value, cs.size = 3 ∧ X.heap[w.heap.size]? = some (.cells cs 33 (0, 0))) ∧ X.heap[gb]? = some (.cells (roomC wd hg (.slice (some ⟨g, 0, none⟩) n n)) 33 (0, 0)) ∧ X.heap[g]? = some (.cells cur 68 (0, 0)) ∧ Below w.heap.size w X) ⟨⟨_, rfl, heap_alloc_new _ _⟩, below_row ((Below.refl w.heap.size _).alloc (Nat.le_refl _) _) HB0.out, below_row ((Below.refl w.heap.size _).alloc (Nat.le_refl _) _) HGR.out, (Below.refl _ _).alloc (Nat.le_refl _) _⟩ ?_
  rintro V ⟨h0, h1, h2, hb⟩
  have hsz := hb.size
  have hl0 := h0.elim fun _ h => row_lt h.2
  refine wp_region_held_drew (S := (fun X => (∃ cs : Array Value, cs.size = 3 ∧ X.heap[w.heap.size]? = some (.cells cs 33 (0, 0))) ∧ X.heap[gb]? = some (.cells (roomC wd hg (.slice (some ⟨g, 0, none⟩) n n)) 33 (0, 0)) ∧ X.heap[g]? = some (.cells cur 68 (0, 0)) ∧ Below w.heap.size w X)) (by kernel_rfl) ⟨h0, h1, h2, hb.drew⟩ (fun hHeld => ?_)
  refine take_op (i := 0) (d := 3) (v := ?_) rfl rfl (by kernel_rfl) (by kernel_rfl) (by kernel_rfl) (fun _ _ _ h => h) (Or.inl ⟨by rfl, ?hy0e30⟩) hHeld ?rest0e30
  case hy0e30 =>
    intro w' hS'
    go_simp
    try with_reducible rfl
  simp only [List.setIfInBounds_toArray, List.set_cons_zero, List.set_cons_succ]
  refine take_op (i := 1) (d := 4) (v := ?_) rfl rfl (by kernel_rfl) (by kernel_rfl) (by kernel_rfl) (fun _ _ _ h => h) (Or.inl ⟨by rfl, ?hy1e31⟩) hHeld ?rest1e31
  case hy1e31 =>
    intro w' hS'
    go_simp
    try with_reducible rfl
  simp only [List.setIfInBounds_toArray, List.set_cons_zero, List.set_cons_succ]
  refine take_op (i := 2) (d := 5) (v := ?_) rfl rfl (by kernel_rfl) (by kernel_rfl) (by kernel_rfl) (fun _ _ _ h => h) (Or.inl ⟨by rfl, ?hy2e32⟩) hHeld ?rest2e32
  case hy2e32 =>
    intro w' hS'
    go_simp
    try with_reducible rfl
  simp only [List.setIfInBounds_toArray, List.set_cons_zero, List.set_cons_succ]
  refine take_op (i := 3) (d := 6) (v := ?_) rfl rfl (by kernel_rfl) (by kernel_rfl) (by kernel_rfl) (fun _ _ _ h => h) (Or.inl ⟨by rfl, ?hy3e33⟩) hHeld ?rest3e33
  case hy3e33 =>
    intro w' hS'
    obtain ⟨k0, k1, k2⟩ := room_cells hS'.2.1
    go_simp
    try with_reducible rfl
  simp only [List.setIfInBounds_toArray, List.set_cons_zero, List.set_cons_succ]
  refine take_op (i := 4) (d := 7) (v := ?_) rfl rfl (by kernel_rfl) (by kernel_rfl) (by kernel_rfl) (fun _ _ _ h => h) (Or.inl ⟨by rfl, ?hy4e34⟩) hHeld ?rest4e34
  case hy4e34 =>
    intro w' hS'
    go_simp
    try with_reducible rfl
  simp only [List.setIfInBounds_toArray, List.set_cons_zero, List.set_cons_succ]
  refine take_op (i := 5) (d := 8) (v := ?_) rfl rfl (by kernel_rfl) (by kernel_rfl) (by kernel_rfl) (fun _ _ _ h => h) (Or.inl ⟨by rfl, ?hy5e35⟩) hHeld ?rest5e35
  case hy5e35 =>
    intro w' hS'
    go_simp
    try with_reducible rfl
  simp only [List.setIfInBounds_toArray, List.set_cons_zero, List.set_cons_succ]
  refine take_op (i := 6) (d := 9) (v := ?_) rfl rfl (by kernel_rfl) (by kernel_rfl) (by kernel_rfl) (fun _ _ _ h => h) (Or.inl ⟨by rfl, ?hy6e36⟩) hHeld ?rest6e36
  case hy6e36 =>
    intro w' hS'
    go_simp
    try with_reducible rfl
  simp only [List.setIfInBounds_toArray, List.set_cons_zero, List.set_cons_succ]
  refine take_op (i := 7) (d := 10) (v := ?_) rfl rfl (by kernel_rfl) (by kernel_rfl) (by kernel_rfl) (fun _ _ _ h => h) (Or.inl ⟨by rfl, ?hy7e37⟩) hHeld ?rest7e37
  case hy7e37 =>
    intro w' hS'
    obtain ⟨k0, k1, k2⟩ := room_cells hS'.2.1
    go_simp
    try with_reducible rfl
  simp only [List.setIfInBounds_toArray, List.set_cons_zero, List.set_cons_succ]
  refine take_op (i := 9) (d := 12) (v := ?_) rfl rfl (by kernel_rfl) (by kernel_rfl) (by kernel_rfl) (fun _ _ _ h => h) (Or.inl ⟨by rfl, ?hy9e38⟩) hHeld ?rest9e38
  case hy9e38 =>
    intro w' hS'
    go_simp
    try with_reducible rfl
  simp only [List.setIfInBounds_toArray, List.set_cons_zero, List.set_cons_succ]
  refine take_op (i := 10) (d := 13) (v := ?_) rfl rfl (by kernel_rfl) (by kernel_rfl) (by kernel_rfl) (fun _ _ _ h => h) (Or.inl ⟨by rfl, ?hy10e39⟩) hHeld ?rest10e39
  case hy10e39 =>
    intro w' hS'
    go_simp
    try with_reducible rfl
  simp only [List.setIfInBounds_toArray, List.set_cons_zero, List.set_cons_succ]
  refine take_op (i := 11) (d := 14) (v := ?_) rfl rfl (by kernel_rfl) (by kernel_rfl) (by kernel_rfl) (fun _ _ _ h => h) (Or.inl ⟨by rfl, ?hy11e40⟩) hHeld ?rest11e40
  case hy11e40 =>
    intro w' hS'
    go_simp
    try with_reducible rfl
  simp only [List.setIfInBounds_toArray, List.set_cons_zero, List.set_cons_succ]
  refine take_op (i := 12) (d := 15) (v := ?_) rfl rfl (by kernel_rfl) (by kernel_rfl) (by kernel_rfl) (fun _ _ _ h => h) (Or.inl ⟨by rfl, ?hy12e41⟩) hHeld ?rest12e41
  case hy12e41 =>
    intro w' hS'
    obtain ⟨k0, k1, k2⟩ := room_cells hS'.2.1
    go_simp
    try with_reducible rfl
  simp only [List.setIfInBounds_toArray, List.set_cons_zero, List.set_cons_succ]
  have hb1 := hHeld.2.2.2
  generalize V.drew = X0 at *
  have hszX := hb1.size
  have hl0X := hHeld.1.elim fun _ h => row_lt h.2
  have hgbX := row_lt hHeld.2.1
  have hgX := row_lt hHeld.2.2.1
  clear h0 h1 h2 hb hb1
  refine wpAnyH_ready (rs := [8]) (by kernel_rfl) (by simp) ?_
  refine AllReadyH.cons rfl (fun K hK => ?_) AllReadyH.nil
  go_simp
  have hA : Below X0.heap.size X0 (X0.alloc (.cells #[] 68)) := (Below.refl _ _).alloc (Nat.le_refl _) _
  have hrow0 : (X0.alloc (.cells #[] 68)).ownsRow (w.heap.size + 1) 68 3 (.slice (some ⟨X0.heap.size, 0, none⟩) 0 0) 0 [] := World.ownsRow_made _ _ _ (by omega) (Nat.zero_le _) rfl
  refine hK.out _ _ ⟨hHeld.1.elim fun c h => ⟨c, h.1, below_row hA h.2⟩, below_row hA hHeld.2.1, below_row hA hHeld.2.2.1, hHeld.2.2.2.trans (hA.mono hszX)⟩ (fun hHeld2 => ?_)
  clear hK K
  replace hHeld := hHeld2
  clear hHeld2 hA
  have hszA : (X0.alloc (.cells #[] 68)).heap.size = X0.heap.size + 1 := by simp
  generalize hXA : X0.alloc (.cells #[] 68) = XA at *
  clear hXA
  have hnews : ∀ j u, cur.toList[j]? = some u → XA.cell? ((⟨g, 0, none⟩ : Addr).add j) = some u := by
    intro j u hj
    have e : (⟨g, 0, none⟩ : Addr).add j = ⟨g, j, none⟩ := by simp [Addr.add]; exact fun h => h.symm
    rw [e, cell_of_row _ _ _ _ _ _ hHeld.2.2.1]
    simpa using hj
  refine wpAnyH_ready (rs := [13]) (by kernel_rfl) (by simp) ?_
  refine AllReadyH.cons rfl (fun K hK => ?_) AllReadyH.nil
  show Oper.wp _ _ _ _ _ _
  refine wp_append_own _ (.tmp 11) (.tmp 15) 31 rfl (w.heap.size + 1) 68 i0 (.agg #[.int .i8 0, .int .i8 0, .float .f32 0]) 3 8 Tryd.underlying31 hi hz0 hz1 hz2 rfl (by decide) (.slice (some ⟨X0.heap.size, 0, none⟩) 0 0) 0 [] rfl hrow0 ⟨g, 0, none⟩ n n cur.toList rfl (by simpa using hcs) hnews HON.out (by unfold maxLen; omega) (by omega) (by omega) ?_
  intro v' w1 hown hgrow hnil
  clear hnews hrow0
  rcases hown.2 with ⟨rfl, _⟩ | ⟨g', cap', cur', rfl, hg1, hg2, hg3, hg4, hg5, hg6⟩
  · have := (hnil.1 rfl).1
    cases this
  have hkeep : ∀ (k : Nat) (o : Obj), k ≠ X0.heap.size → XA.heap[k]? = some o → w1.heap[k]? = some o := fun k o hk ho => (hgrow.block k (Array.getElem?_eq_some_iff.1 ho).1 (by intro h; injection h with h; exact hk h)).trans ho
  have hbw1 : Below w.heap.size w w1 := hHeld.2.2.2.grown hgrow (by omega) (fun j e => by simp [Value.ownBlock] at e; omega)
  refine hK.out _ _ ⟨hHeld.1.elim fun c h => ⟨c, h.1, hkeep _ _ (by omega) h.2⟩, hkeep _ _ (by omega) hHeld.2.1, hkeep _ _ (by omega) hHeld.2.2.1, hbw1⟩ (fun hHeld2 => ?_)
  clear hK K
  replace hHeld := hHeld2
  clear hHeld2 hkeep hbw1 hgrow hnil hown
  have hbi := built_room wd hg (some ⟨g', 0, none⟩) n cap'
  have hzn : 0 + n = n := Nat.zero_add n
  simp only [Nat.zero_add] at hg3 hg4 hg5 hg6
  refine take_op (i := 14) (d := 17) (v := .agg (roomC wd hg (.slice (some ⟨g', 0, none⟩) n cap'))) rfl rfl (by kernel_rfl) (by kernel_rfl) (by kernel_rfl) (fun _ _ _ h => h) (Or.inl ⟨by rfl, ?hy14e42⟩) hHeld ?rest14e42
  case hy14e42 =>
    intro w' hS'
    go_simp
    try rfl
  try dsimp only [Act.put]
  obtain ⟨cz, hcz, hrz⟩ := hHeld.1
  have HR0 := Lib.hid hrz
  have HG2 := Lib.hid hg2
  have hst := run_store_rowR (P := Tryd.prog) _ w.heap.size 33 (roomC wd hg (.slice (some ⟨g', 0, none⟩) n cap')) _ HR0.out hcz (room_oneS _ _ _ _ _)
  refine wpAnyH_ready (rs := [15]) (by kernel_rfl) (by simp) ?_
  refine AllReadyH.cons rfl (fun K hK => ?_) AllReadyH.nil
  go_simp
  refine hK.out _ _ ⟨⟨roomC wd hg (.slice (some ⟨g', 0, none⟩) n cap'), rfl, setRow_heap _ _ _ _ _ _ HR0.out⟩, (setRow_other _ _ _ _ (by omega)).trans hHeld.2.1, (setRow_other _ _ _ _ (by omega)).trans hHeld.2.2.1, below_setRow hHeld.2.2.2 (Nat.le_refl _) _⟩ (fun hHeld2 => ?_)
  clear hK K hst
  refine wpAnyH_done (by kernel_rfl) ?_ _
  have HZ2 := Lib.hid (setRow_heap _ _ _ (roomC wd hg (.slice (some ⟨g', 0, none⟩) n cap')) _ _ HR0.out)
  have hgl' := row_lt hg2
  have hcut : ∀ k x, ws[k]? = some x → cur'.extract (k * 3) (k * 3 + 3) = winC x := by
    intro k x hx
    have hk : k < n := by rw [← HN.out]; exact (List.getElem?_eq_some_iff.1 hx).1
    rw [← HCE.out k x hx]
    have e : cur'.toList.take (n * 3) = cur.toList := by simpa using hg6
    apply Array.ext'
    simp only [Array.toList_extract, List.extract_eq_take_drop, ← e, List.drop_take, List.take_take]
    congr 1
    omega
  have HOV : Hid (OwnV _ w.heap.size (.slice (some ⟨g', 0, none⟩) n cap') ws) := Lib.hid ⟨g', cap', cur', by rw [HN.out], by omega, (setRow_other _ w.heap.size g' (roomC wd hg (.slice (some ⟨g', 0, none⟩) n cap')) (by omega)).trans hg2, by rw [HN.out]; omega, by omega, by rw [HN.out]; omega, hcut⟩
  go_wp2
  exact bodyPost_ret (v := .agg (roomC wd hg (.slice (some ⟨g', 0, none⟩) n cap'))) (results_cell_row rfl _ _ _ _ _ _ _ rfl HZ2.out Tryd.underlying33 rfl info_room) rfl ⟨⟨_, rfl, HOV.out⟩, hHeld2.2.2.2⟩

end Go.Proofs.YtpcmcopfdghdgaaDoor

namespace Go.Proofs.YtpcmcopfdghdgaaDoor
open Go.ChangeShapes Go.WideShapes Go.ChangeAt Go.RowKit Go.Deep Go.Joins

theorem run_store_flR (P : Program) (w : World) (a : Addr) (k : FloatKind) (b : Nat) (m : Mode) : (store a (.float k b) m).run P w = stored P w a (.float k b) m := run_store P w a _ m rfl

attribute [local go_sem] run_store_f run_store_flR

theorem mark_num_natR : ∀ n : Nat, n < 601 → floatOfInt .f32 (n : Int) < 2139095040 := by decide +kernel

theorem mark_orderR (j : Int) (h0 : 0 ≤ j) (h1 : j ≤ 600) : FloatKind.f32.format.order (floatOfInt .f32 j) (floatOfInt .f32 j) = some .eq := by
  obtain ⟨n, rfl⟩ := Int.eq_ofNat_of_zero_le h0
  have h := mark_num_natR n (by omega)
  rw [order_num (.inl h) (.inl h)]
  simp

theorem cell_kR {W : World} {g k : Nat} {cur : Array Value} {T : TypeId} {x : Value} (hg : W.heap[g]? = some (.cells cur T (0, 0))) (hk : cur[k]? = some x) : W.cell? ⟨g, k, none⟩ = some x := by
  rw [cell_of_row W _ _ _ _ _ hg]; exact hk

theorem sgo {cur : Array Value} {i j : Nat} {v : Value} (h : i ≠ j) : (cur.setIfInBounds i v)[j]? = cur[j]? := by rw [Array.getElem?_setIfInBounds, if_neg h]

theorem sgs {cur : Array Value} {i : Nat} {v : Value} (h : i < cur.size) : (cur.setIfInBounds i v)[i]? = some v := by rw [Array.getElem?_setIfInBounds, if_pos rfl, if_pos h]

/-- Marks in the first windows of a row. -/
def Mk3 (cur : Array Value) (n : Nat) : Prop := ∀ j, j < n → cur[j * 3]? = some (.int .i8 (IntKind.i8.wrap (1 + 3 * (j : Int)))) ∧ cur[j * 3 + 1]? = some (.int .i8 (IntKind.i8.wrap (1 + 3 * (j : Int) + 1))) ∧ cur[j * 3 + 2]? = some (.float .f32 (floatOfInt .f32 (1 + 3 * (j : Int) + 1 + 1)))

/-- All rows but one are as they were. -/
def KeptBut (w wr : World) (v : Value) : Prop := ∀ j cs T fr, w.heap[j]? = some (.cells cs T fr) → Value.ownBlock v ≠ some j → wr.heap[j]? = some (.cells cs T fr)

theorem keptBut_refl (w : World) (v : Value) : KeptBut w w v := fun _ _ _ _ h _ => h

theorem keptBut_trans {w w1 w2 : World} {v : Value} (h1 : KeptBut w w1 v) (h2 : KeptBut w1 w2 v) : KeptBut w w2 v := fun j cs T fr h hn => h2 j cs T fr (h1 j cs T fr h hn) hn

theorem keptBut_below {w w1 : World} {v : Value} (h : Below w.heap.size w w1) : KeptBut w w1 v := fun _ _ _ _ hr _ => below_row h hr

theorem keptBut_set {w : World} {g i : Nat} {n c : Nat} (x : Value) : KeptBut w (w.setCell ⟨g, i, none⟩ x) (.slice (some ⟨g, 0, none⟩) n c) := fun j cs T fr h hn => by
  rw [heap_setCell_other _ _ _ _ (by intro e; exact hn (by rw [e]; rfl))]
  exact h

def MkW (w : World) (b g n cap : Nat) (wr : World) : Prop := Below b w wr ∧ KeptBut w wr (.slice (some ⟨g, 0, none⟩) n cap) ∧ ∃ cur : Array Value, wr.heap[g]? = some (.cells cur 68 (0, 0)) ∧ n * 3 ≤ cur.size ∧ Mk3 cur n

set_option maxRecDepth 100000 in
set_option maxHeartbeats 4000000 in
theorem markWinS_any (b g n cap : Nat) (hn : n ≤ 1048576) (cur0 : Array Value) (w : World) (hg : w.heap[g]? = some (.cells cur0 68 (0, 0))) (hs : n * 3 ≤ cur0.size) (hbg : b ≤ g) :
    Calls Tryd.prog 45 #[.slice (some ⟨g, 0, none⟩) n cap, .int .i64 1] w fun e w' => e = .returned (.int .i64 (1 + 3 * (n : Int))) ∧ MkW w b g n cap w' := by
  have HG0 := Lib.hid hg
  clear hg
  go_enter Tryd.func45, Tryd.ntmps45
  go_wp2
  go_loopw [1, 5] (fun q i wr => ∃ (k : Nat) (q' : Int), k ≤ n ∧ i = .int .i64 k ∧ q' = 1 + 3 * (k : Int) ∧ q = .int .i64 q' ∧ Below b w wr ∧ KeptBut w wr (.slice (some ⟨g, 0, none⟩) n cap) ∧ ∃ cur : Array Value, wr.heap[g]? = some (.cells cur 68 (0, 0)) ∧ n * 3 ≤ cur.size ∧ Mk3 cur k) (fun _ i _ => n - (intOf i).toNat)
  case atStart => exact ⟨0, 1, Nat.zero_le _, rfl, rfl, rfl, Below.refl _ _, keptBut_refl _ _, cur0, HG0.out, hs, fun j h => by omega⟩
  case round =>
    clear HG0 hs
    obtain ⟨k, q, hk, rfl, hq, rfl, hb, hot, cur, hg, hs, hp⟩ := hrel
    have Hp := Lib.hid hp
    have HG := Lib.hid hg
    have Hot := Lib.hid hot
    have HB := Lib.hid hb
    have HQ := Lib.hid hq
    by_cases hlt : k < n
    · have z0 : (0 : Int) ≤ (k : Int) := by omega
      have z1 : (k : Int) < (n : Int) := by omega
      have hks : k * 3 + 3 ≤ cur.size := by omega
      have hw1 : IntKind.i64.wrap (q + 1) = q + 1 := by rw [IntWalk.i64_in _ (by omega)]
      have hw2 : IntKind.i64.wrap (q + 1 + 1) = q + 1 + 1 := by rw [IntWalk.i64_in _ (by omega)]
      have hw3 : IntKind.i64.wrap (q + 1 + 1 + 1) = q + 1 + 1 + 1 := by rw [IntWalk.i64_in _ (by omega)]
      clear hp hg hot hb hq
      obtain ⟨hin, q1, q2⟩ : k * 3 < cur.size ∧ wr.cell? ⟨g, k * 3, none⟩ = some (cur[k * 3]'(by first | omega | (simp; omega))) ∧ wr.frozen? ⟨g, k * 3, none⟩ = false := ⟨by first | omega | (simp; omega), cell_kR HG.out (Array.getElem?_eq_getElem _), frozen_of_row wr g (k * 3) _ _ HG.out⟩
      clear hin
      go_upto_region 6 with (fail)
      refine abs_world (fun X => X.heap[g]? = some (.cells (cur.setIfInBounds (k * 3) (.int .i8 (IntKind.i8.wrap q))) 68 (0, 0)) ∧ KeptBut w X (.slice (some ⟨g, 0, none⟩) n cap) ∧ Below b w X) ⟨heap_setCell_same _ _ _ _ _ _ HG.out, keptBut_trans Hot.out (keptBut_set _), HB.out.setCell (p := ⟨g, k * 3, none⟩) hbg _⟩ ?_
      clear HG Hot HB q1 q2
      rintro X1 ⟨hgx, hotx, hbx⟩
      have HG := Lib.hid hgx
      have Hot := Lib.hid hotx
      have HB := Lib.hid hbx
      clear hgx hotx hbx
      obtain ⟨hin, q1, q2⟩ : k * 3 + 1 < (cur.setIfInBounds (k * 3) (.int .i8 (IntKind.i8.wrap q))).size ∧ X1.cell? ⟨g, k * 3 + 1, none⟩ = some ((cur.setIfInBounds (k * 3) (.int .i8 (IntKind.i8.wrap q)))[k * 3 + 1]'(by first | omega | (simp; omega))) ∧ X1.frozen? ⟨g, k * 3 + 1, none⟩ = false := ⟨by first | omega | (simp; omega), cell_kR HG.out (Array.getElem?_eq_getElem _), frozen_of_row X1 g (k * 3 + 1) _ _ HG.out⟩
      clear hin
      go_upto_region 8 with (fail)
      refine abs_world (fun X => X.heap[g]? = some (.cells ((cur.setIfInBounds (k * 3) (.int .i8 (IntKind.i8.wrap q))).setIfInBounds (k * 3 + 1) (.int .i8 (IntKind.i8.wrap (q + 1)))) 68 (0, 0)) ∧ KeptBut w X (.slice (some ⟨g, 0, none⟩) n cap) ∧ Below b w X) ⟨heap_setCell_same _ _ _ _ _ _ HG.out, keptBut_trans Hot.out (keptBut_set _), HB.out.setCell (p := ⟨g, k * 3 + 1, none⟩) hbg _⟩ ?_
      clear HG Hot HB q1 q2
      rintro X2 ⟨hgx, hotx, hbx⟩
      have HG := Lib.hid hgx
      have Hot := Lib.hid hotx
      have HB := Lib.hid hbx
      clear hgx hotx hbx
      obtain ⟨hin, q1, q2⟩ : k * 3 + 2 < ((cur.setIfInBounds (k * 3) (.int .i8 (IntKind.i8.wrap q))).setIfInBounds (k * 3 + 1) (.int .i8 (IntKind.i8.wrap (q + 1)))).size ∧ X2.cell? ⟨g, k * 3 + 2, none⟩ = some (((cur.setIfInBounds (k * 3) (.int .i8 (IntKind.i8.wrap q))).setIfInBounds (k * 3 + 1) (.int .i8 (IntKind.i8.wrap (q + 1))))[k * 3 + 2]'(by first | omega | (simp; omega))) ∧ X2.frozen? ⟨g, k * 3 + 2, none⟩ = false := ⟨by first | omega | (simp; omega), cell_kR HG.out (Array.getElem?_eq_getElem _), frozen_of_row X2 g (k * 3 + 2) _ _ HG.out⟩
      clear hin
      go_upto_region 9 with (fail)
      refine abs_world (fun X => X.heap[g]? = some (.cells (((cur.setIfInBounds (k * 3) (.int .i8 (IntKind.i8.wrap q))).setIfInBounds (k * 3 + 1) (.int .i8 (IntKind.i8.wrap (q + 1)))).setIfInBounds (k * 3 + 2) (.float .f32 (floatOfInt .f32 (q + 1 + 1)))) 68 (0, 0)) ∧ KeptBut w X (.slice (some ⟨g, 0, none⟩) n cap) ∧ Below b w X) ⟨heap_setCell_same _ _ _ _ _ _ HG.out, keptBut_trans Hot.out (keptBut_set _), HB.out.setCell (p := ⟨g, k * 3 + 2, none⟩) hbg _⟩ ?_
      clear HG Hot HB q1 q2
      rintro X3 ⟨hgx, hotx, hbx⟩
      have HG := Lib.hid hgx
      have Hot := Lib.hid hotx
      have HB := Lib.hid hbx
      clear hgx hotx hbx
      go_wp2
      go_roundw
      case rel =>
        have hq := HQ.out
        refine ⟨k + 1, q + 1 + 1 + 1, by omega, by go_num, by omega, by first | trivial | rfl, HB.out, Hot.out, _, HG.out, by simp; omega, fun j hj => ?_⟩
        by_cases e : j = k
        · subst e
          rw [← hq]
          refine ⟨?_, ?_, ?_⟩
          · rw [sgo (by omega), sgo (by omega), sgs (by omega)]
          · rw [sgo (by omega), sgs (by simp; omega)]
          · rw [sgs (by simp; omega)]
        · obtain ⟨a1, a2, a3⟩ := Hp.out j (by omega)
          refine ⟨?_, ?_, ?_⟩
          · rw [sgo (by omega), sgo (by omega), sgo (by omega)]; exact a1
          · rw [sgo (by omega), sgo (by omega), sgo (by omega)]; exact a2
          · rw [sgo (by omega), sgo (by omega), sgo (by omega)]; exact a3
      case measure => simp [intOf]; omega
    · obtain rfl : k = n := by omega
      clear hp hg hot hb hq
      go_wp2
      go_ret
      exact ⟨by rw [HQ.out]; rfl, HB.out, Hot.out, cur, HG.out, hs, Hp.out⟩

set_option maxRecDepth 100000 in
set_option maxHeartbeats 4000000 in
theorem markWinS_nil (w : World) : Calls Tryd.prog 45 #[.slice none 0 0, .int .i64 1] w fun e w' => e = .returned (.int .i64 1) ∧ w = w' := by
  go_enter Tryd.func45, Tryd.ntmps45
  go_wp2
  go_loopw [1, 5] (fun q i wr => q = .int .i64 1 ∧ i = .int .i64 0 ∧ wr = w) (fun _ _ _ => 0)
  case atStart => exact ⟨rfl, rfl, rfl⟩
  case round =>
    obtain ⟨rfl, rfl, rfl⟩ := hrel
    go_wp2
    go_ret
    exact ⟨rfl, rfl⟩

set_option maxRecDepth 100000 in
set_option maxHeartbeats 4000000 in
theorem heldWinS_nil (w : World) : Calls Tryd.prog 46 #[.slice none 0 0, .int .i64 1] w fun e w' => e = .returned (.int .i64 1) ∧ w = w' := by
  go_enter Tryd.func46, Tryd.ntmps46
  go_wp2
  go_loopw [1, 5] (fun q i wr => q = .int .i64 1 ∧ i = .int .i64 0 ∧ wr = w) (fun _ _ _ => 0)
  case atStart => exact ⟨rfl, rfl, rfl⟩
  case round =>
    obtain ⟨rfl, rfl, rfl⟩ := hrel
    go_wp2
    go_ret
    exact ⟨rfl, rfl⟩

set_option maxRecDepth 100000 in
set_option maxHeartbeats 4000000 in
theorem heldWinS_any (g n cap : Nat) (hn : n ≤ 100) (cur : Array Value) (w : World) (hg : w.heap[g]? = some (.cells cur 68 (0, 0))) (hm : Mk3 cur n) :
    Calls Tryd.prog 46 #[.slice (some ⟨g, 0, none⟩) n cap, .int .i64 1] w fun e w' => e = .returned (.int .i64 (1 + 3 * (n : Int))) ∧ Below w.heap.size w w' := by
  have HG := Lib.hid hg
  have HM := Lib.hid hm
  clear hg hm
  go_enter Tryd.func46, Tryd.ntmps46
  go_wp2
  go_loopw [1, 5] (fun q i wr => ∃ (k : Nat) (q' : Int), k ≤ n ∧ i = .int .i64 k ∧ q' = 1 + 3 * (k : Int) ∧ q = .int .i64 q' ∧ Below w.heap.size w wr) (fun _ i _ => n - (intOf i).toNat)
  case atStart => exact ⟨0, 1, Nat.zero_le _, rfl, rfl, rfl, Below.refl _ _⟩
  case round =>
    obtain ⟨k, q, hk, rfl, hq, rfl, hb⟩ := hrel
    by_cases hlt : k < n
    · have z0 : (0 : Int) ≤ (k : Int) := by omega
      have z1 : (k : Int) < (n : Int) := by omega
      have hw1 : IntKind.i64.wrap (q + 1) = q + 1 := by rw [IntWalk.i64_in _ (by omega)]
      have hw2 : IntKind.i64.wrap (q + 1 + 1) = q + 1 + 1 := by rw [IntWalk.i64_in _ (by omega)]
      have hw3 : IntKind.i64.wrap (q + 1 + 1 + 1) = q + 1 + 1 + 1 := by rw [IntWalk.i64_in _ (by omega)]
      obtain ⟨a1, a2, a3⟩ := HM.out k hlt
      rw [← hq] at a1 a2 a3
      have ho := mark_orderR (q + 1 + 1) (by omega) (by omega)
      have hgx := below_row hb HG.out
      have q1 := cell_kR hgx a1
      have q2 := cell_kR hgx a2
      have q3 := cell_kR hgx a3
      have HQ := Lib.hid hq
      have x1 : (IntKind.i8.wrap q != IntKind.i8.wrap q) = false := by simp
      have x2 : (IntKind.i8.wrap (q + 1) != IntKind.i8.wrap (q + 1)) = false := by simp
      clear hgx a1 a2 a3 hq
      go_wp2
      go_roundw
      case rel =>
        have hq := HQ.out
        exact ⟨k + 1, q + 1 + 1 + 1, by omega, by go_num, by omega, by first | trivial | rfl, hb⟩
      case measure => simp [intOf]; omega
    · obtain rfl : k = n := by omega
      have HQ := Lib.hid hq
      clear hq
      go_wp2
      go_ret
      exact ⟨by rw [HQ.out]; rfl, hb⟩

/-- Windows of the call's own, or none. -/
def OwnQ (w : World) (lo : Nat) (v : Value) (ws : List Wn) : Prop := (v = .slice none 0 0 ∧ ws = []) ∨ OwnV w lo v ws

/-- Marked windows, or none. -/
def MarkedQ (w : World) (v : Value) (n : Nat) : Prop := (v = .slice none 0 0 ∧ n = 0) ∨ ∃ g cap cur, v = .slice (some ⟨g, 0, none⟩) n cap ∧ w.heap[g]? = some (.cells cur 68 (0, 0)) ∧ Mk3 cur n

theorem ownQ_rng {w : World} {lo : Nat} {v : Value} {ws : List Wn} (h : OwnQ w lo v ws) : ∀ j, Value.ownBlock v = some j → lo ≤ j ∧ j < w.heap.size := by
  intro j hj
  rcases h with ⟨rfl, _⟩ | ⟨g, cap, cur, rfl, h2, h3, _⟩
  · cases hj
  · have : g = j := by simpa [Value.ownBlock] using hj
    subst this
    exact ⟨h2, row_lt h3⟩

theorem ownQ_at {w : World} {lo : Nat} {v : Value} {ws : List Wn} (h : OwnQ w lo v ws) : WinsAt w v ws := by
  rcases h with ⟨rfl, rfl⟩ | h
  · exact ⟨none, 0, rfl, Nat.le_refl _, by unfold maxLen; omega, fun i x hx => by simp at hx⟩
  · exact ownV_at h

theorem ownQ_below {w w' : World} {lo : Nat} {v : Value} {ws : List Wn} (h : OwnQ w lo v ws) (hb : Below w.heap.size w w') : OwnQ w' lo v ws := by
  rcases h with h | h
  · exact .inl h
  · exact .inr (ownV_below h hb (Nat.le_refl _))

theorem ownQ_keep {w w' : World} {lo : Nat} {v v' : Value} {ws : List Wn} (h : OwnQ w lo v ws) (hk : KeptBut w w' v') (hn : ∀ j, Value.ownBlock v = some j → Value.ownBlock v' ≠ some j) : OwnQ w' lo v ws := by
  rcases h with h | ⟨g, cap, cur, rfl, h2, h3, h4⟩
  · exact .inl h
  · exact .inr ⟨g, cap, cur, rfl, h2, hk g cur _ _ h3 (hn g rfl), h4⟩

theorem ownQ_ofW {w : World} {lo : Nat} {v : Value} {ws : List Wn} (h : OwnW w lo v ws) : OwnQ w lo v ws := by
  obtain ⟨g, cur, rfl, h2, h3, h4, h5, h6⟩ := h
  exact .inr ⟨g, ws.length, cur, rfl, h2, h3, Nat.le_refl _, by unfold maxLen; omega, by omega, h6⟩

theorem markedQ_keep {w w' : World} {v v' : Value} {n : Nat} (h : MarkedQ w v n) (hk : KeptBut w w' v') (hn : ∀ j, Value.ownBlock v = some j → Value.ownBlock v' ≠ some j) : MarkedQ w' v n := by
  rcases h with h | ⟨g, cap, cur, rfl, h3, h4⟩
  · exact .inl h
  · exact .inr ⟨g, cap, cur, rfl, hk g cur _ _ h3 (hn g rfl), h4⟩

theorem markedQ_below {w w' : World} {v : Value} {n : Nat} (h : MarkedQ w v n) (hb : Below w.heap.size w w') : MarkedQ w' v n := markedQ_keep (v' := .slice none 0 0) h (keptBut_below hb) (fun j _ h => by cases h)

set_option maxRecDepth 100000 in
set_option maxHeartbeats 4000000 in
theorem markRoomQ (wd hg : Int) (b : Nat) (v : Value) (ws : List Wn) (hlen : ws.length ≤ 1048576) (w : World) (h : OwnQ w b v ws) :
    Calls Tryd.prog 13 #[.agg (roomC wd hg v), .int .i64 1] w fun e w' => e = .returned (.int .i64 (1 + 3 * (ws.length : Int))) ∧ MarkedQ w' v ws.length ∧ KeptBut w w' v ∧ (b ≤ w.heap.size → Below b w w') := by
  rcases h with ⟨rfl, rfl⟩ | ⟨g, cap, cur, rfl, h2, h3, h4, h5, h6, h7⟩
  · go_enter Tryd.func13, Tryd.ntmps13
    go_upto_region 1 with (fail)
    refine abs_world (fun W => W.heap[w.heap.size]? = some (.cells (roomC wd hg (.slice none 0 0)) 33 (0, 0)) ∧ Below w.heap.size w W) ⟨heap_alloc_new _ _, (Below.refl _ _).alloc (Nat.le_refl _) _⟩ ?_
    rintro W ⟨h0, hb⟩
    obtain ⟨-, -, r2⟩ := room_cells h0
    clear h0
    go_wp2_with (go_at_call 45; refine (markWinS_nil _).mono ?_; rintro e w1 ⟨rfl, rfl⟩)
    go_ret
    exact ⟨rfl, .inl ⟨rfl, rfl⟩, keptBut_below hb, fun h => hb.mono h⟩
  · generalize ws.length = n at *
    have hgl := row_lt h3
    have HM := Lib.hid (fun W (h : W.heap[g]? = some (.cells cur 68 (0, 0))) => markWinS_any b g n cap hlen cur W h h6 h2)
    have HR := Lib.hid h3
    clear h3 h7
    go_enter Tryd.func13, Tryd.ntmps13
    go_upto_region 1 with (fail)
    refine abs_world (fun W => W.heap[w.heap.size]? = some (.cells (roomC wd hg (.slice (some ⟨g, 0, none⟩) n cap)) 33 (0, 0)) ∧ Below w.heap.size w W) ⟨heap_alloc_new _ _, (Below.refl _ _).alloc (Nat.le_refl _) _⟩ ?_
    rintro W ⟨h0, hb⟩
    obtain ⟨-, -, r2⟩ := room_cells h0
    have HMW := Lib.hid (HM.out W (below_row hb HR.out))
    clear h0 HM
    go_wp2_with (go_at_call 45; refine HMW.out.mono ?_; rintro e W1 ⟨rfl, hb1, hkb, cur', hg', hs', hm'⟩)
    go_ret
    exact ⟨rfl, .inr ⟨g, cap, cur', rfl, hg', hm'⟩, keptBut_trans (keptBut_below hb) hkb, fun h => (hb.mono h).trans hb1⟩

set_option maxRecDepth 100000 in
set_option maxHeartbeats 4000000 in
theorem heldRoomQ (wd hg : Int) (v : Value) (n : Nat) (hn : n ≤ 100) (w : World) (h : MarkedQ w v n) :
    Calls Tryd.prog 14 #[.agg (roomC wd hg v), .int .i64 1] w fun e w' => e = .returned (.int .i64 (1 + 3 * (n : Int))) ∧ Below w.heap.size w w' := by
  rcases h with ⟨rfl, rfl⟩ | ⟨g, cap, cur, rfl, h3, h4⟩
  · go_enter Tryd.func14, Tryd.ntmps14
    go_upto_region 1 with (fail)
    refine abs_world (fun W => W.heap[w.heap.size]? = some (.cells (roomC wd hg (.slice none 0 0)) 33 (0, 0)) ∧ Below w.heap.size w W) ⟨heap_alloc_new _ _, (Below.refl _ _).alloc (Nat.le_refl _) _⟩ ?_
    rintro W ⟨h0, hb⟩
    obtain ⟨-, -, r2⟩ := room_cells h0
    clear h0
    go_wp2_with (go_at_call 46; refine (heldWinS_nil _).mono ?_; rintro e w1 ⟨rfl, rfl⟩)
    go_ret
    exact ⟨rfl, hb⟩
  · have HM := Lib.hid (fun W (h : W.heap[g]? = some (.cells cur 68 (0, 0))) => heldWinS_any g n cap hn cur W h h4)
    have HR := Lib.hid h3
    have hz : ¬ (1 + 3 * (n : Int) < 0) := by omega
    clear h3 h4
    go_enter Tryd.func14, Tryd.ntmps14
    go_upto_region 1 with (fail)
    refine abs_world (fun W => W.heap[w.heap.size]? = some (.cells (roomC wd hg (.slice (some ⟨g, 0, none⟩) n cap)) 33 (0, 0)) ∧ Below w.heap.size w W) ⟨heap_alloc_new _ _, (Below.refl _ _).alloc (Nat.le_refl _) _⟩ ?_
    rintro W ⟨h0, hb⟩
    obtain ⟨-, -, r2⟩ := room_cells h0
    have HMW := Lib.hid (HM.out W (below_row hb HR.out))
    clear h0 HM
    go_wp2_with (go_at_call 46; refine HMW.out.mono ?_; rintro e W1 ⟨rfl, hb1⟩)
    go_ret
    exact ⟨rfl, hb.trans (hb1.mono hb.size)⟩

end Go.Proofs.YtpcmcopfdghdgaaDoor

namespace Go.Proofs.YtpcmcopfdghdgaaDoor
open Go.ChangeShapes Go.WideShapes Go.ChangeAt Go.RowKit

theorem laidMet_skip {P : Program} {x y : String × DataW Unit} {r : List (String × DataW Unit)} {w : World} (h : laidMet P (x :: y :: r) w) : laidMet P (x :: r) w := by
  obtain ⟨ps, hv, hnd, hrows⟩ := h
  obtain ⟨n, d⟩ := x
  obtain ⟨m, e⟩ := y
  obtain ⟨g, t, cs, fuel, p, q, h1, h2, h3, h4, hq, rfl⟩ := hv
  obtain ⟨g', t', cs', fuel', p', q', _, _, _, _, hq', rfl⟩ := hq
  refine ⟨MemPlace.row ⟨g, 0, none⟩ cs.size ++ p ++ q', ⟨g, t, cs, fuel, p, q', h1, h2, h3, h4, hq', rfl⟩, ?_, fun b off hm => hrows b off ?_⟩
  · exact hnd.sublist (List.Sublist.append (List.Sublist.refl _) (List.sublist_append_right _ _))
  · rcases List.mem_append.1 hm with hm | hm
    · exact List.mem_append_left _ hm
    · exact List.mem_append_right _ (List.mem_append_right _ hm)

/-- The variables that the rows list, and what they hold. -/
def lst : List (String × DataW Unit) := [("loop.example/g01367/impl.errInvalid", Rows.laid_loop_example_g01367_impl_errInvalid), ("loop.example/g01367/impl.errRange", Rows.laid_loop_example_g01367_impl_errRange), ("loop.example/g01367/impl.errLimit", Rows.laid_loop_example_g01367_impl_errLimit), ("loop.example/g01367/impl.errNotFound", Rows.laid_loop_example_g01367_impl_errNotFound)]

theorem star_err : ("*" ++ "errors.errorString") = "*errors.errorString" := by decide
theorem row_err (u : TypeId) (h : Tryd.prog.typeName? 3 u = some "*errors.errorString") : u = 145 :=
  typeName_ptr_named (nm := "errors.errorString") (by rw [star_err]; kernel_rfl) (by kernel_rfl) (by decide) u (by rw [star_err]; exact h)
theorem g_inv : Tryd.prog.globalNamed "loop.example/g01367/impl.errInvalid" = some 0 := by kernel_rfl
theorem g_ran : Tryd.prog.globalNamed "loop.example/g01367/impl.errRange" = some 1 := by kernel_rfl
theorem g_lim : Tryd.prog.globalNamed "loop.example/g01367/impl.errLimit" = some 2 := by kernel_rfl
theorem g_not : Tryd.prog.globalNamed "loop.example/g01367/impl.errNotFound" = some 3 := by kernel_rfl
theorem gt_inv : (Tryd.prog.globals[0]?).map (·.type) = some 72 := by kernel_rfl
theorem gt_ran : (Tryd.prog.globals[1]?).map (·.type) = some 72 := by kernel_rfl
theorem gt_lim : (Tryd.prog.globals[2]?).map (·.type) = some 72 := by kernel_rfl
theorem gt_not : (Tryd.prog.globals[3]?).map (·.type) = some 72 := by kernel_rfl

/-- A sentinel's value. -/
def errV (a : Addr) : Value := .iface 145 (.pointer (some a))
/-- A place whose block is a row of cells that is not marked. -/
def Plain0 (W : World) (a : Addr) : Prop := ∃ c t, W.heap[a.block]? = some (.cells c t (0, 0))

/-- The four sentinels, each at a place of its own. -/
structure ErrsAt (W : World) (a0 a1 a2 a3 : Addr) : Prop where
  v0 : W.cell? ⟨0, 0, none⟩ = some (errV a0)
  v1 : W.cell? ⟨1, 0, none⟩ = some (errV a1)
  v2 : W.cell? ⟨2, 0, none⟩ = some (errV a2)
  v3 : W.cell? ⟨3, 0, none⟩ = some (errV a3)
  b0 : Plain0 W a0
  b1 : Plain0 W a1
  b2 : Plain0 W a2
  b3 : Plain0 W a3
  n01 : a0 ≠ a1
  n02 : a0 ≠ a2
  n03 : a0 ≠ a3
  n12 : a1 ≠ a2
  n13 : a1 ≠ a3
  n23 : a2 ≠ a3

theorem plain0_below {W W' : World} {a : Addr} (hb : Below W.heap.size W W') (h : Plain0 W a) : Plain0 W' a := by
  obtain ⟨c, t, h⟩ := h
  exact ⟨c, t, (hb.block _ (Array.getElem?_eq_some_iff.1 h).1).trans h⟩
theorem errs_below {W W' : World} {a0 a1 a2 a3 : Addr} (h : ErrsAt W a0 a1 a2 a3) (hb : Below W.heap.size W W') : ErrsAt W' a0 a1 a2 a3 :=
  have cb : ∀ {a : Addr} {v : Value}, W.cell? a = some v → W'.cell? a = some v := fun {a _} h => (hb.cell (World.block_lt_of_cell? W a h)).trans h
  ⟨cb h.v0, cb h.v1, cb h.v2, cb h.v3, plain0_below hb h.b0, plain0_below hb h.b1, plain0_below hb h.b2, plain0_below hb h.b3, h.n01, h.n02, h.n03, h.n12, h.n13, h.n23⟩

theorem two_of {n0 n1 : String} {t0 t1 : List UInt8} {r : List (String × DataW Unit)} {W : World} {g0 g1 : Nat}
    (h : laidMet Tryd.prog ((n0, .iface "*errors.errorString" (.ptr (.agg [.lit (.string t0)]))) :: (n1, .iface "*errors.errorString" (.ptr (.agg [.lit (.string t1)]))) :: r) W)
    (hg0 : Tryd.prog.globalNamed n0 = some g0) (ht0 : (Tryd.prog.globals[g0]?).map (·.type) = some 72) (hg1 : Tryd.prog.globalNamed n1 = some g1) (ht1 : (Tryd.prog.globals[g1]?).map (·.type) = some 72) :
    ∃ a0 a1, W.cell? ⟨g0, 0, none⟩ = some (errV a0) ∧ W.cell? ⟨g1, 0, none⟩ = some (errV a1) ∧ a0 ≠ a1 ∧ Plain0 W a0 ∧ Plain0 W a1 := by
  obtain ⟨a0, a1, s0, s1, c0, c1, u0, u1, v0, v1, _, _, _, _, _, _, hne, hb0, hb1⟩ := laid_sentinels2 h hg0 ht0 hg1 ht1 Tryd.underlying72 row_err Tryd.underlying145 Tryd.underlying172 rfl rfl Tryd.underlying9 (by kernel_rfl) (by kernel_rfl)
  exact ⟨a0, a1, by simpa [errV] using World.var?_cell hg0 v0 0, by simpa [errV] using World.var?_cell hg1 v1 0, hne, ⟨_, _, hb0⟩, ⟨_, _, hb1⟩⟩

theorem errV_inj {W : World} {p : Addr} {a b : Addr} (h : W.cell? p = some (errV a)) (k : W.cell? p = some (errV b)) : b = a := by
  rw [h] at k
  simp only [errV, Option.some.injEq, Value.iface.injEq, Value.pointer.injEq, true_and] at k
  exact k.symm

theorem errs_of {W : World} (h : laidMetH Tryd.prog lst W) : ∃ a0 a1 a2 a3, ErrsAt W a0 a1 a2 a3 := by
  have h' : laidMet Tryd.prog lst W := h
  obtain ⟨a0, a1, v0, v1, n01, b0, b1⟩ := two_of h' g_inv gt_inv g_ran gt_ran
  obtain ⟨x0, a2, w0, v2, n02, _, b2⟩ := two_of (laidMet_skip h') g_inv gt_inv g_lim gt_lim
  obtain ⟨y0, a3, z0, v3, n03, _, b3⟩ := two_of (laidMet_skip (laidMet_skip h')) g_inv gt_inv g_not gt_not
  obtain ⟨x1, x2, w1, w2, n12, _, _⟩ := two_of h'.tail g_ran gt_ran g_lim gt_lim
  obtain ⟨y1, x3, z1, w3, n13, _, _⟩ := two_of (laidMet_skip h'.tail) g_ran gt_ran g_not gt_not
  obtain ⟨y2, y3, z2, z3, n23, _, _⟩ := two_of h'.tail.tail g_lim gt_lim g_not gt_not
  obtain rfl := errV_inj v0 w0
  obtain rfl := errV_inj v0 z0
  obtain rfl := errV_inj v1 w1
  obtain rfl := errV_inj v1 z1
  obtain rfl := errV_inj v2 w2
  obtain rfl := errV_inj v2 z2
  obtain rfl := errV_inj v3 w3
  obtain rfl := errV_inj v3 z3
  exact ⟨_, _, _, _, v0, v1, v2, v3, b0, b1, b2, b3, n01, n02, n03, n12, n13, n23⟩

end Go.Proofs.YtpcmcopfdghdgaaDoor

namespace Go.Proofs.YtpcmcopfdghdgaaDoor
open Go.RowKit Go.Extern.Stop Go.Stop Go.Extern

/-- The handle of the sentinels' type. -/
noncomputable def errH : Value := typeHandle Tryd.prog 145
theorem is_typeOf (v : Value) (w : World) : (Extern.ReflectliteType.typeOf #[.iface 145 v]).run Tryd.prog w = .ok (.iface 132 (.agg #[errH])) w := by kernel_rfl
theorem is_comparable (w : World) : (Extern.ReflectliteType.method (fun t => do Extern.Rtype.noPackHeld "Comparable" t; (fun a => Value.bool a.comparable) <$> typeInfo t) #[.agg #[errH]]).run Tryd.prog w = .ok (.bool true) w := by kernel_rfl
theorem is_method (n : Nat) (v : Value) (w : World) : (Go.method (n + 1) 132 v "Comparable").run Tryd.prog w = .ok (117, v) w := by kernel_rfl
theorem is_comp : (Tryd.prog.info? 145).map (·.comparable) = some true := by kernel_rfl
theorem is_size : (Tryd.prog.info? 172).map (·.size) = some 1 := by kernel_rfl
theorem is_noIs (v : Value) (xT : TypeId) (w : World) : (Instr.typeAssert (.iface 145 v) xT 134 true).run Tryd.prog w = .ok (.tuple #[.nilIface, .bool false]) w := run_typeAssert_lacksB Tryd.underlying134 (by kernel_rfl) (by kernel_rfl) v xT w
theorem is_noUnwrap (v : Value) (xT : TypeId) (w : World) : (Instr.typeAssert (.iface 145 v) xT 137 true).run Tryd.prog w = .ok (.tuple #[.nilIface, .bool false]) w := run_typeAssert_lacksB Tryd.underlying137 (by kernel_rfl) (by kernel_rfl) v xT w
theorem is_noUnwraps (v : Value) (xT : TypeId) (w : World) : (Instr.typeAssert (.iface 145 v) xT 139 true).run Tryd.prog w = .ok (.tuple #[.nilIface, .bool false]) w := run_typeAssert_lacksB Tryd.underlying139 (by kernel_rfl) (by kernel_rfl) v xT w

set_option maxRecDepth 1000000 in
theorem is_same {W : World} (a : Addr) : Calls Tryd.prog 81 #[errV a, errV a, .bool true] W fun e w' => e = .returned (.bool true) ∧ W = w' := by
  obtain ⟨i, hi, hcmp⟩ := Option.map_eq_some_iff.1 is_comp
  obtain ⟨j, hj, hjs⟩ := Option.map_eq_some_iff.1 is_size
  have heq := fun w => run_eql_iface_ptr_same (P := Tryd.prog) w a Tryd.underlying72 Tryd.underlying145 hi hcmp hj
  unfold errV
  go_enter Tryd.func81, Tryd.ntmps81
  go_wp2
  go_loopw [0] (fun E wl => wl = W ∧ E = .iface 145 (.pointer (some a))) (fun _ _ => 0)
  case atStart => exact ⟨rfl, rfl⟩
  case round =>
    obtain ⟨rfl, rfl⟩ := hrel
    go_wp2
    go_ret
    exact ⟨rfl, rfl⟩

set_option maxRecDepth 1000000 in
theorem is_other {W : World} {a b : Addr} (hne : a ≠ b) (ha : Plain0 W a) (hb : Plain0 W b) : Calls Tryd.prog 81 #[errV a, errV b, .bool true] W fun e w' => e = .returned (.bool false) ∧ W = w' := by
  obtain ⟨i, hi, hcmp⟩ := Option.map_eq_some_iff.1 is_comp
  obtain ⟨j, hj, hjs⟩ := Option.map_eq_some_iff.1 is_size
  obtain ⟨ca, ta, ha⟩ := ha
  obtain ⟨cb, tb, hb⟩ := hb
  have heq := run_eql_iface_ptr_other (P := Tryd.prog) W Tryd.underlying72 Tryd.underlying145 hi hcmp hj (by rw [hjs]; decide) hne ha hb
  have nE := is_noIs
  have uE := is_noUnwrap
  have vE := is_noUnwraps
  unfold errV
  go_enter Tryd.func81, Tryd.ntmps81
  go_wp2
  go_loopw [0] (fun E wl => wl = W ∧ E = .iface 145 (.pointer (some a))) (fun _ _ => 0)
  case atStart => exact ⟨rfl, rfl⟩
  case round =>
    obtain ⟨rfl, rfl⟩ := hrel
    go_wp2
    go_ret
    exact ⟨rfl, rfl⟩

/-- errors.Is of an error and a sentinel. -/
def IsB (W : World) (E : Value) (b : Addr) (r : Bool) : Prop := Calls Tryd.prog 64 #[E, errV b] W fun e w' => e = .returned (.bool r) ∧ W = w'

set_option maxRecDepth 1000000 in
theorem isB_nil (W : World) (b : Addr) : IsB W .nilIface b false := by
  have hn := run_eql_iface_nil_left (P := Tryd.prog) W 145 (.pointer (some b)) Tryd.underlying72
  unfold IsB errV
  go_enter Tryd.func64, Tryd.ntmps64
  go_wp2
  go_ret
  exact ⟨rfl, rfl⟩

set_option maxRecDepth 1000000 in
theorem isB_some (W : World) (a b : Addr) (r : Bool) (h : Calls Tryd.prog 81 #[errV a, errV b, .bool true] W fun e w' => e = .returned (.bool r) ∧ W = w') : IsB W (errV a) b r := by
  have h10 := @run_callFunc_extern Tryd.prog 80 _ Extern.ReflectliteType.typeOf Tryd.func80 (by kernel_rfl) (by kernel_rfl) (by kernel_rfl) (by kernel_rfl)
  have h30 := @run_callFunc_extern Tryd.prog 117 _ (Extern.ReflectliteType.method fun t => do Extern.Rtype.noPackHeld "Comparable" t; pure (.bool (← typeInfo t).comparable)) Tryd.func117 (by kernel_rfl) (by kernel_rfl) (by kernel_rfl) (by kernel_rfl)
  have tT := is_typeOf
  have cT := is_comparable
  have mR := is_method
  unfold IsB
  unfold errV at *
  go_enter Tryd.func64, Tryd.ntmps64
  go_wp2_with (first | (go_at_call 81; refine h.mono ?_; rintro e w' ⟨rfl, rfl⟩) | go_in)
  go_ret
  exact ⟨rfl, rfl⟩

/-- The code of an error, told by which sentinel it is. -/
def errOf (a0 a1 a2 a3 : Addr) : Nat → Value
  | 0 => .nilIface
  | 1 => errV a0
  | 2 => errV a1
  | 3 => errV a2
  | _ => errV a3
def codeE : Nat → Int
  | 0 => 0
  | 1 => 1
  | 2 => 2
  | 3 => 3
  | _ => 6

theorem isB_of {W : World} {a0 a1 a2 a3 : Addr} (h : ErrsAt W a0 a1 a2 a3) (k : Nat) :
    IsB W (errOf a0 a1 a2 a3 k) a0 (k == 1) ∧ IsB W (errOf a0 a1 a2 a3 k) a1 (k == 2) ∧ IsB W (errOf a0 a1 a2 a3 k) a2 (k == 3) ∧ IsB W (errOf a0 a1 a2 a3 k) a3 (decide (4 ≤ k)) := by
  match k with
  | 0 => exact ⟨isB_nil _ _, isB_nil _ _, isB_nil _ _, isB_nil _ _⟩
  | 1 => exact ⟨isB_some _ _ _ _ (is_same _), isB_some _ _ _ _ (is_other h.n01 h.b0 h.b1), isB_some _ _ _ _ (is_other h.n02 h.b0 h.b2), isB_some _ _ _ _ (is_other h.n03 h.b0 h.b3)⟩
  | 2 => exact ⟨isB_some _ _ _ _ (is_other h.n01.symm h.b1 h.b0), isB_some _ _ _ _ (is_same _), isB_some _ _ _ _ (is_other h.n12 h.b1 h.b2), isB_some _ _ _ _ (is_other h.n13 h.b1 h.b3)⟩
  | 3 => exact ⟨isB_some _ _ _ _ (is_other h.n02.symm h.b2 h.b0), isB_some _ _ _ _ (is_other h.n12.symm h.b2 h.b1), isB_some _ _ _ _ (is_same _), isB_some _ _ _ _ (is_other h.n23 h.b2 h.b3)⟩
  | k + 4 =>
    have e : decide (4 ≤ k + 4) = true := decide_eq_true (by omega)
    have e1 : (k + 4 == 1) = false := by simp
    have e2 : (k + 4 == 2) = false := by simp
    have e3 : (k + 4 == 3) = false := by simp
    rw [e, e1, e2, e3]
    exact ⟨isB_some _ _ _ _ (is_other h.n03.symm h.b3 h.b0), isB_some _ _ _ _ (is_other h.n13.symm h.b3 h.b1), isB_some _ _ _ _ (is_other h.n23.symm h.b3 h.b2), isB_some _ _ _ _ (is_same _)⟩

set_option maxRecDepth 1000000 in
theorem codeOf_any {W : World} {a0 a1 a2 a3 : Addr} (h : ErrsAt W a0 a1 a2 a3) (k : Nat) :
    Calls Tryd.prog 40 #[errOf a0 a1 a2 a3 k] W fun e w' => e = .returned (.int .i64 (codeE k)) ∧ W = w' := by
  obtain ⟨i0, i1, i2, i3⟩ := isB_of h k
  have c0 := h.v0
  have c1 := h.v1
  have c2 := h.v2
  have c3 := h.v3
  unfold IsB at i0 i1 i2 i3
  have I0 := Lib.hid i0
  have I1 := Lib.hid i1
  have I2 := Lib.hid i2
  have I3 := Lib.hid i3
  clear i0 i1 i2 i3 h
  match k with
  | 0 =>
    go_enter Tryd.func40, Tryd.ntmps40
    go_wp2_with (first | (go_at_call 64; (with_reducible refine I0.out.mono ?_); rintro e w' ⟨rfl, rfl⟩) | (go_at_call 64; (with_reducible refine I1.out.mono ?_); rintro e w' ⟨rfl, rfl⟩) | (go_at_call 64; (with_reducible refine I2.out.mono ?_); rintro e w' ⟨rfl, rfl⟩) | (go_at_call 64; (with_reducible refine I3.out.mono ?_); rintro e w' ⟨rfl, rfl⟩))
    go_ret
    exact ⟨rfl, rfl⟩
  | 1 =>
    go_enter Tryd.func40, Tryd.ntmps40
    go_wp2_with (go_at_call 64; (with_reducible refine I0.out.mono ?_); rintro e w' ⟨rfl, rfl⟩)
    go_ret
    exact ⟨rfl, rfl⟩
  | 2 =>
    go_enter Tryd.func40, Tryd.ntmps40
    go_wp2_with (first | (go_at_call 64; (with_reducible refine I0.out.mono ?_); rintro e w' ⟨rfl, rfl⟩) | (go_at_call 64; (with_reducible refine I1.out.mono ?_); rintro e w' ⟨rfl, rfl⟩))
    go_ret
    exact ⟨rfl, rfl⟩
  | 3 =>
    go_enter Tryd.func40, Tryd.ntmps40
    go_wp2_with (first | (go_at_call 64; (with_reducible refine I0.out.mono ?_); rintro e w' ⟨rfl, rfl⟩) | (go_at_call 64; (with_reducible refine I1.out.mono ?_); rintro e w' ⟨rfl, rfl⟩) | (go_at_call 64; (with_reducible refine I2.out.mono ?_); rintro e w' ⟨rfl, rfl⟩))
    go_ret
    exact ⟨rfl, rfl⟩
  | k + 4 =>
    go_enter Tryd.func40, Tryd.ntmps40
    go_wp2_with (first | (go_at_call 64; (with_reducible refine I0.out.mono ?_); rintro e w' ⟨rfl, rfl⟩) | (go_at_call 64; (with_reducible refine I1.out.mono ?_); rintro e w' ⟨rfl, rfl⟩) | (go_at_call 64; (with_reducible refine I2.out.mono ?_); rintro e w' ⟨rfl, rfl⟩) | (go_at_call 64; (with_reducible refine I3.out.mono ?_); rintro e w' ⟨rfl, rfl⟩))
    go_ret
    exact ⟨rfl, rfl⟩

/-- Which error a call is refused with. -/
def refN (v r f : Bool) : Nat := if !v then 1 else if !r then 2 else if !f then 3 else 0

set_option maxRecDepth 1000000 in
theorem refusal_any {W : World} {a0 a1 a2 a3 : Addr} (h : ErrsAt W a0 a1 a2 a3) (v r f : Bool) :
    Calls Tryd.prog 35 #[.bool v, .bool r, .bool f] W fun e w' => e = .returned (errOf a0 a1 a2 a3 (refN v r f)) ∧ W = w' := by
  have c0 := h.v0
  have c1 := h.v1
  have c2 := h.v2
  cases v <;> cases r <;> cases f
  all_goals
    go_enter Tryd.func35, Tryd.ntmps35
    go_wp2
    go_ret
    exact ⟨rfl, rfl⟩

end Go.Proofs.YtpcmcopfdghdgaaDoor

namespace Go.Proofs.YtpcmcopfdghdgaaDoor
open Go Go.RowKit

theorem heap_push (w : World) (o : Obj) (i : Nat) : (w.alloc o).heap[i]? = if i = w.heap.size then some o else w.heap[i]? := by
  show (w.heap.push o)[i]? = _
  exact Array.getElem?_push
theorem three_new (w : World) (a b c : Obj) : (((w.alloc a).alloc b).alloc c).heap[w.heap.size]? = some a ∧ (((w.alloc a).alloc b).alloc c).heap[w.heap.size + 1]? = some b ∧ (((w.alloc a).alloc b).alloc c).heap[w.heap.size + 1 + 1]? = some c ∧ Below w.heap.size w (((w.alloc a).alloc b).alloc c) := by
  refine ⟨?_, ?_, ?_, (((Below.refl _ _).alloc (Nat.le_refl _) _).alloc (by simp) _).alloc (by simp; omega) _⟩
  all_goals simp only [heap_push, World.size_alloc]
  · rw [if_neg (by omega), if_neg (by omega), if_true]
  · rw [if_neg (by omega), if_true]
  · rw [if_true]
theorem four_new (w : World) (a b c d : Obj) : ((((w.alloc a).alloc b).alloc c).alloc d).heap[w.heap.size]? = some a ∧ ((((w.alloc a).alloc b).alloc c).alloc d).heap[w.heap.size + 1]? = some b ∧ ((((w.alloc a).alloc b).alloc c).alloc d).heap[w.heap.size + 1 + 1]? = some c ∧ ((((w.alloc a).alloc b).alloc c).alloc d).heap[w.heap.size + 1 + 1 + 1]? = some d ∧ Below w.heap.size w ((((w.alloc a).alloc b).alloc c).alloc d) := by
  refine ⟨?_, ?_, ?_, ?_, ((((Below.refl _ _).alloc (Nat.le_refl _) _).alloc (by simp) _).alloc (by simp; omega) _).alloc (by simp; omega) _⟩
  all_goals simp only [heap_push, World.size_alloc]
  · rw [if_neg (by omega), if_neg (by omega), if_neg (by omega), if_true]
  · rw [if_neg (by omega), if_neg (by omega), if_true]
  · rw [if_neg (by omega), if_true]
  · rw [if_true]

end Go.Proofs.YtpcmcopfdghdgaaDoor

namespace Go.Proofs.YtpcmcopfdghdgaaDoor
open Go.RowKit Go.Shelf

attribute [local go_sem] Oper.semAt_some

/-- A tile of a room. -/
abbrev Tt (W H : Nat) := { t : Int × Int // inRoom (W : Int) (H : Int) t }

def tk (W H : Nat) (hW : 0 < W) (hH : 0 < H) (k : Nat) : Tt W H := ⟨(((k % W : Nat) : Int), ((k / W % H : Nat) : Int)), by
  have h1 := Nat.mod_lt k hW
  have h2 := Nat.mod_lt (k / W) hH
  exact ⟨by show (0 : Int) ≤ ((k % W : Nat) : Int); omega, by show ((k % W : Nat) : Int) < (W : Int); omega, by show (0 : Int) ≤ ((k / W % H : Nat) : Int); omega, by show ((k / W % H : Nat) : Int) < (H : Int); omega⟩⟩

def tks (W H : Nat) (hW : 0 < W) (hH : 0 < H) (k : Nat) : List (Tt W H) := (List.range k).map (tk W H hW hH)

theorem tks_succ (W H : Nat) (hW : 0 < W) (hH : 0 < H) (k : Nat) : tks W H hW hH (k + 1) = tks W H hW hH k ++ [tk W H hW hH k] := by simp [tks, List.range_succ]
@[simp] theorem tks_length (W H : Nat) (hW : 0 < W) (hH : 0 < H) (k : Nat) : (tks W H hW hH k).length = k := by simp [tks]

theorem tk_at (W H : Nat) (hW : 0 < W) (hH : 0 < H) {x y : Nat} (hx : x < W) (hy : y < H) : (tk W H hW hH (y * W + x)).1 = ((x : Int), (y : Int)) := by
  have e1 : (y * W + x) % W = x := by rw [Nat.mul_comm, Nat.mul_add_mod]; exact Nat.mod_eq_of_lt hx
  have e2 : (y * W + x) / W = y := by rw [Nat.mul_comm, Nat.mul_add_div hW, Nat.div_eq_of_lt hx, Nat.add_zero]
  have e3 : y % H = y := Nat.mod_eq_of_lt hy
  simp [tk, e1, e2, e3]

/-- One block stays as it is. -/
def KeepsAt (g : Nat) (A B : World) : Prop := ∀ o, A.heap[g]? = some o → B.heap[g]? = some o

theorem keepsAt_t {g : Nat} {A B C : World} (h : KeepsAt g A B) (k : KeepsAt g B C) : KeepsAt g A C := fun o ho => k o (h o ho)

theorem keepsAt_b {g : Nat} {w : World} (hg : g < w.heap.size) (W : World) (l : Nat) (o o' : Obj) (hl : w.heap.size ≤ l) (_ : W.heap[l]? = some o) (_ : o.isCells = false) (_ : o.isWalk = false) : KeepsAt g W (W.putObj l o') := by
  intro x hx
  rw [World.putObj_heap_other (by omega)]; exact hx

theorem room_cell0 {V : World} {g : Nat} {wd hg : Int} {sv : Value} {T : TypeId} {fr : Nat × Nat} (h : V.heap[g]? = some (.cells (roomC wd hg sv) T fr)) : V.cell? ⟨g, 0, none⟩ = some (.int .i8 wd) := by rw [cell_of_row _ _ _ _ _ _ h]; rfl

theorem room_cell1 {V : World} {g : Nat} {wd hg : Int} {sv : Value} {T : TypeId} {fr : Nat × Nat} (h : V.heap[g]? = some (.cells (roomC wd hg sv) T fr)) : V.cell? ⟨g, 1, none⟩ = some (.int .i8 hg) := by rw [cell_of_row _ _ _ _ _ _ h]; rfl

theorem i8_small (n : Int) (h0 : -128 ≤ n) (h1 : n ≤ 127) : IntKind.i8.wrap n = n := by
  rw [IntWalk.i8_in _ (by omega)]

end Go.Proofs.YtpcmcopfdghdgaaDoor

namespace Go.Proofs.YtpcmcopfdghdgaaDoor
open Go Go.RowKit

section

variable {P : Program}

theorem op_round {l n : Nat} {o : Oper} {a : Act} {w : World} {K : Act → World → Prop} {Q : Exit → Act → World → Prop} (hd : ∀ c, o.op ≠ .defer c) (h : o.wp P a w K Q) :
    o.wpIn (Fence.wide.inRound l) n P a w K Q := by
  refine ⟨fun _ _ => trivial, ?_⟩
  rw [Oper.semAt_eq _ _ _ hd]
  unfold Oper.wp at h
  generalize (execOp a.eval o).run P w = r at *
  cases r with
  | ok x w' =>
    cases x <;> simp only [Oper.upon, Oper.uponIn] at h ⊢
    case value => exact h
    case skip => exact h
    case defer => exact h
    case enter f args => exact ⟨fun h => (by cases h), CallsIn.inRound l (callsIn_wide.2 (h.mono fun e w' he => by cases e <;> exact he))⟩
    case row row args => exact ⟨fun h => (by cases h), fun c cs _ => let ⟨v, w', r, s⟩ := h c cs; ⟨v, w', r, stepsIn_wide.2 s⟩⟩
  | halt x w' => cases x <;> simp only [Oper.upon, Oper.uponIn] at h ⊢ <;> exact h


theorem any_round {l n : Nat} {md : Region.Mode} {ops : Array Oper} {Q : Exit → Act → World → Prop} (hd : ∀ (i : Nat) (o : Oper), ops[i]? = some o → ∀ c, o.op ≠ .defer c) (hlo : ¬ LetsOut Q) :
    ∀ (fuel : Nat) (listed : Array Bool) (a : Act) (w : World), wpAny P md ops Q fuel listed a w → wpAnyIn (Fence.wide.inRound l) n P md ops Q fuel listed a w
  | 0, _, _, _, h => h
  | fuel + 1, listed, a, w, h => by
    refine ⟨h.1, fun i hi => ?_⟩
    have h1 := h.2 i hi
    unfold wpOp at h1
    unfold wpOpIn
    cases ho : ops[i]? with
    | none => simp only [ho] at h1; exact any_round hd hlo fuel _ _ _ h1
    | some o =>
      simp only [ho] at h1 ⊢
      split
      · rename_i hw
        rw [if_pos hw] at h1
        have h2 := h1.resolve_right (fun h => hlo h.2)
        exact Oper.wpIn_mono (fun a w h => any_round hd hlo fuel _ a w h) (op_round (hd i o ho) h2)
      · rename_i hw
        rw [if_neg hw] at h1
        exact ⟨fun _ _ => trivial, any_round hd hlo fuel _ _ _ h1⟩

/-- A region that draws its order, in a round: from the law for a region under a held condition. -/
theorem region_round {l n id : Nat} {ops : Array Oper} {Q : Exit → Act → World → Prop} {S : World → Prop} {a : Act} {w : World} (hm : P.follows .mixedOrders = true)
    (hd : ∀ (i : Nat) (o : Oper), ops[i]? = some o → ∀ c, o.op ≠ .defer c) (hlo : ¬ LetsOut Q) (hS : S w.drew)
    (h : S w.drew → wpAnyH P .any ops Q S ops.size (Array.replicate ops.size false) a w.drew) : (Code.region id ops true).wpIn (Fence.wide.inRound l) n P Q a w :=
  wpIn_region_any hm (any_round hd hlo _ _ _ _ (wpAny_of_held _ _ _ _ (h hS)))

/-- Reads before one store, in a round. -/
theorem still_tail_round {l n id k : Nat} {Q : Exit → Act → World → Prop} {a : Act} {w : World} {os : List Oper} (hm : P.follows .mixedOrders = true) (hB : Region.lexTailB .any os.toArray k = true)
    (hd : ∀ (i : Nat) (o : Oper), os.toArray[i]? = some o → ∀ c, o.op ≠ .defer c) (hlo : ¬ LetsOut Q)
    (h : wpStill P os.toArray w.drew (fun a' => wpList P os.toArray Q (os.drop k) a' w.drew) (os.take k) a) : (Code.region id os.toArray true).wpIn (Fence.wide.inRound l) n P Q a w := by
  refine wpIn_region_any hm (any_round hd hlo _ _ _ _ ?_)
  simp only [Region.lexTailB, Bool.and_eq_true, decide_eq_true_eq] at hB
  obtain ⟨⟨⟨⟨hsel, hk⟩, hs⟩, hc⟩, hlex⟩ := hB
  have hk' : k < os.length := by simpa using hk
  have htl : (os.take k).length = k := by simp; omega
  have hdl : (os.drop k).length = os.toArray.size - k := by simp
  have inv0 : HeadInv .any os.toArray k (Array.replicate os.toArray.size false) :=
    ⟨by simp, fun j oj _ hl => (by rw [getD_replicate_false] at hl; cases hl), fun t _ ht => getD_in (by simpa using ht) (getD_replicate_false _ _)⟩
  have H := wpAnyL_lex (md := .any) (g := os.toArray.size - k) hsel hs hc hk (os.take k) 0 _ a (fun j hj => by
    have hj' : j < k := by rw [htl] at hj; exact hj
    simp [hj']) (by simpa using htl) inv0 (by rw [htl]; exact hlex) h
  have H2 := wpAny_of_head (Q' := Q) (g := os.toArray.size - k) (fun listed a' hL => by
    have h3 := wpAny_of_seq (md := .any) (Q' := Q) (os.drop k) k listed a' w.drew (fun j => by simp [List.getElem?_drop]) (by rw [hdl]; exact hL.1) hL.2
    rwa [hdl] at h3) _ _ _ H
  rw [htl, show k + (os.toArray.size - k) = os.toArray.size by omega] at H2
  exact H2

theorem no_defer {ops : List Oper} (h : ops.all (fun o => match o.op with | .defer _ => false | _ => true) = true) : ∀ (i : Nat) (o : Oper), ops.toArray[i]? = some o → ∀ c, o.op ≠ .defer c := by
  intro i o ho c hc
  have hm : o ∈ ops := List.mem_iff_getElem?.2 ⟨i, by simpa using ho⟩
  have := List.all_eq_true.1 h o hm
  rw [hc] at this
  cases this

end

end Go.Proofs.YtpcmcopfdghdgaaDoor

namespace Go.Proofs.YtpcmcopfdghdgaaDoor
open Go Go.RowKit

theorem list_roundL {P : Program} {l n : Nat} {ops : Array Oper} {Q : Exit → Act → World → Prop} (hlo : ¬ LetsOut Q) :
    ∀ (os : List Oper) (_ : ∀ o ∈ os, ∀ c, o.op ≠ .defer c) (a : Act) (w : World), wpList P ops Q os a w → wpListIn (Fence.wide.inRound l) n P ops Q os a w
  | [], _, _, _, h => h
  | o :: os, hd, a, w, h => by
    unfold wpList at h
    unfold wpListIn
    split
    · rename_i hw
      rw [if_pos hw] at h
      have h2 := h.resolve_right (fun h => hlo h.2)
      exact Oper.wpIn_mono (fun a w h => list_roundL hlo os (fun o ho => hd o (List.mem_cons_of_mem _ ho)) a w h) (op_round (hd o List.mem_cons_self) h2)
    · rename_i hw
      rw [if_neg hw] at h
      exact ⟨fun _ _ => trivial, list_roundL hlo os (fun o ho => hd o (List.mem_cons_of_mem _ ho)) _ w h⟩

/-- A region that draws no order, in a round: from the law outside. -/
theorem region_plain_round {P : Program} {l n id : Nat} {os : List Oper} {Q : Exit → Act → World → Prop} {a : Act} {w : World} (hd : os.all (fun o => match o.op with | .defer _ => false | _ => true) = true) (hlo : ¬ LetsOut Q)
    (h : wpList P os.toArray Q os a w) : (Code.region id os.toArray false).wpIn (Fence.wide.inRound l) n P Q a w :=
  wpIn_region_lit (list_roundL hlo os (fun o ho c hc => by
    have := List.all_eq_true.1 hd o ho
    rw [hc] at this
    cases this) a w h)

theorem wp_onlyL {P : Program} {c : Code} {K : Act → World → Prop} {Q : Exit → Act → World → Prop} {a : Act} {w : World} (h : c.wp P (Exit.then K (fun _ _ _ => False)) a w) : c.wp P (Exit.then K Q) a w :=
  Code.wp_mono (fun e a w h => by cases e <;> first | exact h | exact h.elim) h

end Go.Proofs.YtpcmcopfdghdgaaDoor

namespace Go.Proofs.YtpcmcopfdghdgaaDoor
open Go.RowKit

/-- Numbers of 16 bits as cells. -/
def i16s (xs : List Int) : Array Value := (xs.map (Value.int .i16)).toArray
@[simp] theorem i16s_size (xs : List Int) : (i16s xs).size = xs.length := by simp [i16s]

theorem i16s_get (xs : List Int) (k : Nat) (h : k < xs.length) : (i16s xs)[k]? = some (.int .i16 (xs[k]?.getD 0)) := by
  simp [i16s, h]

theorem i16s_one (xs : List Int) : ∀ v ∈ i16s xs, v.oneCell' = true := by
  intro v hv
  simp only [i16s, List.mem_toArray, List.mem_map] at hv
  obtain ⟨x, _, rfl⟩ := hv
  rfl

theorem i16s_set (xs : List Int) (k : Nat) (n : Int) : (i16s xs).setIfInBounds k (.int .i16 n) = i16s (xs.set k n) := by
  apply Array.ext'
  simp [i16s, List.map_set]

theorem copy_step (xs : List Int) (k : Nat) (hx : xs.length = 24) (hk : k < 24) :
    (xs.take k ++ List.replicate (24 - k) 0).set k (xs[k]?.getD 0) = xs.take (k + 1) ++ List.replicate (24 - (k + 1)) 0 := by
  apply List.ext_getElem?
  intro j
  simp only [List.getElem?_set, List.getElem?_append, List.length_take, List.getElem?_take, List.getElem?_replicate, List.length_append, List.length_replicate]
  by_cases h1 : k = j
  · subst h1
    simp [show k < 24 from hk, hx, show min k 24 + (24 - k) = 24 by omega, show min (k+1) 24 = k + 1 by omega]
  · rw [if_neg h1]
    by_cases h2 : j < k
    · simp [hx, show j < min k 24 by omega, show j < min (k+1) 24 by omega, show j < k + 1 by omega, h2]
    · simp only [hx, show ¬ j < min k 24 by omega, if_false, show ¬ j < min (k+1) 24 by omega]
      congr 1
      simp
      omega

theorem cell_of_i16s {w : World} {g : Nat} {xs : List Int} {t : TypeId} {fr : Nat × Nat} (hg : w.heap[g]? = some (.cells (i16s xs) t fr)) (k : Nat) (h : k < xs.length) :
    w.cell? ⟨g, k, none⟩ = some (.int .i16 (xs[k]?.getD 0)) := by
  rw [cell_of_row w g k _ t fr hg, i16s_get xs k h]

set_option maxRecDepth 100000 in
theorem info_arr : (Tryd.prog.info? 27).map (·.size) = some 24 := by kernel_rfl

theorem zeros24 : (#[.int .i16 0, .int .i16 0, .int .i16 0, .int .i16 0, .int .i16 0, .int .i16 0, .int .i16 0, .int .i16 0, .int .i16 0, .int .i16 0, .int .i16 0, .int .i16 0, .int .i16 0, .int .i16 0, .int .i16 0, .int .i16 0, .int .i16 0, .int .i16 0, .int .i16 0, .int .i16 0, .int .i16 0, .int .i16 0, .int .i16 0, .int .i16 0] : Array Value) = i16s (List.replicate 24 0) := rfl

theorem i16s_all (xs : List Int) (n : Nat) (h : xs.length = n) : (i16s xs).extract 0 (0 + n) = i16s xs := by
  have e : n = (i16s xs).size := by simp [h]
  rw [Nat.zero_add, e, Array.extract_size]

theorem laid_all (cs vs : Array Value) (h : cs.size = vs.size) : laid cs vs 0 = vs := by
  apply Array.ext'
  simp [laid]
  rw [← h]; simp

theorem heap_alloc (w : World) (o : Obj) (i : Nat) : (w.alloc o).heap[i]? = if i = w.heap.size then some o else w.heap[i]? := by
  show (w.heap.push o)[i]? = _
  exact Array.getElem?_push

set_option maxRecDepth 100000 in
set_option maxHeartbeats 400000 in
theorem toA_any (xs : List Int) (hx : xs.length = 24) (w : World) :
    Calls Tryd.prog 34 #[.agg (i16s xs)] w fun e w' => e = .returned (.agg (i16s xs)) ∧ Below w.heap.size w w' := by
  have Hx := Lib.hid hx
  clear hx
  go_enter Tryd.func34, Tryd.ntmps34
  go_wp2
  go_loopw [4] (fun i wr => ∃ k : Nat, k ≤ 24 ∧ i = .int .i64 k ∧ Below w.heap.size w wr ∧ wr.heap.size = w.heap.size + 3 ∧ wr.heap[w.heap.size]? = some (.cells (i16s xs) 27 (0, 0)) ∧ wr.heap[w.heap.size + 1]? = some (.cells (i16s (List.replicate 24 0)) 27 (0, 0)) ∧ wr.heap[w.heap.size + 1 + 1]? = some (.cells (i16s (xs.take k ++ List.replicate (24 - k) 0)) 27 (0, 0))) (fun i _ => 24 - (intOf i).toNat)
  case atStart =>
    refine ⟨0, Nat.zero_le _, rfl, ?_, ?_, ?_, ?_, ?_⟩
    · exact (((Below.refl _ _).alloc (Nat.le_refl _) _).alloc (by simp) _).alloc (by simp; omega) _
    · simp
    all_goals simp only [heap_alloc, World.size_alloc]
    · rw [if_neg (by omega), if_neg (by omega), if_true]
    · rw [if_neg (by omega), if_true]; rfl
    · rw [if_true]; rfl
  case round =>
    obtain ⟨k, hk, rfl, hb, hs, h0, h1, h2⟩ := hrel
    by_cases hlt : k < 24
    · have hc := cell_of_i16s h0 k (by rw [Hx.out]; exact hlt)
      have hl2 : (xs.take k ++ List.replicate (24 - k) (0 : Int)).length = 24 := by simp [Hx.out]; omega
      have hd := cell_of_i16s h2 k (by rw [hl2]; exact hlt)
      have hf := frozen_of_row wr (w.heap.size + 1 + 1) k _ _ h2
      have H2 := Lib.hid h2
      have H0 := Lib.hid h0
      have H1 := Lib.hid h1
      have Hl2 := Lib.hid hl2
      have Hs := Lib.hid hs
      clear h0 h1 h2 hl2 hs
      go_wp2
      go_roundw
      case rel =>
        refine ⟨k + 1, by omega, by go_num, hb.setCell (by simp; omega) _, ?_, ?_, ?_, ?_⟩
        · rw [← Hs.out]; simp
        · rw [heap_setCell_other _ _ _ _ (by simp; omega)]; exact H0.out
        · rw [heap_setCell_other _ _ _ _ (by simp)]; exact H1.out
        · rw [heap_setCell_same _ _ _ _ _ _ H2.out, i16s_set, copy_step xs k Hx.out hlt]
      case measure => simp [intOf]; omega
    · obtain rfl : k = 24 := by omega
      have e24 : xs.take 24 ++ List.replicate (24 - 24) (0 : Int) = xs := by simp [← Hx.out]
      rw [e24] at h2
      have H2 := Lib.hid h2
      have H1 := Lib.hid h1
      have Hs := Lib.hid hs
      clear h0 h1 h2 hs e24 hlt hk
      go_wp2_with (first | (refine wpList_load_part rfl 27 _ rfl _ _ 24 rfl _ _ _ _ H2.out Tryd.underlying27 rfl info_arr ?hsz _ (i16s_all xs 24 Hx.out) ?_; case hsz => simp [Hx.out]) | (refine wpList_store_part rfl 27 _ _ rfl _ _ _ rfl rfl _ _ H1.out (by rw [i16s_size, Hx.out]; exact info_arr) (by simp [Hx.out]) (i16s_one _) ?_; rw [laid_all _ _ (by simp [Hx.out])]))
      exact bodyPost_ret (results_cell_row rfl _ _ _ _ _ _ _ rfl (setRow_heap _ _ _ _ _ _ H1.out) Tryd.underlying27 rfl (by rw [i16s_size, Hx.out]; exact info_arr)) rfl ⟨rfl, below_setRow hb (by omega) _⟩


/-- A sun as a value: 24 heights, 24 turns. -/
def sunC (hs ts : List Int) : Array Value := i16s (hs ++ ts)

theorem sunC_size (hs ts : List Int) (h : hs.length = 24) (t : ts.length = 24) : (sunC hs ts).size = 48 := by simp [sunC, h, t]

theorem sun_fits (hs ts : List Int) (h : hs.length = 24) (t : ts.length = 24) : 0 + 48 ≤ (sunC hs ts).size := by rw [sunC_size _ _ h t]; decide

theorem sun_all (hs ts : List Int) (h : hs.length = 24) (t : ts.length = 24) : (sunC hs ts).extract 0 (0 + 48) = sunC hs ts := i16s_all _ 48 (by rw [List.length_append, h, t])

theorem sunC_fst (hs ts : List Int) (h : hs.length = 24) : (sunC hs ts).extract 0 (0 + 24) = i16s hs := by
  apply Array.ext'
  simp [sunC, i16s, ← h]

theorem sunC_snd (hs ts : List Int) (h : hs.length = 24) (t : ts.length = 24) : (sunC hs ts).extract 24 (24 + 24) = i16s ts := by
  apply Array.ext'
  have e : 24 = (List.map (Value.int .i16) ts).length := by simp [t]
  simp only [sunC, i16s, List.map_append, List.extract_toArray, List.extract_eq_take_drop]
  rw [List.drop_append_of_le_length (by simp [h]), List.drop_of_length_le (by simp [h]), List.nil_append, List.take_of_length_le (by simp [t])]

theorem laid_fst (hs ts us : List Int) (h : hs.length = 24) (u : us.length = 24) : laid (sunC hs ts) (i16s us) 0 = sunC us ts := by
  apply Array.ext'
  simp [laid, sunC, i16s, u, h]

theorem laid_snd (hs ts us : List Int) (h : hs.length = 24) (t : ts.length = 24) (u : us.length = 24) : laid (sunC hs ts) (i16s us) 24 = sunC hs us := by
  apply Array.ext'
  simp [laid, sunC, i16s, u, h, t]

set_option maxRecDepth 100000 in
theorem info_sunL : (Tryd.prog.info? 29).map (·.size) = some 48 := by kernel_rfl

set_option maxRecDepth 100000 in
theorem info_sun : (Tryd.prog.info? 37).map (·.size) = some 48 := by kernel_rfl

def zer : List Int := List.replicate 24 0

theorem zer_length : zer.length = 24 := rfl

theorem abs_code {P : Program} {c : Code} {Q : Exit → Act → World → Prop} {a : Act} {w : World} (R : World → Prop) (hw : R w) (h : ∀ W, R W → Code.wp P c Q a W) : Code.wp P c Q a w := h w hw

set_option maxRecDepth 100000 in
set_option maxHeartbeats 400000 in
theorem toSun_any (hs ts : List Int) (hh : hs.length = 24) (ht : ts.length = 24) (w : World) :
    Calls Tryd.prog 10 #[.agg (sunC hs ts)] w fun e w' => e = .returned (.agg (sunC hs ts)) ∧ Below w.heap.size w w' := by
  have Hh := Lib.hid hh
  have Ht := Lib.hid ht
  clear hh ht
  go_enter Tryd.func10, Tryd.ntmps10
  go_upto_region 2 with (fail)
  refine abs_code (fun W => Below w.heap.size w W ∧ w.heap.size + 3 ≤ W.heap.size ∧ W.heap[w.heap.size]? = some (.cells (sunC hs ts) 29 (0, 0)) ∧ W.heap[w.heap.size + 1]? = some (.cells (sunC zer zer) 37 (0, 0)) ∧ W.heap[w.heap.size + 1 + 1]? = some (.cells (sunC zer zer) 37 (0, 0))) ?_ ?_
  · refine ⟨(((Below.refl _ _).alloc (Nat.le_refl _) _).alloc (by simp) _).alloc (by simp; omega) _, by simp, ?_, ?_, ?_⟩
    all_goals simp only [heap_alloc, World.size_alloc]
    · rw [if_neg (by omega), if_neg (by omega), if_true]
    · rw [if_neg (by omega), if_true]; rfl
    · rw [if_true]; rfl
  rintro W ⟨hb, hs0, h0, h1, h2⟩
  have H0 := Lib.hid h0
  have H1 := Lib.hid h1
  have H2 := Lib.hid h2
  clear h0 h1 h2
  go_upto_region 3 with (first | (refine wpList_load_part rfl 27 _ rfl w.heap.size 0 24 rfl 29 (sunC hs ts) (0, 0) _ H0.out Tryd.underlying27 rfl info_arr (by rw [sunC_size _ _ Hh.out Ht.out]; decide) _ (sunC_fst hs ts Hh.out) ?_) | (go_at_call 34; refine (toA_any hs Hh.out _).mono ?_; rintro e W1 ⟨rfl, hb1⟩; replace H0 := Lib.hid (below_row hb1 H0.out); replace H1 := Lib.hid (below_row hb1 H1.out); replace H2 := Lib.hid (below_row hb1 H2.out); replace hs0 := Nat.le_trans hs0 hb1.size; replace hb := hb.trans (hb1.mono hb.size); clear hb1) | (refine wpList_store_part rfl 27 _ _ rfl (w.heap.size + 1 + 1) 0 (i16s hs) rfl rfl 37 (sunC zer zer) H2.out (by rw [i16s_size, Hh.out]; exact info_arr) (by rw [i16s_size, sunC_size _ _ zer_length zer_length, Hh.out]; decide) (i16s_one _) ?_; rw [laid_fst _ _ _ zer_length Hh.out]))
  refine abs_code (fun W => Below w.heap.size w W ∧ w.heap.size + 3 ≤ W.heap.size ∧ W.heap[w.heap.size]? = some (.cells (sunC hs ts) 29 (0, 0)) ∧ W.heap[w.heap.size + 1]? = some (.cells (sunC zer zer) 37 (0, 0)) ∧ W.heap[w.heap.size + 1 + 1]? = some (.cells (sunC hs zer) 37 (0, 0))) ?_ ?_
  · exact ⟨below_setRow hb (by omega) _, by simpa using hs0, (setRow_other _ _ _ _ (by omega)).trans H0.out, (setRow_other _ _ _ _ (by omega)).trans H1.out, setRow_heap _ _ _ _ _ _ H2.out⟩
  clear H0 H1 H2 hb hs0
  rintro W ⟨hb, hs0, h0, h1, h2⟩
  have H0 := Lib.hid h0
  have H1 := Lib.hid h1
  have H2 := Lib.hid h2
  clear h0 h1 h2
  go_upto_region 4 with (first | (refine wpList_load_part rfl 27 _ rfl w.heap.size 24 24 rfl 29 (sunC hs ts) (0, 0) _ H0.out Tryd.underlying27 rfl info_arr (by rw [sunC_size _ _ Hh.out Ht.out]; decide) _ (sunC_snd hs ts Hh.out Ht.out) ?_) | (go_at_call 34; refine (toA_any ts Ht.out _).mono ?_; rintro e W1 ⟨rfl, hb1⟩; replace H0 := Lib.hid (below_row hb1 H0.out); replace H1 := Lib.hid (below_row hb1 H1.out); replace H2 := Lib.hid (below_row hb1 H2.out); replace hs0 := Nat.le_trans hs0 hb1.size; replace hb := hb.trans (hb1.mono hb.size); clear hb1) | (refine wpList_store_part rfl 27 _ _ rfl (w.heap.size + 1 + 1) 24 (i16s ts) rfl rfl 37 (sunC hs zer) H2.out (by rw [i16s_size, Ht.out]; exact info_arr) (by rw [i16s_size, sunC_size _ _ Hh.out zer_length, Ht.out]; decide) (i16s_one _) ?_; rw [laid_snd _ _ _ Hh.out zer_length Ht.out]))
  refine abs_code (fun W => Below w.heap.size w W ∧ w.heap.size + 3 ≤ W.heap.size ∧ W.heap[w.heap.size]? = some (.cells (sunC hs ts) 29 (0, 0)) ∧ W.heap[w.heap.size + 1]? = some (.cells (sunC zer zer) 37 (0, 0)) ∧ W.heap[w.heap.size + 1 + 1]? = some (.cells (sunC hs ts) 37 (0, 0))) ?_ ?_
  · exact ⟨below_setRow hb (by omega) _, by simpa using hs0, (setRow_other _ _ _ _ (by omega)).trans H0.out, (setRow_other _ _ _ _ (by omega)).trans H1.out, setRow_heap _ _ _ _ _ _ H2.out⟩
  clear H0 H1 H2 hb hs0
  rintro W ⟨hb, hs0, h0, h1, h2⟩
  have H1 := Lib.hid h1
  have H2 := Lib.hid h2
  clear h0 h1 h2
  have Hsz := Lib.hid (sunC_size hs ts Hh.out Ht.out)
  go_wp2_with (first | (refine wpList_load_part rfl 37 _ rfl (w.heap.size + 1 + 1) 0 48 rfl 37 (sunC hs ts) (0, 0) _ H2.out Tryd.underlying37 rfl info_sun (by rw [Hsz.out]; decide) _ (i16s_all _ 48 (by simpa [sunC] using Hsz.out)) ?_) | (refine wpList_store_part rfl 37 _ _ rfl (w.heap.size + 1) 0 (i16s (hs ++ ts)) rfl rfl 37 (sunC zer zer) H1.out (by rw [i16s_size, List.length_append, Hh.out, Ht.out]; exact info_sun) (by simp [sunC, zer_length, Hh.out, Ht.out]) (i16s_one _) ?_; rw [laid_all _ _ (by simp [sunC, zer_length, Hh.out, Ht.out])]))
  exact bodyPost_ret (v := .agg (i16s (hs ++ ts))) (results_cell_row rfl _ _ _ _ _ _ _ rfl (setRow_heap _ _ _ _ _ _ H1.out) Tryd.underlying37 rfl (by rw [i16s_size, List.length_append, Hh.out, Ht.out]; exact info_sun)) rfl ⟨rfl, below_setRow hb (by omega) _⟩

end Go.Proofs.YtpcmcopfdghdgaaDoor

namespace Go.Proofs.YtpcmcopfdghdgaaDoor
open Go.RowKit Go.Shelf

/-- An hour of a day. -/
abbrev Hr := { h : Int // 0 ≤ h ∧ h < 24 }

def hr (k : Nat) : Hr := ⟨(k % 24 : Nat), by omega⟩

theorem hr_val (k : Nat) (h : k < 24) : (hr k).1 = (k : Int) := by simp [hr, Nat.mod_eq_of_lt h]

def hrs (k : Nat) : List Hr := (List.range k).map hr

theorem hrs_succ (k : Nat) : hrs (k + 1) = hrs k ++ [hr k] := by simp [hrs, List.range_succ]
@[simp] theorem hrs_length (k : Nat) : (hrs k).length = k := by simp [hrs]

set_option maxRecDepth 100000 in
set_option maxHeartbeats 1000000 in
theorem eachHour_in (F : Fence) (n : Nat) (hF : F.fn 53) (hro : F.round = none) (hn : 1 ≤ n) (l n₀ : Nat) (J Jx : List Hr → World → Prop)
    (hY : ∀ pre x W, J pre W → pre.length < 24 → YieldAt F (n - 1) Tryd.prog l #[.int .i64 x.1] W fun e W' =>
      (e = .returned (.bool true) ∧ J (pre ++ [x]) W' ∧ Below n₀ W W') ∨ (e = .returned (.bool false) ∧ Jx (pre ++ [x]) W'))
    (W : World) (h0 : J [] W) :
    CallsIn F n Tryd.prog 53 #[.func (.yield l) #[] #[]] W fun e W' => (∃ v, e = .returned v) ∧
      ((∃ xs, xs = hrs 24 ∧ J xs W') ∨ (∃ pre, (∃ k, k ≤ 24 ∧ pre = hrs k) ∧ Jx pre W')) := by
  refine callsIn_of_wp Tryd.func53 rfl hF ?_ hro
  simp only [Tryd.ntmps53, List.size_toArray, List.length_cons, List.length_nil, Nat.reduceAdd, Nat.reduceSub, Array.replicate_succ, Array.replicate_zero, List.push_toArray, List.append_toArray, List.nil_append, List.cons_append]
  gi_wp2
  gi_loopw [3] (fun i wr => ∃ k : Nat, k ≤ 24 ∧ i = .int .i64 k ∧ J (hrs k) wr ∧ Below n₀ W wr) (fun i _ => 24 - (intOf i).toNat)
  case atStart => exact ⟨0, Nat.zero_le _, rfl, h0, Below.refl _ _⟩
  case round =>
    obtain ⟨k, hk, rfl, hJs, hnx⟩ := hrel
    by_cases hlt : k < 24
    · obtain ⟨fn, tmps, assign, body, hy, hR⟩ := hY _ (hr k) wr hJs (by rw [hrs_length]; exact hlt)
      rw [hr_val k hlt] at hy
      gi_wp2
      refine hR.mono ?_
      rintro e W3 (⟨rfl, hJ3, hk3⟩ | ⟨rfl, hJx3⟩)
      · gi_wp2
        go_roundw
        case rel => exact ⟨k + 1, by omega, by simp, by rw [hrs_succ]; exact hJ3, hnx.trans hk3⟩
        case measure => simp [intOf]; omega
      · gi_wp2
        refine bodyPost_ret (results_none rfl _ _ _) rfl ?_
        exact ⟨⟨_, rfl⟩, .inr ⟨_, ⟨k + 1, by omega, (hrs_succ _).symm⟩, hJx3⟩⟩
    · obtain rfl : k = 24 := by omega
      gi_wp2
      go_end0
      exact ⟨⟨_, rfl⟩, .inl ⟨_, rfl, hJs⟩⟩

theorem eachHour_stops (F : Fence) (n : Nat) (hF : F.fn 53) (hro : F.round = none) (hn : 1 ≤ n) (n₀ : Nat) (w : World) :
    SeqStopsK F n Tryd.prog 53 #[] (fun x : Hr => #[Value.int .i64 x.1]) (Below n₀) (fun xs => xs = hrs 24) (fun pre => ∃ k, k ≤ 24 ∧ pre = hrs k) 24 w := fun l J Jx W _ _ _ hY h0 =>
  eachHour_in F n hF hro hn l n₀ J Jx hY W h0

end Go.Proofs.YtpcmcopfdghdgaaDoor

namespace Go.Proofs.YtpcmcopfdghdgaaDoor
open Go Go.RowKit

set_option maxRecDepth 100000 in
theorem size_i16 (w : World) : (sizeOf 26).run Tryd.prog w = .ok 1 w := by kernel_rfl

set_option maxRecDepth 100000 in
theorem agg_i16 (w : World) : (isAgg 26).run Tryd.prog w = .ok false w := by kernel_rfl

set_option maxRecDepth 100000 in
theorem agg_arr (w : World) : (isAgg 27).run Tryd.prog w = .ok true w := by kernel_rfl

set_option maxRecDepth 100000 in
theorem size_arr (w : World) : (sizeOf 27).run Tryd.prog w = .ok 24 w := by kernel_rfl

theorem part_i16 (xs : List Int) (i : Nat) (h : i < xs.length) (w : World) : (part 26 (i16s xs) i).run Tryd.prog w = .ok (.int .i16 (xs[i]?.getD 0)) w := by
  unfold part
  rw [Sem.run_bind, agg_i16]
  simp only [Result.andThen_ok, Bool.false_eq_true, if_false, i16s_get xs i h]
  rfl

theorem part_arr (cs : Array Value) (o : Nat) (w : World) : (part 27 cs o).run Tryd.prog w = .ok (.agg (cs.extract o (o + 24))) w := by
  unfold part
  rw [Sem.run_bind, agg_arr]
  simp only [Result.andThen_ok, if_true]
  rw [Sem.run_bind, size_arr]
  rfl

theorem eq_loop (d : Nat) (xs ys : List Int) (w : World) : ∀ (is : List Nat), (∀ i ∈ is, i < xs.length ∧ i < ys.length) →
    (forIn is ((none, ()) : Option Bool × Unit) (fun i _ => do
      if (!(← Op.equalIn (d + 1) 26 (← part 26 (i16s xs) (i * 1)) (← part 26 (i16s ys) (i * 1)))) = true then pure (ForInStep.done (some false, ()))
      else pure (ForInStep.yield (none, ())))).run Tryd.prog w = .ok (if is.all (fun i => xs[i]?.getD 0 == ys[i]?.getD 0) then (none, ()) else (some false, ())) w
  | [], _ => rfl
  | i :: is, h => by
    have hi := h i (by simp)
    have ih := eq_loop d xs ys w is (fun j hj => h j (by simp [hj]))
    rw [List.forIn_cons]
    simp only [Nat.mul_one] at ih ⊢
    simp only [Sem.run_bind, part_i16 xs i hi.1, part_i16 ys i hi.2, Result.andThen_ok, run_equalIn_int w d 26 .i16 .i16 _ _ Tryd.underlying26]
    cases hc : (xs[i]?.getD 0 == ys[i]?.getD 0)
    · simp [hc]
    · simp only [Bool.not_true, Bool.false_eq_true, if_false, Sem.run_pure, Result.andThen_ok, List.all_cons, hc, Bool.true_and]
      exact ih

theorem all_eq (xs ys : List Int) (n : Nat) (hx : xs.length = n) (hy : ys.length = n) : (List.range' 0 n).all (fun i => xs[i]?.getD 0 == ys[i]?.getD 0) = (xs == ys) := by
  rw [Bool.eq_iff_iff]
  simp only [List.all_eq_true, beq_iff_eq]
  constructor
  · intro h
    apply List.ext_getElem?
    intro i
    by_cases hi : i < n
    · have h1 := h i (by simp [List.mem_range']; omega)
      rw [List.getElem?_eq_getElem (by omega), List.getElem?_eq_getElem (by omega)] at h1 ⊢
      simpa using h1
    · rw [List.getElem?_eq_none (by omega), List.getElem?_eq_none (by omega)]
  · intro h i _
    rw [h]

theorem run_eq_arr (d : Nat) (xs ys : List Int) (hx : xs.length = 24) (hy : ys.length = 24) (w : World) :
    (Op.equalIn (d + 1 + 1) 27 (.agg (i16s xs)) (.agg (i16s ys))).run Tryd.prog w = .ok (xs == ys) w := by
  have hl := eq_loop d xs ys w (List.range' 0 24) (fun i hi => by simp [List.mem_range'] at hi; omega)
  rw [all_eq xs ys 24 hx hy] at hl
  rw [Op.equalIn.eq_def]
  simp only [Sem.run_bind, run_underlying Tryd.underlying27, Result.andThen_ok, size_i16]
  rw [Std.Legacy.Range.forIn_eq_forIn_range']
  have e : (Std.Legacy.Range.mk 0 24 1 (by decide)).size = 24 := by decide
  simp only [e]
  erw [hl]
  cases xs == ys <;> rfl


theorem run_eql_arr (xs ys : List Int) (hx : xs.length = 24) (hy : ys.length = 24) (w : World) :
    (Op.equalIn 10000 27 (.agg (i16s xs)) (.agg (i16s ys))).run Tryd.prog w = .ok (xs == ys) w := run_eq_arr 9998 xs ys hx hy w

set_option maxRecDepth 100000 in
theorem fields_sun : Tryd.prog.underlying 37 = some (.struct (Tryd.prog.fieldsOf 37)) := by kernel_rfl

set_option maxRecDepth 100000 in
theorem stood_sun : Tryd.prog.stoodInHeld 37 = false := by kernel_rfl

theorem fold_and (a b : Bool) (w : World) : (if (!a) = true then Sem.run Tryd.prog (pure false) w else ((Sem.run Tryd.prog (pure b) w).andThen fun r w' => Sem.run Tryd.prog (if (!r) = true then pure false else pure true) w')) = .ok (a && b) w := by
  cases a <;> cases b <;> rfl

set_option maxRecDepth 100000 in
theorem run_eql_sun (h1 t1 h2 t2 : List Int) (a1 : h1.length = 24) (b1 : t1.length = 24) (a2 : h2.length = 24) (b2 : t2.length = 24) (w : World) :
    (Op.equalIn 10000 37 (.agg (sunC h1 t1)) (.agg (sunC h2 t2))).run Tryd.prog w = .ok (h1 == h2 && t1 == t2) w := by
  rw [run_equalIn_agg w 9999 37 _ _ fields_sun stood_sun]
  have hf : (Tryd.prog.fieldsOf 37).toList.map (fun f => (f.name, f.type, f.offset)) = [("Height", 27, 0), ("Turns", 27, 24)] := by kernel_rfl
  generalize (Tryd.prog.fieldsOf 37).toList = fs at hf
  have hlen : fs.length = 2 := by simpa using congrArg List.length hf
  match fs, hlen, hf with
  | [f0, f1], _, hf =>
    simp only [List.map_cons, List.map_nil, List.cons.injEq, Prod.mk.injEq, and_true] at hf
    obtain ⟨⟨n0, ty0, o0⟩, n1, ty1, o1⟩ := hf
    simp only [Op.eqFields, n0, n1, ty0, ty1, o0, o1]
    rw [if_pos (by decide), if_pos (by decide)]
    simp only [Sem.run_bind, part_arr, Result.andThen_ok, sunC_fst _ _ a1, sunC_fst _ _ a2, sunC_snd _ _ a1 b1, sunC_snd _ _ a2 b2, run_eq_arr 9997 _ _ a1 a2, Sem.run_ite, run_eq_arr 9997 _ _ b1 b2]
    cases h1 == h2 <;> cases t1 == t2 <;> rfl

end Go.Proofs.YtpcmcopfdghdgaaDoor
