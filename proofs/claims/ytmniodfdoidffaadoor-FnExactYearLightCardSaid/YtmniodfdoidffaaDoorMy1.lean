/-
  GenL, Over, FallDay, SunEq, SuA, SuO, SuV, CdD, SameN, FlA, List, ListF, MarkF, ListLaw, FlO.
-/
import Derived.Test.YtmniodfdoidffaaDoorAgg
import Derived.Test.YtmniodfdoidffaaDoorRow
import Derived.Test.YtmniodfdoidffaaDoorTake
import Derived.Laws.Rows
import Derived.Laws.MakeOwn
import Derived.OwnWalk
import Derived.ChangeSlices
import Derived.ChangeShapes
import Derived.ChangeSame
import Derived.WalkSpells
import Derived.Test.YtmniodfdoidffaaDoorDay
import Derived.Test.YtmniodfdoidffaaDoorOpen
import Derived.Test.YtmniodfdoidffaaDoorLaw
import Derived.Deep.Slices
import Derived.Deep.OwnRows
import Derived.Deep.Fields
import Derived.Deep.Strs
import Derived.Test.YtmniodfdoidffaaDoorWin
import Derived.Test.YtmniodfdoidffaaDoorOk
import Derived.Test.YtmniodfdoidffaaDoorFall
import Derived.Test.YtmniodfdoidffaaDoorWithBS
import Derived.Test.YtmniodfdoidffaaDoorHeld
import Derived.Test.YtmniodfdoidffaaDoorValid
import Derived.Test.YtmniodfdoidffaaDoorAsE
import Derived.Test.YtmniodfdoidffaaDoorSun
import Derived.Test.YtmniodfdoidffaaDoorSame
import Derived.Test.YtmniodfdoidffaaDoorSgn
import Derived.Test.YtmniodfdoidffaaDoorRows
import Derived.WalkLawsBesides
import Derived.Lib.Hide
import Derived.Deep.Cut
import Derived.Deep.DeepCutAuto
import Derived.Test.YtmniodfdoidffaaDoorWide
import Derived.Test.YtmniodfdoidffaaDoorMul
import Derived.Laws.AppendOwn
import Derived.Maps.AppendAt

namespace Go.Proofs.YtmniodfdoidffaaDoor
open Go.ChangeShapes Go.WideShapes Go.ChangeAt Go.RowKit Go.Deep Go.Joins

theorem cell_below {W W' : World} (hb : Below W.heap.size W W') {a : Addr} {v : Value} (h : W.cell? a = some v) : W'.cell? a = some v :=
  (hb.cell (World.block_lt_of_cell? W a h)).trans h
theorem list_of {α : Type} {Pr : Nat → α → Prop} : ∀ n, (∀ i, i < n → ∃ x, Pr i x) → ∃ l : List α, l.length = n ∧ ∀ i x, l[i]? = some x → Pr i x
  | 0, _ => ⟨[], rfl, fun i x h => by simp at h⟩
  | n + 1, h => by
    obtain ⟨l, hl, hp⟩ := list_of n (fun i hi => h i (by omega))
    obtain ⟨x, hx⟩ := h n (by omega)
    refine ⟨l ++ [x], by simp [hl], fun i y hy => ?_⟩
    by_cases c : i < l.length
    · rw [List.getElem?_append_left c] at hy
      exact hp i y hy
    · rw [List.getElem?_append_right (by omega)] at hy
      have hi := (List.getElem?_eq_some_iff.1 hy).1
      simp only [List.length_cons, List.length_nil] at hi
      have e0 : i - l.length = 0 := by omega
      rw [e0] at hy
      simp only [List.getElem?_cons_zero, Option.some.injEq] at hy
      subst hy
      have e1 : i = n := by omega
      subst e1
      exact hx
section
variable {P : Program}
theorem run_loadVar_cells (w : World) (g off n : Nat) (ty : TypeId) (d : TypeDesc) (hu : P.underlying ty = some d) (hd : (match d with | .struct _ | .array _ _ => true | _ => false) = true) (hi : (P.info? ty).map (·.size) = some n)
    (vs : Array Value) (hn : vs.size = n) (hc : ∀ j v, vs[j]? = some v → w.cell? ⟨g, off + j, none⟩ = some v) : (loadVar ty ⟨g, off, none⟩).run P w = .ok (.agg vs) w := by
  have hl : (loadCells ⟨g, off, none⟩ n).run P w = .ok vs w := by
    have h := run_loadCells_list (P := P) w ⟨g, off, none⟩ vs.toList (fun j v hv => by
      rw [addr_add]
      exact hc j v (by simpa using hv))
    rw [Array.length_toList, hn, Array.toArray_toList] at h
    exact h
  cases hq : P.info? ty with
  | none => simp [hq] at hi
  | some i =>
    have hs : i.size = n := by simpa [hq] using hi
    have hagg : (isAgg ty).run P w = .ok true w := by
      unfold isAgg
      rw [Sem.run_bind, run_underlying hu w]
      cases d <;> simp_all
    simp [loadVar, Sem.run_bind, hagg, sizeOf, typeInfo, hq, hs, hl]

theorem wpList_load_cells {ops : Array Oper} {rest : List Oper} {o : Oper} {a : Act} {w : World} {Q : Exit → Act → World → Prop} (hgd : o.guard = none) (ty : TypeId) (x : Operand) (ho : o.op = .load ty x)
    (g off n : Nat) (hx : a.eval x = .pointer (some ⟨g, off, none⟩)) (d : TypeDesc) (hu : P.underlying ty = some d) (hd : (match d with | .struct _ | .array _ _ => true | _ => false) = true) (hi : (P.info? ty).map (·.size) = some n)
    (vs : Array Value) (hn : vs.size = n) (hc : ∀ j v, vs[j]? = some v → w.cell? ⟨g, off + j, none⟩ = some v) (h : wpList P ops Q rest (a.put o.dst (.agg vs)) w) : wpList P ops Q (o :: rest) a w := by
  refine wpList_plain hgd fun K hK => ?_
  unfold Oper.wp execOp
  simp only [ho, hx, Instr.loadAt, Instr.sureAddr, Sem.run_bind, Sem.run_pure, Result.andThen_ok, run_loadVar_cells w g off n ty d hu hd hi vs hn hc]
  exact hK _ _ h
end
theorem laid_here (cs vs : Array Value) (off : Nat) (h : off + vs.size ≤ cs.size) : (laid cs vs off).extract off (off + vs.size) = vs := by
  apply Array.ext'
  rw [Array.toList_extract, List.extract_eq_take_drop, Nat.add_sub_cancel_left]
  unfold laid
  have hl : (cs.toList.take off).length = off := by simp; omega
  rw [List.append_assoc, List.drop_append_of_le_length (by omega), List.drop_of_length_le (by omega), List.nil_append, List.take_append_of_le_length (by simp), List.take_of_length_le (by simp)]
theorem laid_there (cs vs : Array Value) (off j n : Nat) (h : off + vs.size ≤ cs.size) (hj : j + n ≤ off) : (laid cs vs off).extract j (j + n) = cs.extract j (j + n) := by
  apply Array.ext'
  rw [Array.toList_extract, Array.toList_extract, List.extract_eq_take_drop, List.extract_eq_take_drop, Nat.add_sub_cancel_left]
  unfold laid
  have hl : (cs.toList.take off).length = off := by simp; omega
  rw [List.append_assoc, List.drop_append_of_le_length (by omega), List.take_append_of_le_length (by simp; omega), List.drop_take, List.take_take, Nat.min_eq_left (by omega)]
def leftI (n left : Int) : Int := if left - n < 0 then -1 else left - n
theorem three_at (w : World) (a b c : Obj) : (((w.alloc a).alloc b).alloc c).heap[w.heap.size]? = some a ∧ (((w.alloc a).alloc b).alloc c).heap[w.heap.size + 1]? = some b ∧ (((w.alloc a).alloc b).alloc c).heap[w.heap.size + 1 + 1]? = some c ∧ Below w.heap.size w (((w.alloc a).alloc b).alloc c) := by
  have key : ∀ (w : World) (o : Obj) (i : Nat), (w.alloc o).heap[i]? = if i = w.heap.size then some o else w.heap[i]? := fun w o i => by
    show (w.heap.push o)[i]? = _
    exact Array.getElem?_push
  refine ⟨?_, ?_, ?_, (((Below.refl _ _).alloc (Nat.le_refl _) _).alloc (by simp) _).alloc (by simp; omega) _⟩
  all_goals simp only [key, World.size_alloc]
  · rw [if_neg (by omega), if_neg (by omega), if_true]
  · rw [if_neg (by omega), if_true]
  · rw [if_true]
theorem two_at (w : World) (a b : Obj) : ((w.alloc a).alloc b).heap[w.heap.size]? = some a ∧ ((w.alloc a).alloc b).heap[w.heap.size + 1]? = some b ∧ Below w.heap.size w ((w.alloc a).alloc b) :=
  ⟨by rw [Below.heap_alloc _ _ _ (by simp)]; exact heap_alloc_new _ _, by have h := heap_alloc_new (w.alloc a) b; simpa using h, ((Below.refl _ _).alloc (Nat.le_refl _) _).alloc (by simp) _⟩
theorem yields_cells {P : Program} {ops : Array Oper} {S : World → Prop} {o : Oper} {a : Act} (hw : Region.wanted o (yielded ops a.tmps) = true) (ty : TypeId) (x : Operand) (ho : o.op = .load ty x)
    (g off n : Nat) (hx : a.eval x = .pointer (some ⟨g, off, none⟩)) (d : TypeDesc) (hu : P.underlying ty = some d) (hd : (match d with | .struct _ | .array _ _ => true | _ => false) = true) (hi : (P.info? ty).map (·.size) = some n)
    (vs : Array Value) (hn : vs.size = n) (hc : ∀ w, S w → ∀ j v, vs[j]? = some v → w.cell? ⟨g, off + j, none⟩ = some v) : YieldsIf P ops S o (.agg vs) a :=
  .inl ⟨hw, fun w hw' => by
    unfold execOp
    simp only [ho, hx, Instr.loadAt, Instr.sureAddr, Sem.run_bind, Sem.run_pure, Result.andThen_ok, run_loadVar_cells w g off n ty d hu hd hi vs hn (hc w hw')]⟩

end Go.Proofs.YtmniodfdoidffaaDoor

namespace Go.Proofs.YtmniodfdoidffaaDoor
open Go.RowKit Go.Shelf

attribute [local go_sem] Oper.semAt_some run_store_float

def FallI (w : World) (hs ts : List Int) (facing : Int) (g : Nat → Nat) (pre : List Hr) (W : World) : Prop :=
  ∃ s : Nat, pos32 s = true ∧ W.heap[w.heap.size]? = some (.cells (sunC hs ts) 126 (0, 0)) ∧ W.heap[w.heap.size + 1]? = some (.cells #[.int .i64 facing] 2 (0, 0)) ∧ W.heap[w.heap.size + 1 + 1]? = some (.cells #[.float .f32 s] 25 (0, 0)) ∧ (Good pre → s = sumTo g pre.length) ∧ Below w.heap.size w W

theorem fallI_own (w : World) (hs ts : List Int) (facing : Int) (g : Nat → Nat) (B : Nat) (hB : w.heap.size ≤ B) : OwnFrom B (FallI w hs ts facing g) := by
  intro s W W' row ⟨x, hx, h0, h1, h2, hg, hb⟩ hg' hr
  have hr2 := fun r e => (hr r e).2
  exact ⟨x, hx, heap_kept h0 hg' hr2, heap_kept h1 hg' hr2, heap_kept h2 hg' hr2, hg, ownFrom_below (β := Unit) (Nat.le_refl _) hB () W W' row hb hg' hr⟩

theorem fall_step {w W W1 : World} {hs ts : List Int} {facing : Int} {g : Nat → Nat} {pre : List Hr} {k : Nat} {h01 : 0 ≤ (k : Int) ∧ (k : Int) < 24} {s : Nat} (hl : pre.length < 24) (hs0 : pos32 s = true) (hg0 : pos32 (g k) = true)
    (hgood : Good pre → s = sumTo g pre.length) (hk : KeepsOthers W W1) (hbW : Below w.heap.size W W1) (hH : W1.heap[w.heap.size]? = some (.cells (sunC hs ts) 126 (0, 0))) (hF : W1.heap[w.heap.size + 1]? = some (.cells #[.int .i64 facing] 2 (0, 0))) (hS : W1.heap[w.heap.size + 1 + 1]? = some (.cells #[.float .f32 s] 25 (0, 0))) (hb : Below w.heap.size w W1) :
    KeepsOthers W (W1.setCell ⟨w.heap.size + 1 + 1, 0, none⟩ (.float .f32 (fadd s (g k)))) ∧ Below w.heap.size W (W1.setCell ⟨w.heap.size + 1 + 1, 0, none⟩ (.float .f32 (fadd s (g k)))) ∧ FallI w hs ts facing g (pre ++ [⟨k, h01⟩]) (W1.setCell ⟨w.heap.size + 1 + 1, 0, none⟩ (.float .f32 (fadd s (g k)))) := by
  refine ⟨hk.trans (KeepsOthers.setCell _ _ _), hbW.setCell (p := ⟨w.heap.size + 1 + 1, 0, none⟩) (by simp; omega) _, fadd s (g k), (add_ok hs0 hg0).2, ?_, ?_, ?_, ?_, hb.setCell (p := ⟨w.heap.size + 1 + 1, 0, none⟩) (by simp; omega) _⟩
  · rw [heap_setCell_other _ _ _ _ (by simp; omega)]; exact hH
  · rw [heap_setCell_other _ _ _ _ (by simp)]; exact hF
  · rw [heap_setCell_same _ _ _ _ _ _ hS]; rfl
  · intro hgs
    obtain ⟨hgp, hxk⟩ := good_snoc hgs hl
    have hkl : k = pre.length := by have : (k : Int) = (pre.length : Int) := hxk; omega
    rw [List.length_append, List.length_singleton, sumTo_succ, ← hgood hgp, hkl]

end Go.Proofs.YtmniodfdoidffaaDoor

namespace Go.Proofs.YtmniodfdoidffaaDoor
open Go.ChangeShapes Go.WideShapes Go.ChangeAt Go.RowKit

/-- The light on a window of a day. -/
def dayOf (hs ts : List Int) (facing : Int) : Nat := sumTo (fun h => fallOf hs ts (h : Int) facing) 24
theorem dayOf_pos (hs ts : List Int) (facing : Int) : pos32 (dayOf hs ts facing) = true := sumTo_pos _ 24 (fun _ _ => fallB_pos _ _) 24 (Nat.le_refl _)

theorem dayOf_eq (hs ts : List Int) (facing : Int) : sumTo (fun h => fallOf hs ts (h : Int) facing) 24 = dayOf hs ts facing := rfl

end Go.Proofs.YtmniodfdoidffaaDoor

namespace Go.Proofs.YtmniodfdoidffaaDoor
open Go.ChangeShapes Go.WideShapes Go.ChangeAt Go.RowKit

theorem new2_fst (w : World) (a b : Obj) : ((w.alloc a).alloc b).heap[w.heap.size]? = some a := (heap_alloc _ _ _).trans (by rw [if_neg (by simp)]; exact heap_alloc_new _ _)
theorem new2_snd (w : World) (a b : Obj) : ((w.alloc a).alloc b).heap[w.heap.size + 1]? = some b := (heap_alloc _ _ _).trans (by rw [if_pos (by simp)])
theorem new2_below (w : World) (a b : Obj) : Below w.heap.size w ((w.alloc a).alloc b) := ((Below.refl _ _).alloc (Nat.le_refl _) _).alloc (by simp) _

set_option maxRecDepth 100000 in
set_option maxHeartbeats 1000000 in
theorem eqArr_same (xs : List Int) (hx : xs.length = 24) (w : World) :
    Calls Tryd.prog 148 #[.agg (i16s xs), .agg (i16s xs)] w fun e w' => e = .returned (.bool true) ∧ Below w.heap.size w w' := by
  have Hx := Lib.hid hx
  clear hx
  go_enter Tryd.func148, Tryd.ntmps148
  go_upto_region 1 with (fail)
  refine abs_code (fun W => Below w.heap.size w W ∧ W.heap[w.heap.size]? = some (.cells (i16s xs) 124 (0, 0)) ∧ W.heap[w.heap.size + 1]? = some (.cells (i16s xs) 124 (0, 0))) ⟨new2_below _ _ _, new2_fst _ _ _, new2_snd _ _ _⟩ ?_
  rintro W ⟨hb, h0, h1⟩
  have H0 := Lib.hid h0
  have H1 := Lib.hid h1
  clear h0 h1
  go_wp2
  go_loopw [5] (fun i wr => ∃ k : Nat, k ≤ 24 ∧ i = .int .i64 k ∧ Below w.heap.size w wr ∧ wr.heap[w.heap.size]? = some (.cells (i16s xs) 124 (0, 0)) ∧ wr.heap[w.heap.size + 1]? = some (.cells (i16s xs) 124 (0, 0))) (fun i _ => 24 - (intOf i).toNat)
  case atStart => exact ⟨0, Nat.zero_le _, rfl, hb, H0.out, H1.out⟩
  case round =>
    clear hb H0 H1
    obtain ⟨k, hk, rfl, hb, h0, h1⟩ := hrel
    have H0 := Lib.hid h0
    have H1 := Lib.hid h1
    by_cases hlt : k < 24
    · have c0 := cell_of_i16s h0 k (by rw [Hx.out]; exact hlt)
      have c1 := cell_of_i16s h1 k (by rw [Hx.out]; exact hlt)
      clear h0 h1
      go_wp2
      go_quiet (fail)
      go_wp2
      go_roundw
      case rel => exact ⟨k + 1, by omega, by go_num, ⟨hb.os, hb.tape, hb.output, hb.size, hb.block⟩, H0.out, H1.out⟩
      case measure => simp [intOf]; omega
    · obtain rfl : k = 24 := by omega
      clear h0 h1
      go_wp2
      go_ret
      exact ⟨rfl, hb⟩

set_option maxRecDepth 100000 in
set_option maxHeartbeats 1000000 in
theorem eqSun_same (hs ts : List Int) (hh : hs.length = 24) (ht : ts.length = 24) (w : World) :
    Calls Tryd.prog 94 #[.agg (sunC hs ts), .agg (sunC hs ts)] w fun e w' => e = .returned (.bool true) ∧ Below w.heap.size w w' := by
  have Hh := Lib.hid hh
  have Ht := Lib.hid ht
  clear hh ht
  go_enter Tryd.func94, Tryd.ntmps94
  go_upto_region 1 with (fail)
  generalize he : w.heap.size + 1 = b1
  refine abs_code (fun W => Below w.heap.size w W ∧ W.heap[w.heap.size]? = some (.cells (sunC hs ts) 126 (0, 0)) ∧ W.heap[b1]? = some (.cells (sunC hs ts) 126 (0, 0))) ⟨new2_below _ _ _, new2_fst _ _ _, he ▸ new2_snd _ _ _⟩ ?_
  rintro W ⟨hb, h0, h1⟩
  have H0 := Lib.hid h0
  have H1 := Lib.hid h1
  clear h0 h1 he
  go_upto_region 3 with (first | (refine wpList_load_part rfl 124 _ rfl w.heap.size 0 24 rfl 126 (sunC hs ts) (0, 0) _ H0.out Tryd.underlying124 rfl info_arr (by rw [sunC_size _ _ Hh.out Ht.out]; decide) (i16s hs) (sunC_fst hs ts Hh.out) ?_) | (refine wpList_load_part rfl 124 _ rfl b1 0 24 rfl 126 (sunC hs ts) (0, 0) _ H1.out Tryd.underlying124 rfl info_arr (by rw [sunC_size _ _ Hh.out Ht.out]; decide) (i16s hs) (sunC_fst hs ts Hh.out) ?_) | (go_at_call 148; refine (eqArr_same hs Hh.out _).mono ?_; rintro e W2 ⟨rfl, hb1⟩; replace H0 := Lib.hid (below_row hb1 H0.out); replace H1 := Lib.hid (below_row hb1 H1.out); replace hb := hb.trans (hb1.mono hb.size); clear hb1))
  go_wp2_with (first | (refine wpList_load_part rfl 124 _ rfl w.heap.size 24 24 rfl 126 (sunC hs ts) (0, 0) _ H0.out Tryd.underlying124 rfl info_arr (by rw [sunC_size _ _ Hh.out Ht.out]; decide) (i16s ts) (sunC_snd hs ts Hh.out Ht.out) ?_) | (refine wpList_load_part rfl 124 _ rfl b1 24 24 rfl 126 (sunC hs ts) (0, 0) _ H1.out Tryd.underlying124 rfl info_arr (by rw [sunC_size _ _ Hh.out Ht.out]; decide) (i16s ts) (sunC_snd hs ts Hh.out Ht.out) ?_) | (go_at_call 148; refine (eqArr_same ts Ht.out _).mono ?_; rintro e W2 ⟨rfl, hb1⟩; replace H0 := Lib.hid (below_row hb1 H0.out); replace H1 := Lib.hid (below_row hb1 H1.out); replace hb := hb.trans (hb1.mono hb.size); clear hb1))
  go_ret
  exact ⟨rfl, hb⟩

end Go.Proofs.YtmniodfdoidffaaDoor

namespace Go.Proofs.YtmniodfdoidffaaDoor
open Go.ChangeShapes Go.WideShapes Go.ChangeAt Go.RowKit Go.Deep Go.Joins

attribute [local go_sem] run_store_f

/-- A sun: heights and turns. -/
abbrev Su := List Int × List Int

def suC (x : Su) : Array Value := sunC x.1 x.2

def SuWf (x : Su) : Prop := x.1.length = 24 ∧ x.2.length = 24 ∧ ∀ y ∈ x.1 ++ x.2, -32768 ≤ y ∧ y ≤ 32767

theorem suC_size {x : Su} (h : SuWf x) : (suC x).size = 48 := sunC_size _ _ h.1 h.2.1

def SunsAt (W : World) (v : Value) (ws : List Su) : Prop :=
  ∃ a cap, v = .slice a ws.length cap ∧ ws.length ≤ cap ∧ cap ≤ maxLen ∧ ∀ i x, ws[i]? = some x → ∃ g o, a = some ⟨g, o, none⟩ ∧ ∀ j v, (suC x)[j]? = some v → W.cell? ⟨g, o + i * 48 + j, none⟩ = some v

theorem suns_below {W W' : World} {v : Value} {ws : List Su} (h : SunsAt W v ws) (hb : Below W.heap.size W W') : SunsAt W' v ws := by
  obtain ⟨a, cap, h1, h2, h3, h4⟩ := h
  refine ⟨a, cap, h1, h2, h3, fun i x hx => ?_⟩
  obtain ⟨g, o, e, c0⟩ := h4 i x hx
  exact ⟨g, o, e, fun j v hv => cell_below hb (c0 j v hv)⟩

theorem sun_at {W : World} {a : Option Addr} {n cap : Nat} {ws : List Su} (h : SunsAt W (.slice a n cap) ws) {k : Nat} {x : Su} (hx : ws[k]? = some x) :
    ∃ g o, a = some ⟨g, o, none⟩ ∧ ∀ j v, (suC x)[j]? = some v → W.cell? ⟨g, o + k * 48 + j, none⟩ = some v := by
  obtain ⟨a', cap', e, _, _, h4⟩ := h
  injection e with e1 e2 e3
  subst e1
  exact h4 k x hx

set_option maxRecDepth 100000 in
theorem sun_cells {H : Type} {enc : TypeId × Value → H} {W : World} {base : Nat} {spare : Nat → Bool} {held : Bool} {fuel : Nat} {cs : List Value} {x : DataW H × List MemPlace}
    (h : DataW.trod enc Tryd.prog W base spare held fuel 128 cs = some x) (hlen : cs.length = 48) : ∃ s : Su, SuWf s ∧ cs = (suC s).toList := by
  obtain ⟨y0, y1, n, hx, _, h0, h1⟩ := trod_struct2 Tryd.underlying128 h
  have hall : ∀ i, i < 48 → ∃ n, cs[i]? = some (.int .i16 n) ∧ -32768 ≤ n ∧ n ≤ 32767 := by
    intro i hi
    by_cases c : i < 24
    · obtain ⟨n, hn, hb⟩ := open_arr h0 i c
      refine ⟨n, ?_, hb⟩
      simp only [cells_arr, List.drop_zero] at hn
      rwa [List.getElem?_take_of_lt c] at hn
    · obtain ⟨n, hn, hb⟩ := open_arr h1 (i - 24) (by omega)
      refine ⟨n, ?_, hb⟩
      simp only [cells_arr] at hn
      rw [List.getElem?_take_of_lt (by omega), List.getElem?_drop] at hn
      rwa [show 24 + (i - 24) = i by omega] at hn
  have hcs : cs = (i16s (cs.map rd16)).toList := by
    simp only [i16s, List.map_map]
    apply List.ext_getElem?
    intro i
    by_cases c : i < 48
    · obtain ⟨n, hn, _⟩ := hall i c
      rw [hn, List.getElem?_map, hn]; rfl
    · rw [List.getElem?_eq_none (by omega), List.getElem?_eq_none (by simp; omega)]
  refine ⟨((cs.map rd16).take 24, (cs.map rd16).drop 24), ⟨by simp; omega, by simp; omega, ?_⟩, ?_⟩
  · rw [List.take_append_drop]
    intro x hx
    obtain ⟨i, hi, rfl⟩ := List.mem_iff_getElem.1 hx
    simp only [List.length_map] at hi
    obtain ⟨n, hn, hb⟩ := hall i (by omega)
    rw [List.getElem?_eq_getElem hi] at hn
    simp only [List.getElem_map]
    have : cs[i] = .int .i16 n := by injection hn
    rw [this]; exact hb
  · unfold suC sunC
    rw [List.take_append_drop, ← hcs]

set_option maxRecDepth 100000 in
theorem open_suns {H : Type} {enc : TypeId × Value → H} {W : World} {b0 base : Nat} {spare : Nat → Bool} {held : Bool} {r : Reach} {v : Value} {d : DataW H} {p : List MemPlace}
    (hv : Value.okWide Tryd.prog W r b0 64 v) (h : DataW.Trod enc Tryd.prog W base spare held 64 v d p) : ∃ ws, SunsAt W v ws ∧ ∀ x ∈ ws, SuWf x := by
  obtain ⟨a0, len0, cap0, rfl⟩ := okWide_slice Tryd.underlying64 hv
  obtain ⟨fuel, hfu⟩ := h
  rcases open_slice Tryd.underlying64 hfu with ⟨hcs, _⟩ | ⟨a, len, cap, m, n, D, Pl, hcs, _, hl, hm, hmm, _, hi⟩
  · simp [Value.cells] at hcs
    obtain ⟨rfl, rfl, rfl⟩ := hcs
    exact ⟨[], ⟨none, 0, rfl, Nat.le_refl _, by unfold maxLen; omega, fun i x hx => by simp at hx⟩, fun x hx => by cases hx⟩
  · simp [Value.cells] at hcs
    obtain ⟨rfl, rfl, rfl⟩ := hcs
    have hspot : 0 < len0 → a.spot = none := by
      intro h0
      obtain ⟨cs', hcs, _⟩ := hi 0 (by rw [hmm]; split <;> omega)
      rw [cells_sunL] at hcs
      obtain ⟨_, hcl, hat⟩ := World.cells?_some hcs
      have g0 := hat 0 (by omega)
      rw [List.getElem?_eq_getElem (by omega)] at g0
      have := World.cell?_spot g0
      simpa [Addr.add] using this
    have key : ∀ i, i < len0 → ∃ x : Su, SuWf x ∧ ∃ g o, some a = some ⟨g, o, none⟩ ∧ ∀ j v, (suC x)[j]? = some v → W.cell? ⟨g, o + i * 48 + j, none⟩ = some v := by
      intro i hlt
      obtain ⟨cs', hcs, ht⟩ := hi i (by rw [hmm]; split <;> omega)
      rw [cells_sunL] at hcs
      obtain ⟨_, hcl, hat⟩ := World.cells?_some hcs
      obtain ⟨s, hs, e⟩ := sun_cells ht hcl
      have hsp := hspot (by omega)
      obtain ⟨g, o, spot⟩ := a
      obtain rfl : spot = none := hsp
      refine ⟨s, hs, g, o, rfl, fun j v hv => ?_⟩
      have hj : j < 48 := by
        have := (Array.getElem?_eq_some_iff.1 hv).1
        rwa [suC_size hs] at this
      have hg := hat j hj
      simp only [addr_add] at hg
      rw [hg, e, Array.getElem?_toList]
      exact hv
    obtain ⟨ws, hlen, hall⟩ := list_of len0 key
    subst hlen
    refine ⟨ws, ⟨some a, cap0, rfl, hl, hm, fun i x hx => (hall i x hx).2⟩, fun x hx => ?_⟩
    obtain ⟨i, hi⟩ := List.mem_iff_getElem?.1 hx
    exact (hall i x hi).1

theorem laid_allb (cs vs : Array Value) (h : cs.size = vs.size) : laid cs vs 0 = vs := by
  apply Array.ext'
  simp [laid]
  rw [← h]; simp

def suZ : Array Value := #[.int .i16 0, .int .i16 0, .int .i16 0, .int .i16 0, .int .i16 0, .int .i16 0, .int .i16 0, .int .i16 0, .int .i16 0, .int .i16 0, .int .i16 0, .int .i16 0, .int .i16 0, .int .i16 0, .int .i16 0, .int .i16 0, .int .i16 0, .int .i16 0, .int .i16 0, .int .i16 0, .int .i16 0, .int .i16 0, .int .i16 0, .int .i16 0, .int .i16 0, .int .i16 0, .int .i16 0, .int .i16 0, .int .i16 0, .int .i16 0, .int .i16 0, .int .i16 0, .int .i16 0, .int .i16 0, .int .i16 0, .int .i16 0, .int .i16 0, .int .i16 0, .int .i16 0, .int .i16 0, .int .i16 0, .int .i16 0, .int .i16 0, .int .i16 0, .int .i16 0, .int .i16 0, .int .i16 0, .int .i16 0]

set_option maxRecDepth 100000 in
theorem info_suz : (Tryd.prog.info? 126).map (fun i => (i.zero, i.size, i.bytes)) = some (some (.agg suZ), 48, 96) := by kernel_rfl

theorem make_suns (n : Nat) (hn : n ≤ 1048576) (w : World) : (Instr.makeSlice 69 (.int .i64 (n : Int)) (.int .i64 (n : Int))).run Tryd.prog w = .ok (.slice (some ⟨w.heap.size, 0, none⟩) n n) (w.alloc (.cells (madeCells suZ (n * 48)) 126)) := by
  obtain ⟨i0, hi, hz0, hz1, hz2⟩ := info_parts info_suz
  have h := run_make (P := Tryd.prog) w 69 126 i0 _ Tryd.underlying69 hi hz0 .i64 .i64 (n : Int) (n : Int) (by omega) (Int.le_refl _) (by rw [hz2]; omega) (by omega)
  rw [hz1] at h
  simpa [Value.cells] using h

theorem row_su {W : World} {g : Nat} {cur : Array Value} {T : TypeId} {k : Nat} {x : Su} (hg : W.heap[g]? = some (.cells cur T (0, 0))) (he : cur.extract (k * 48) (k * 48 + 48) = suC x) : ∀ j v, (suC x)[j]? = some v → W.cell? ⟨g, 0 + k * 48 + j, none⟩ = some v := by
  intro j v hv
  rw [Nat.zero_add, cell_of_row W _ _ _ _ _ hg]
  rw [← he, Array.getElem?_extract] at hv
  split at hv
  · exact hv
  · cases hv

/-- A list of suns in a block of its own. -/
def SunsOwn (w : World) (b : Nat) (v : Value) (ws : List Su) : Prop :=
  ∃ g cur, v = .slice (some ⟨g, 0, none⟩) ws.length ws.length ∧ ws.length ≤ 1048576 ∧ b ≤ g ∧ w.heap[g]? = some (.cells cur 126 (0, 0)) ∧ cur.size = ws.length * 48 ∧ ∀ j x, ws[j]? = some x → cur.extract (j * 48) (j * 48 + 48) = suC x

theorem sunsOwn_at {w : World} {b : Nat} {v : Value} {ws : List Su} (h : SunsOwn w b v ws) : SunsAt w v ws := by
  obtain ⟨g, cur, rfl, hl, _, hg, _, hx⟩ := h
  exact ⟨_, _, rfl, Nat.le_refl _, by unfold maxLen; omega, fun i x hi => ⟨g, 0, rfl, row_su hg (hx i x hi)⟩⟩

theorem sunsOwn_below {w w' : World} {b : Nat} {v : Value} {ws : List Su} (h : SunsOwn w b v ws) (hb : Below w.heap.size w w') : SunsOwn w' b v ws := by
  obtain ⟨g, cur, rfl, hl, hbg, hg, hs, hx⟩ := h
  exact ⟨g, cur, rfl, hl, hbg, below_row hb hg, hs, hx⟩

set_option maxRecDepth 100000 in
set_option maxHeartbeats 4000000 in
theorem toSunS_own (sv : Value) (ws : List Su) (hlen : ws.length ≤ 1048576) (hwf : ∀ x ∈ ws, SuWf x) (w : World) (hws : SunsAt w sv ws) :
    Calls Tryd.prog 40 #[sv] w fun e w' => (∃ v, e = .returned v ∧ SunsOwn w' w.heap.size v ws) ∧ Below w.heap.size w w' := by
  have HW := Lib.hid hws
  have HF := Lib.hid hwf
  obtain ⟨a, cap, rfl, hl1, hl2, _⟩ := hws
  unfold maxLen at hl2
  generalize hn : ws.length = n at *
  have HN := Lib.hid hn
  have hmk := fun w => make_suns n hlen w
  have zw : IntKind.i64.wrap (n : Int) = (n : Int) := by rw [IntWalk.i64_in _ (by omega)]
  clear hn hwf
  go_enter Tryd.func40, Tryd.ntmps40
  go_wp2
  go_loopw [4] (fun i wr => ∃ k : Nat, k ≤ n ∧ i = .int .i64 k ∧ Below w.heap.size w wr ∧ ∃ cur, wr.heap[w.heap.size]? = some (.cells cur 126 (0, 0)) ∧ cur.size = n * 48 ∧ ∀ j x, j < k → ws[j]? = some x → cur.extract (j * 48) (j * 48 + 48) = suC x) (fun i _ => n - (intOf i).toNat)
  case atStart => exact ⟨0, Nat.zero_le _, rfl, (Below.refl _ _).alloc (Nat.le_refl _) _, _, heap_alloc_new _ _, size_madeCells _ _, fun j x hj => by omega⟩
  case round =>
    clear hmk
    obtain ⟨k, hk, rfl, hb, cur, hg, hs, hp⟩ := hrel
    have HP := Lib.hid hp
    have HG := Lib.hid hg
    have hgl := row_lt hg
    clear hp hg
    by_cases hlt : k < n
    · have hx : ws[k]? = some (ws[k]'(by rw [HN.out]; exact hlt)) := List.getElem?_eq_getElem _
      obtain ⟨g, o, rfl, hc⟩ := sun_at (suns_below HW.out hb) hx
      have HC := Lib.hid hc
      have HV := Lib.hid (HF.out _ (List.mem_of_getElem? hx))
      generalize (ws[k]'(by rw [HN.out]; exact hlt)) = x at *
      have HX := Lib.hid hx
      have hks : k * 48 + 48 ≤ cur.size := by omega
      have z1 : (k : Int) < (n : Int) := by omega
      have z2 : (0 : Int) ≤ (k : Int) := by omega
      have HSZ := Lib.hid (suC_size HV.out)
      clear hc hx
      go_wp2_with (first | (refine wpList_load_cells rfl 128 _ rfl g (o + k * 48) 48 rfl _ Tryd.underlying128 rfl info_sunL (suC x) HSZ.out HC.out ?_) | (go_at_call 90; refine (toSun_any x.1 x.2 HV.out.1 HV.out.2.1 _).mono ?_; rintro e W1 ⟨rfl, hb1⟩) | (refine wpList_store_part rfl 126 _ _ rfl w.heap.size (k * 48) (suC x) rfl rfl 126 cur (below_row hb1 HG.out) (by rw [HSZ.out]; exact info_sun) (by rw [HSZ.out]; exact hks) (i16s_one _) ?_))
      go_roundw
      case rel =>
        have hks' : k * 48 + (suC x).size ≤ cur.size := by rw [HSZ.out]; exact hks
        refine ⟨k + 1, by omega, by go_num, below_setRow (hb.trans (hb1.mono hb.size)) (Nat.le_refl _) _, _, setRow_heap _ _ _ _ _ _ (below_row hb1 HG.out), by rw [laid_size _ _ _ hks']; exact hs, fun j y hj hy => ?_⟩
        by_cases e : j = k
        · subst e
          rw [HX.out] at hy
          obtain rfl := Option.some.inj hy
          have h := laid_here cur (suC x) (j * 48) hks'
          rwa [HSZ.out] at h
        · rw [laid_there cur (suC x) (k * 48) (j * 48) 48 hks' (by omega)]
          exact HP.out j y (by omega) hy
      case measure => simp [intOf]; omega
    · obtain rfl : k = n := by omega
      have HR : Hid (SunsOwn wr w.heap.size (.slice (some ⟨w.heap.size, 0, none⟩) k k) ws) := by
        refine ⟨w.heap.size, cur, by rw [HN.out], by rw [HN.out]; exact hlen, Nat.le_refl _, HG.out, by rw [HN.out]; exact hs, fun j x hx => HP.out j x ?_ hx⟩
        have := (List.getElem?_eq_some_iff.1 hx).1
        have := HN.out
        omega
      go_wp2
      go_ret
      exact ⟨⟨_, rfl, HR.out⟩, hb⟩

set_option maxRecDepth 100000 in
set_option maxHeartbeats 4000000 in
theorem eqSunS_any (v1 v2 : Value) (ws : List Su) (hwf : ∀ x ∈ ws, SuWf x) (w : World) (hv1 : SunsAt w v1 ws) (hv2 : SunsAt w v2 ws) :
    Calls Tryd.prog 43 #[v1, v2] w fun e w' => e = .returned (.bool true) ∧ Below w.heap.size w w' := by
  have HW1 := Lib.hid hv1
  have HW2 := Lib.hid hv2
  have HF := Lib.hid hwf
  obtain ⟨a1, c1, rfl, hl1, hm1, _⟩ := hv1
  obtain ⟨a2, c2, rfl, hl2, hm2, _⟩ := hv2
  unfold maxLen at hm1 hm2
  generalize hn : ws.length = n at *
  have HN := Lib.hid hn
  have zn : ((n : Int) != (n : Int)) = false := by simp
  clear hn hwf
  go_enter Tryd.func43, Tryd.ntmps43
  go_wp2
  go_loopw [5] (fun i wr => ∃ k : Nat, k ≤ n ∧ i = .int .i64 k ∧ Below w.heap.size w wr) (fun i _ => n - (intOf i).toNat)
  case atStart => exact ⟨0, Nat.zero_le _, rfl, Below.refl _ _⟩
  case round =>
    obtain ⟨k, hk, rfl, hb⟩ := hrel
    by_cases hlt : k < n
    · have hx : ws[k]? = some (ws[k]'(by rw [HN.out]; exact hlt)) := List.getElem?_eq_getElem _
      obtain ⟨g1, o1, rfl, hc1⟩ := sun_at (suns_below HW1.out hb) hx
      obtain ⟨g2, o2, rfl, hc2⟩ := sun_at (suns_below HW2.out hb) hx
      have HC1 := Lib.hid hc1
      have HC2 := Lib.hid hc2
      have HV := Lib.hid (HF.out _ (List.mem_of_getElem? hx))
      generalize (ws[k]'(by rw [HN.out]; exact hlt)) = x at *
      have HSZ := Lib.hid (suC_size HV.out)
      have z1 : (k : Int) < (n : Int) := by omega
      have z2 : (0 : Int) ≤ (k : Int) := by omega
      have z3 : decide ((k : Int) < (n : Int)) = true := decide_eq_true z1
      clear hc1 hc2 hx
      go_wp2
      refine wp_region_held_drew (S := (fun W => (∀ j v, (suC x)[j]? = some v → W.cell? ⟨g1, o1 + k * 48 + j, none⟩ = some v) ∧ (∀ j v, (suC x)[j]? = some v → W.cell? ⟨g2, o2 + k * 48 + j, none⟩ = some v) ∧ Below w.heap.size w W)) (by kernel_rfl) ⟨HC1.out, HC2.out, hb.drew⟩ (fun hHeld => ?_)
      refine take_op (i := 0) (d := 17) (v := ?_) rfl rfl (by kernel_rfl) (by kernel_rfl) (by kernel_rfl) (fun _ _ _ h => h) (Or.inl ⟨by rfl, ?hy0u1⟩) hHeld ?rest0u1
      case hy0u1 =>
        intro w' hS'
        go_simp
        try with_reducible rfl
      simp only [List.setIfInBounds_toArray, List.set_cons_zero, List.set_cons_succ]
      refine take_op (i := 1) (d := 18) (v := ?_) rfl rfl (by kernel_rfl) (by kernel_rfl) (by kernel_rfl) (fun _ _ _ h => h) (Or.inl ⟨by rfl, ?hy1u2⟩) hHeld ?rest1u2
      case hy1u2 =>
        intro w' hS'
        go_simp
        try with_reducible rfl
      simp only [List.setIfInBounds_toArray, List.set_cons_zero, List.set_cons_succ]
      refine take_op (i := 2) (d := 19) (v := ?_) rfl rfl (by kernel_rfl) (by kernel_rfl) (by kernel_rfl) (fun _ _ _ h => h) (Or.inl ⟨by rfl, ?hy2u3⟩) hHeld ?rest2u3
      case hy2u3 =>
        intro w' hS'
        go_simp
        try with_reducible rfl
      simp only [List.setIfInBounds_toArray, List.set_cons_zero, List.set_cons_succ]
      refine take_op (i := 3) (d := 20) (v := .agg (suC x)) rfl rfl (by kernel_rfl) (by kernel_rfl) (by kernel_rfl) (fun _ _ _ h => h) (yields_cells (by rfl) 126 (.tmp 19) (by rfl) g1 (o1 + k * 48) 48 (by rfl) _ Tryd.underlying126 rfl info_sun (suC x) HSZ.out (fun W h => h.1)) hHeld ?_
      simp only [List.setIfInBounds_toArray, List.set_cons_zero, List.set_cons_succ]
      refine take_op (i := 4) (d := 21) (v := ?_) rfl rfl (by kernel_rfl) (by kernel_rfl) (by kernel_rfl) (fun _ _ _ h => h) (Or.inl ⟨by rfl, ?hy4u4⟩) hHeld ?rest4u4
      case hy4u4 =>
        intro w' hS'
        go_simp
        try with_reducible rfl
      simp only [List.setIfInBounds_toArray, List.set_cons_zero, List.set_cons_succ]
      refine take_op (i := 5) (d := 22) (v := ?_) rfl rfl (by kernel_rfl) (by kernel_rfl) (by kernel_rfl) (fun _ _ _ h => h) (Or.inl ⟨by rfl, ?hy5u5⟩) hHeld ?rest5u5
      case hy5u5 =>
        intro w' hS'
        go_simp
        try with_reducible rfl
      simp only [List.setIfInBounds_toArray, List.set_cons_zero, List.set_cons_succ]
      refine take_op (i := 6) (d := 23) (v := ?_) rfl rfl (by kernel_rfl) (by kernel_rfl) (by kernel_rfl) (fun _ _ _ h => h) (Or.inl ⟨by rfl, ?hy6u6⟩) hHeld ?rest6u6
      case hy6u6 =>
        intro w' hS'
        go_simp
        try with_reducible rfl
      simp only [List.setIfInBounds_toArray, List.set_cons_zero, List.set_cons_succ]
      refine take_op (i := 7) (d := 24) (v := .agg (suC x)) rfl rfl (by kernel_rfl) (by kernel_rfl) (by kernel_rfl) (fun _ _ _ h => h) (yields_cells (by rfl) 126 (.tmp 23) (by rfl) g2 (o2 + k * 48) 48 (by rfl) _ Tryd.underlying126 rfl info_sun (suC x) HSZ.out (fun W h => h.2.1)) hHeld ?_
      simp only [List.setIfInBounds_toArray, List.set_cons_zero, List.set_cons_succ]
      refine wpAnyH_ready (rs := [8]) (by kernel_rfl) (by simp) ?_
      refine AllReadyH.cons rfl (fun K hK => ?_) AllReadyH.nil
      go_simp
      refine (eqSun_same x.1 x.2 HV.out.1 HV.out.2.1 _).mono ?_
      rintro e W1 ⟨rfl, hb1⟩
      refine hK.out _ _ (⟨fun j v hv => cell_below hb1 (hHeld.1 j v hv), fun j v hv => cell_below hb1 (hHeld.2.1 j v hv), hHeld.2.2.trans (hb1.mono hHeld.2.2.size)⟩) (fun hHeld2 => ?_)
      clear hK K
      replace hHeld := hHeld2
      clear hHeld2
      refine take_op (i := 9) (d := 26) (v := ?_) rfl rfl (by kernel_rfl) (by kernel_rfl) (by kernel_rfl) (fun _ _ _ h => h) (Or.inl ⟨by rfl, ?hy9u7⟩) hHeld ?rest9u7
      case hy9u7 =>
        intro w' hS'
        go_simp
        try with_reducible rfl
      simp only [List.setIfInBounds_toArray, List.set_cons_zero, List.set_cons_succ]
      refine wpAnyH_done (by kernel_rfl) ?_ _
      have hbx := hHeld.2.2
      clear hHeld hb HC1 HC2
      go_wp2
      go_roundw
      case rel => exact ⟨k + 1, by omega, by go_num, hbx⟩
      case measure => simp [intOf]; omega
    · obtain rfl : k = n := by omega
      go_wp2
      go_ret
      exact ⟨rfl, hb⟩

set_option maxRecDepth 100000 in
set_option maxHeartbeats 1000000 in
theorem szSunS_any (a : Option Addr) (n cap : Nat) (left : Int) (hn : n ≤ 9223372036854775807) (h0 : 0 ≤ left) (h1 : left ≤ 1048576) (w : World) :
    Calls Tryd.prog 38 #[.slice a n cap, .int .i64 left] w fun e w' => e = .returned (.int .i64 (leftI n left)) ∧ w = w' := by
  unfold leftI
  by_cases h : left - (n : Int) < 0
  · rw [if_pos h]
    go_enter Tryd.func38, Tryd.ntmps38
    go_wp2
    go_ret
    exact ⟨rfl, rfl⟩
  · rw [if_neg h]
    go_enter Tryd.func38, Tryd.ntmps38
    go_wp2
    go_ret
    exact ⟨rfl, rfl⟩

end Go.Proofs.YtmniodfdoidffaaDoor

namespace Go.Proofs.YtmniodfdoidffaaDoor
open Go.ChangeShapes Go.WideShapes Go.ChangeAt Go.RowKit Go.Deep Go.Joins

attribute [local go_sem] run_store_f

/-- A sun lies at a place of a block. -/
def SunAt (W : World) (b o : Nat) (hs ts : List Int) : Prop := ∀ j v, (sunC hs ts)[j]? = some v → W.cell? ⟨b, o + j, none⟩ = some v

theorem sunAt_below {W W' : World} {b o : Nat} {hs ts : List Int} (hb : Below W.heap.size W W') (h : SunAt W b o hs ts) : SunAt W' b o hs ts := fun j v hv => cell_below hb (h j v hv)

theorem at_sun_h {w : World} {b o : Nat} {hs ts : List Int} (hg : SunAt w b o hs ts) (hh : hs.length = 24) (k : Nat) (hk : k < 24) : w.cell? ⟨b, o + k, none⟩ = some (.int .i16 (hs[k]?.getD 0)) := by
  apply hg
  rw [sunC, i16s_get _ _ (by simp; omega), List.getElem?_append_left (by omega)]

theorem at_sun_t {w : World} {b o : Nat} {hs ts : List Int} (hg : SunAt w b o hs ts) (hh : hs.length = 24) (ht : ts.length = 24) (k : Nat) (hk : k < 24) : w.cell? ⟨b, o + 24 + k, none⟩ = some (.int .i16 (ts[k]?.getD 0)) := by
  rw [Nat.add_assoc]
  apply hg
  rw [sunC, i16s_get _ _ (by simp; omega), List.getElem?_append_right (by omega)]
  congr 4; omega

set_option maxRecDepth 100000 in
set_option maxHeartbeats 1000000 in
theorem l01Ok_o (b o : Nat) (hs ts : List Int) (hh : hs.length = 24) (ht : ts.length = 24) (rb : ∀ x ∈ hs ++ ts, -32768 ≤ x ∧ x ≤ 32767) (w : World) (hg : SunAt w b o hs ts) :
    Calls Tryd.prog 140 #[.pointer (some ⟨b, o, none⟩)] w fun e w' => e = .returned (.bool (okB hs ts)) ∧ w = w' := by
  have Hh := Lib.hid hh
  have Ht := Lib.hid ht
  have Hg := Lib.hid hg
  have Rb := Lib.hid rb
  clear hh ht hg rb
  go_enter Tryd.func140, Tryd.ntmps140
  go_wp2
  go_loop [3] (fun i => ∃ k : Nat, k ≤ 24 ∧ i = .int .i64 k ∧ Hid (∀ j, j < k → inB (hs[j]?.getD 0) (-64) 64 = true ∧ inB (ts[j]?.getD 0) 0 255 = true)) (fun i => 24 - (intOf i).toNat)
  case atStart => exact ⟨0, Nat.zero_le _, rfl, Lib.hid (fun j h => absurd h (by omega))⟩
  case round =>
    obtain ⟨k, hk, rfl, hj⟩ := hrel
    by_cases hlt : k < 24
    · have c0 := at_sun_h Hg.out Hh.out k hlt
      have c1 := at_sun_t Hg.out Hh.out Ht.out k hlt
      have hxb := rb_get (fun x hx => Rb.out x (List.mem_append_left ts hx)) k
      have hyb := rb_get (fun x hx => Rb.out x (List.mem_append_right hs hx)) k
      generalize hA : hs[k]?.getD 0 = x at *
      generalize hB : ts[k]?.getD 0 = y at *
      have HA := Lib.hid hA
      have HB := Lib.hid hB
      clear hA hB
      obtain ⟨hx0, hx1⟩ := hxb
      obtain ⟨hy0, hy1⟩ := hyb
      by_cases h1 : inB x (-64) 64 = true
      · by_cases h2 : inB y 0 255 = true
        · go_wp2_with (first | (go_at_call 187; refine (l01Height_any _ _).mono ?_; rintro e w' ⟨rfl, rfl⟩) | (go_at_call 88; refine (l01Faced_any _ _).mono ?_; rintro e w' ⟨rfl, rfl⟩))
          go_round
          case rel =>
            refine ⟨k + 1, by omega, by go_num, Lib.hid fun j hj' => ?_⟩
            by_cases e : j = k
            · subst e; rw [HA.out, HB.out]; exact ⟨h1, h2⟩
            · exact hj.out j (by omega)
          case measure => simp [intOf]; omega
        · have h2' : inB y 0 255 = false := by simpa using h2
          have hno := Lib.hid (okB_false Hh.out Ht.out k hlt (.inr (by rw [HB.out]; exact h2')))
          clear h2
          go_wp2_with (first | (go_at_call 187; refine (l01Height_any _ _).mono ?_; rintro e w' ⟨rfl, rfl⟩) | (go_at_call 88; refine (l01Faced_any _ _).mono ?_; rintro e w' ⟨rfl, rfl⟩))
          go_ret
          rw [hno.out]; exact ⟨rfl, rfl⟩
      · have h1' : inB x (-64) 64 = false := by simpa using h1
        have hno := Lib.hid (okB_false Hh.out Ht.out k hlt (.inl (by rw [HA.out]; exact h1')))
        clear h1
        go_wp2_with (first | (go_at_call 187; refine (l01Height_any _ _).mono ?_; rintro e w' ⟨rfl, rfl⟩) | (go_at_call 88; refine (l01Faced_any _ _).mono ?_; rintro e w' ⟨rfl, rfl⟩))
        go_ret
        rw [hno.out]; exact ⟨rfl, rfl⟩
    · obtain rfl : k = 24 := by omega
      have hyes := Lib.hid ((okB_iff hs ts Hh.out Ht.out).2 hj.out)
      go_wp2
      go_ret
      rw [hyes.out]; exact ⟨rfl, rfl⟩

set_option maxRecDepth 100000 in
set_option maxHeartbeats 1000000 in
theorem l01Fall_oup (b o : Nat) (hs ts : List Int) (hh : hs.length = 24) (ht : ts.length = 24) (hour facing : Int) (hr0 : 0 ≤ hour) (hr1 : hour < 24) (hf0 : 0 ≤ facing) (hf1 : facing ≤ 255) (hx1 : atH hs hour ≤ 64) (hy0 : 0 ≤ atH ts hour) (hy1 : atH ts hour ≤ 255) (hpos : 0 < atH hs hour) (l : Nat) (hl : fmul (cosB (atH hs hour)) (cosB (atH ts hour - facing)) = l) (oo : Ordering) (ho : FloatKind.f32.format.order l 0 = some oo) (w : World) (hg : SunAt w b o hs ts) :
    Calls Tryd.prog 188 #[.pointer (some ⟨b, o, none⟩), .int .i64 hour, .int .i64 facing] w fun e w' => e = .returned (.float .f32 (litB l)) ∧ Below w.heap.size w w' := by
  have hm := (mul_ok (cosB_num (atH hs hour)) (cosB_num (atH ts hour - facing))).1
  rw [hl] at hm
  have r : ∀ t w, (binOp .mul t (.float .f32 (cosB (atH hs hour))) (.float .f32 (cosB (atH ts hour - facing)))).run Tryd.prog w = .ok (.float .f32 l) w := fun t w => run_float_arith w .mul t .f32 _ _ _ hm
  clear hm hl
  obtain ⟨k, rfl⟩ := Int.eq_ofNat_of_zero_le hr0
  have hk : k < 24 := by omega
  have ea : hs[k]?.getD 0 = atH hs (k : Int) := by unfold atH; rw [Int.toNat_natCast]
  have eb : ts[k]?.getD 0 = atH ts (k : Int) := by unfold atH; rw [Int.toNat_natCast]
  generalize atH hs (k : Int) = x at *
  generalize atH ts (k : Int) = y at *
  have Hx := Lib.hid ea
  have Hy := Lib.hid eb
  have hc1 := at_sun_h hg hh k hk
  have hc2 := at_sun_t hg hh ht k hk
  rw [Hx.out] at hc1
  rw [Hy.out] at hc2
  clear hg hh ht ea eb
  have HO := Lib.hid ho
  clear ho
  have q1 := i64_small x (by omega) (by omega)
  have q2 := i64_small y (by omega) (by omega)
  have q3 := i64_small (y - facing) (by omega) (by omega)
  go_enter Tryd.func188, Tryd.ntmps188
  go_wp2
  refine wp_region_held_drew (S := (fun W => W.cell? ⟨b, o + k, none⟩ = some (.int .i16 x) ∧ W.cell? ⟨b, o + 24 + k, none⟩ = some (.int .i16 y) ∧ Below w.heap.size w W)) (by kernel_rfl) ⟨hc1, hc2, (Below.refl _ _).drew⟩ (fun hHeld => ?_)
  refine take_at (i := 0) (d := 15) (v := ?_) rfl rfl (by kernel_rfl) (by kernel_rfl) (by kernel_rfl) (fun _ _ _ h => h) (Or.inl ⟨by rfl, ?hy0u5⟩) hHeld ?rest0u5
  case hy0u5 =>
    intro w' hS'
    obtain ⟨s1, s2, _⟩ := hS'
    go_simp
    try with_reducible rfl
  simp only [List.setIfInBounds_toArray, List.set_cons_zero, List.set_cons_succ]
  refine take_at (i := 1) (d := 16) (v := ?_) rfl rfl (by kernel_rfl) (by kernel_rfl) (by kernel_rfl) (fun _ _ _ h => h) (Or.inl ⟨by rfl, ?hy1u6⟩) hHeld ?rest1u6
  case hy1u6 =>
    intro w' hS'
    obtain ⟨s1, s2, _⟩ := hS'
    go_simp
    try with_reducible rfl
  simp only [List.setIfInBounds_toArray, List.set_cons_zero, List.set_cons_succ]
  refine take_at (i := 2) (d := 17) (v := ?_) rfl rfl (by kernel_rfl) (by kernel_rfl) (by kernel_rfl) (fun _ _ _ h => h) (Or.inl ⟨by rfl, ?hy2u7⟩) hHeld ?rest2u7
  case hy2u7 =>
    intro w' hS'
    obtain ⟨s1, s2, _⟩ := hS'
    go_simp
    try with_reducible rfl
  simp only [List.setIfInBounds_toArray, List.set_cons_zero, List.set_cons_succ]
  refine take_at (i := 3) (d := 18) (v := ?_) rfl rfl (by kernel_rfl) (by kernel_rfl) (by kernel_rfl) (fun _ _ _ h => h) (Or.inl ⟨by rfl, ?hy3u8⟩) hHeld ?rest3u8
  case hy3u8 =>
    intro w' hS'
    obtain ⟨s1, s2, _⟩ := hS'
    go_simp
    try with_reducible rfl
  simp only [List.setIfInBounds_toArray, List.set_cons_zero, List.set_cons_succ]
  refine take_at (i := 4) (d := 19) (v := ?_) rfl rfl (by kernel_rfl) (by kernel_rfl) (by kernel_rfl) (fun _ _ _ h => h) (Or.inl ⟨by rfl, ?hy4u9⟩) hHeld ?rest4u9
  case hy4u9 =>
    intro w' hS'
    obtain ⟨s1, s2, _⟩ := hS'
    go_simp
    try with_reducible rfl
  simp only [List.setIfInBounds_toArray, List.set_cons_zero, List.set_cons_succ]
  refine take_at (i := 5) (d := 20) (v := ?_) rfl rfl (by kernel_rfl) (by kernel_rfl) (by kernel_rfl) (fun _ _ _ h => h) (Or.inl ⟨by rfl, ?hy5u10⟩) hHeld ?rest5u10
  case hy5u10 =>
    intro w' hS'
    obtain ⟨s1, s2, _⟩ := hS'
    go_simp
    try with_reducible rfl
  simp only [List.setIfInBounds_toArray, List.set_cons_zero, List.set_cons_succ]
  refine take_at (i := 6) (d := 21) (v := ?_) rfl rfl (by kernel_rfl) (by kernel_rfl) (by kernel_rfl) (fun _ _ _ h => h) (Or.inl ⟨by rfl, ?hy6u11⟩) hHeld ?rest6u11
  case hy6u11 =>
    intro w' hS'
    obtain ⟨s1, s2, _⟩ := hS'
    go_simp
    try with_reducible rfl
  simp only [List.setIfInBounds_toArray, List.set_cons_zero, List.set_cons_succ]
  refine take_at (i := 8) (d := 23) (v := ?_) rfl rfl (by kernel_rfl) (by kernel_rfl) (by kernel_rfl) (fun _ _ _ h => h) (Or.inl ⟨by rfl, ?hy8u12⟩) hHeld ?rest8u12
  case hy8u12 =>
    intro w' hS'
    obtain ⟨s1, s2, _⟩ := hS'
    go_simp
    try with_reducible rfl
  simp only [List.setIfInBounds_toArray, List.set_cons_zero, List.set_cons_succ]
  refine take_at (i := 9) (d := 24) (v := ?_) rfl rfl (by kernel_rfl) (by kernel_rfl) (by kernel_rfl) (fun _ _ _ h => h) (Or.inl ⟨by rfl, ?hy9u13⟩) hHeld ?rest9u13
  case hy9u13 =>
    intro w' hS'
    obtain ⟨s1, s2, _⟩ := hS'
    go_simp
    try with_reducible rfl
  simp only [List.setIfInBounds_toArray, List.set_cons_zero, List.set_cons_succ]
  refine take_at (i := 10) (d := 25) (v := ?_) rfl rfl (by kernel_rfl) (by kernel_rfl) (by kernel_rfl) (fun _ _ _ h => h) (Or.inl ⟨by rfl, ?hy10u14⟩) hHeld ?rest10u14
  case hy10u14 =>
    intro w' hS'
    obtain ⟨s1, s2, _⟩ := hS'
    go_simp
    try with_reducible rfl
  simp only [List.setIfInBounds_toArray, List.set_cons_zero, List.set_cons_succ]
  refine take_at (i := 11) (d := 26) (v := ?_) rfl rfl (by kernel_rfl) (by kernel_rfl) (by kernel_rfl) (fun _ _ _ h => h) (Or.inl ⟨by rfl, ?hy11u15⟩) hHeld ?rest11u15
  case hy11u15 =>
    intro w' hS'
    obtain ⟨s1, s2, _⟩ := hS'
    go_simp
    try with_reducible rfl
  simp only [List.setIfInBounds_toArray, List.set_cons_zero, List.set_cons_succ]
  refine take_at (i := 12) (d := 27) (v := ?_) rfl rfl (by kernel_rfl) (by kernel_rfl) (by kernel_rfl) (fun _ _ _ h => h) (Or.inl ⟨by rfl, ?hy12u16⟩) hHeld ?rest12u16
  case hy12u16 =>
    intro w' hS'
    obtain ⟨s1, s2, _⟩ := hS'
    go_simp
    try with_reducible rfl
  simp only [List.setIfInBounds_toArray, List.set_cons_zero, List.set_cons_succ]
  refine take_at (i := 13) (d := 28) (v := ?_) rfl rfl (by kernel_rfl) (by kernel_rfl) (by kernel_rfl) (fun _ _ _ h => h) (Or.inl ⟨by rfl, ?hy13u17⟩) hHeld ?rest13u17
  case hy13u17 =>
    intro w' hS'
    obtain ⟨s1, s2, _⟩ := hS'
    go_simp
    try with_reducible rfl
  simp only [List.setIfInBounds_toArray, List.set_cons_zero, List.set_cons_succ]
  refine take_at (i := 14) (d := 29) (v := ?_) rfl rfl (by kernel_rfl) (by kernel_rfl) (by kernel_rfl) (fun _ _ _ h => h) (Or.inl ⟨by rfl, ?hy14u18⟩) hHeld ?rest14u18
  case hy14u18 =>
    intro w' hS'
    obtain ⟨s1, s2, _⟩ := hS'
    go_simp
    try with_reducible rfl
  simp only [List.setIfInBounds_toArray, List.set_cons_zero, List.set_cons_succ]
  refine take_at (i := 15) (d := 30) (v := ?_) rfl rfl (by kernel_rfl) (by kernel_rfl) (by kernel_rfl) (fun _ _ _ h => h) (Or.inl ⟨by rfl, ?hy15u19⟩) hHeld ?rest15u19
  case hy15u19 =>
    intro w' hS'
    obtain ⟨s1, s2, _⟩ := hS'
    go_simp
    try with_reducible rfl
  simp only [List.setIfInBounds_toArray, List.set_cons_zero, List.set_cons_succ]
  refine take_at (i := 16) (d := 31) (v := ?_) rfl rfl (by kernel_rfl) (by kernel_rfl) (by kernel_rfl) (fun _ _ _ h => h) (Or.inl ⟨by rfl, ?hy16u20⟩) hHeld ?rest16u20
  case hy16u20 =>
    intro w' hS'
    obtain ⟨s1, s2, _⟩ := hS'
    go_simp
    try with_reducible rfl
  simp only [List.setIfInBounds_toArray, List.set_cons_zero, List.set_cons_succ]
  refine wpAnyH_ready (rs := [7]) (by kernel_rfl) (by simp) ?_
  refine AllReadyH.cons rfl (fun K hK => ?_) AllReadyH.nil
  go_simp
  refine (l01Cosine_any _ _).mono ?_
  rintro e w' ⟨rfl, rfl⟩
  refine hK.out _ _ (hHeld) (fun hHeld2 => ?_)
  clear hK K
  replace hHeld := hHeld2
  clear hHeld2
  refine wpAnyH_ready (rs := [17]) (by kernel_rfl) (by simp) ?_
  refine AllReadyH.cons rfl (fun K hK => ?_) AllReadyH.nil
  go_simp
  refine (l01Cosine_any _ _).mono ?_
  rintro e w' ⟨rfl, rfl⟩
  refine hK.out _ _ (hHeld) (fun hHeld2 => ?_)
  clear hK K
  replace hHeld := hHeld2
  clear hHeld2
  refine take_at (i := 18) (d := 33) (v := ?_) rfl rfl (by kernel_rfl) (by kernel_rfl) (by kernel_rfl) (fun _ _ _ h => h) (Or.inl ⟨by rfl, ?hy18u21⟩) hHeld ?rest18u21
  case hy18u21 =>
    intro w' hS'
    obtain ⟨s1, s2, _⟩ := hS'
    go_simp
    try with_reducible rfl
  simp only [List.setIfInBounds_toArray, List.set_cons_zero, List.set_cons_succ]
  refine take_at (i := 19) (d := 7) (v := ?_) rfl rfl (by kernel_rfl) (by kernel_rfl) (by kernel_rfl) (fun _ _ _ h => h) (Or.inl ⟨by rfl, ?hy19u22⟩) hHeld ?rest19u22
  case hy19u22 =>
    intro w' hS'
    obtain ⟨s1, s2, _⟩ := hS'
    go_simp
    try with_reducible rfl
  simp only [List.setIfInBounds_toArray, List.set_cons_zero, List.set_cons_succ]
  refine wpAnyH_done (by kernel_rfl) ?_ _
  clear q1 q2 q3
  have ho := HO.out
  cases oo
  · have HL := Lib.hid (litB_no ho (by decide))
    go_wp2
    go_ret
    exact ⟨ret_f32 HL.out.symm, hHeld.2.2⟩
  · have HL := Lib.hid (litB_no ho (by decide))
    go_wp2
    go_ret
    exact ⟨ret_f32 HL.out.symm, hHeld.2.2⟩
  · have HL := Lib.hid (litB_gt ho)
    go_wp2
    go_ret
    exact ⟨ret_f32 HL.out.symm, hHeld.2.2⟩

set_option maxRecDepth 100000 in
set_option maxHeartbeats 1000000 in
theorem l01Fall_o (b o : Nat) (hs ts : List Int) (hh : hs.length = 24) (ht : ts.length = 24) (hour facing : Int) (hr0 : 0 ≤ hour) (hr1 : hour < 24) (hf0 : 0 ≤ facing) (hf1 : facing ≤ 255) (hx1 : atH hs hour ≤ 64) (hy0 : 0 ≤ atH ts hour) (hy1 : atH ts hour ≤ 255) (w : World) (hg : SunAt w b o hs ts) :
    Calls Tryd.prog 188 #[.pointer (some ⟨b, o, none⟩), .int .i64 hour, .int .i64 facing] w fun e w' => e = .returned (.float .f32 (fallOf hs ts hour facing)) ∧ Below w.heap.size w w' := by
  by_cases hpos : 0 < atH hs hour
  · obtain ⟨oo, ho⟩ := order_some (mul_ok (cosB_num (atH hs hour)) (cosB_num (atH ts hour - facing))).2 zero_fin
    have e : fallOf hs ts hour facing = litB (fmul (cosB (atH hs hour)) (cosB (atH ts hour - facing))) := by
      unfold fallOf fallB
      rw [if_pos hpos]
    rw [e]
    exact l01Fall_oup b o hs ts hh ht hour facing hr0 hr1 hf0 hf1 hx1 hy0 hy1 hpos _ rfl oo ho w hg
  · have HR : Hid (fallOf hs ts hour facing = 0) := if_neg hpos
    obtain ⟨k, rfl⟩ := Int.eq_ofNat_of_zero_le hr0
    have hk : k < 24 := by omega
    have ea : hs[k]?.getD 0 = atH hs (k : Int) := by unfold atH; rw [Int.toNat_natCast]
    have eb : ts[k]?.getD 0 = atH ts (k : Int) := by unfold atH; rw [Int.toNat_natCast]
    generalize atH hs (k : Int) = x at *
    generalize atH ts (k : Int) = y at *
    have Hx := Lib.hid ea
    have Hy := Lib.hid eb
    have hc1 := at_sun_h hg hh k hk
    rw [Hx.out] at hc1
    clear hg hh ht ea eb
    go_enter Tryd.func188, Tryd.ntmps188
    go_wp2
    go_ret
    exact ⟨ret_f32 HR.out.symm, Below.refl _ _⟩

set_option maxRecDepth 100000 in
set_option maxHeartbeats 1000000 in
theorem l02Window_oup (n : Int) (wd gp : Nat) (t : Int) (sh : Nat) (hs ts : List Int) (hh : hs.length = 24) (ht : ts.length = 24) (ok : BlOk n wd gp t sh) (hour facing : Int) (hr0 : 0 ≤ hour) (hr1 : hour < 24) (hf0 : 0 ≤ facing) (hf1 : facing ≤ 255) (hx1 : atH hs hour ≤ 64) (hy0 : 0 ≤ atH ts hour) (hy1 : atH ts hour ≤ 255) (hpos : 0 < atH hs hour) (g1 g2 o : Nat) (w : World) (c1 : w.heap[g1]? = some (.cells (blindC n wd gp t sh) 59 (0, 0))) (c2 : SunAt w g2 o hs ts) :
    Calls Tryd.prog 141 #[.pointer (some ⟨g1, 0, none⟩), .pointer (some ⟨g2, o, none⟩), .int .i64 hour, .int .i64 facing] w fun e w' => e = .returned (.float .f32 (fmul (fallOf hs ts hour facing) (pasB wd gp t sh (atH hs hour)))) ∧ Below w.heap.size w w' := by
  have Hh := Lib.hid hh
  have Ht := Lib.hid ht
  have HF := Lib.hid (fun w hg => l01Fall_o g2 o hs ts hh ht hour facing hr0 hr1 hf0 hf1 hx1 hy0 hy1 w hg)
  have HP := Lib.hid (fun w hg => l02Pass_any n wd gp t sh ok (atH hs hour) (by omega) hx1 g1 59 (0, 0) w hg)
  have hm : floatBits .mul .f32 (fallOf hs ts hour facing) (pasB wd gp t sh (atH hs hour)) = some (fmul (fallOf hs ts hour facing) (pasB wd gp t sh (atH hs hour))) := (win_ok wd gp t ok.2.2.2.2.2.2.2.2 _ _ hpos hx1).1
  have r : ∀ T w, (binOp .mul T (.float .f32 (fallOf hs ts hour facing)) (.float .f32 (pasB wd gp t sh (atH hs hour)))).run Tryd.prog w = .ok (.float .f32 (fmul (fallOf hs ts hour facing) (pasB wd gp t sh (atH hs hour)))) w := fun T w => run_float_arith w .mul T .f32 _ _ _ hm
  have hw64 : IntKind.i64.wrap (atH hs hour) = atH hs hour := i64_small _ (by omega) (by omega)
  clear hm
  generalize fallOf hs ts hour facing = F at *
  clear ok hh ht
  obtain ⟨k, rfl⟩ := Int.eq_ofNat_of_zero_le hr0
  have hk : k < 24 := by omega
  have ea : hs[k]?.getD 0 = atH hs (k : Int) := by unfold atH; rw [Int.toNat_natCast]
  have q0 := at_sun_h c2 Hh.out k hk
  rw [ea] at q0
  have hd : decide (atH hs (k : Int) ≤ 0) = false := decide_eq_false (by omega)
  generalize pasB wd gp t sh (atH hs (k : Int)) = P at *
  generalize atH hs (k : Int) = x at *
  have Hx := Lib.hid ea
  clear ea
  have C1 := Lib.hid c1
  have C2 := Lib.hid c2
  clear c1 c2
  go_enter Tryd.func141, Tryd.ntmps141
  go_upto_region 3 with (fail)
  have d0 := C1.out
  have d1 := C2.out
  clear C1 C2 q0
  refine wp_region_held_drew (S := (fun W => W.heap[g1]? = some (.cells (blindC n wd gp t sh) 59 (0, 0)) ∧ SunAt W g2 o hs ts ∧ Below w.heap.size w W)) (by kernel_rfl) ⟨d0, d1, (Below.refl w.heap.size w).drew⟩ (fun hHeld => ?_)
  refine take_op (i := 0) (d := 16) (v := ?_) rfl rfl (by kernel_rfl) (by kernel_rfl) (by kernel_rfl) (fun _ _ _ h => h) (Or.inl ⟨by rfl, ?hy0u11⟩) hHeld ?rest0u11
  case hy0u11 =>
    intro w' hS'
    go_simp
    try with_reducible rfl
  simp only [List.setIfInBounds_toArray, List.set_cons_zero, List.set_cons_succ]
  refine take_op (i := 1) (d := 17) (v := ?_) rfl rfl (by kernel_rfl) (by kernel_rfl) (by kernel_rfl) (fun _ _ _ h => h) (Or.inl ⟨by rfl, ?hy1u12⟩) hHeld ?rest1u12
  case hy1u12 =>
    intro w' hS'
    go_simp
    try with_reducible rfl
  simp only [List.setIfInBounds_toArray, List.set_cons_zero, List.set_cons_succ]
  refine take_op (i := 2) (d := 18) (v := ?_) rfl rfl (by kernel_rfl) (by kernel_rfl) (by kernel_rfl) (fun _ _ _ h => h) (Or.inl ⟨by rfl, ?hy2u13⟩) hHeld ?rest2u13
  case hy2u13 =>
    intro w' hS'
    go_simp
    try with_reducible rfl
  simp only [List.setIfInBounds_toArray, List.set_cons_zero, List.set_cons_succ]
  refine take_op (i := 4) (d := 20) (v := ?_) rfl rfl (by kernel_rfl) (by kernel_rfl) (by kernel_rfl) (fun _ _ _ h => h) (Or.inl ⟨by rfl, ?hy4u14⟩) hHeld ?rest4u14
  case hy4u14 =>
    intro w' hS'
    go_simp
    try with_reducible rfl
  simp only [List.setIfInBounds_toArray, List.set_cons_zero, List.set_cons_succ]
  refine take_op (i := 5) (d := 21) (v := ?_) rfl rfl (by kernel_rfl) (by kernel_rfl) (by kernel_rfl) (fun _ _ _ h => h) (Or.inl ⟨by rfl, ?hy5u15⟩) hHeld ?rest5u15
  case hy5u15 =>
    intro w' hS'
    go_simp
    try with_reducible rfl
  simp only [List.setIfInBounds_toArray, List.set_cons_zero, List.set_cons_succ]
  refine take_op (i := 6) (d := 22) (v := ?_) rfl rfl (by kernel_rfl) (by kernel_rfl) (by kernel_rfl) (fun _ _ _ h => h) (Or.inl ⟨by rfl, ?hy6u16⟩) hHeld ?rest6u16
  case hy6u16 =>
    intro w' hS'
    go_simp
    try with_reducible rfl
  simp only [List.setIfInBounds_toArray, List.set_cons_zero, List.set_cons_succ]
  refine take_op (i := 7) (d := 23) (v := ?_) rfl rfl (by kernel_rfl) (by kernel_rfl) (by kernel_rfl) (fun _ _ _ h => h) (Or.inl ⟨by rfl, ?hy7u17⟩) hHeld ?rest7u17
  case hy7u17 =>
    intro w' hS'
    go_simp
    try with_reducible rfl
  simp only [List.setIfInBounds_toArray, List.set_cons_zero, List.set_cons_succ]
  refine take_op (i := 8) (d := 24) (v := ?_) rfl rfl (by kernel_rfl) (by kernel_rfl) (by kernel_rfl) (fun _ _ _ h => h) (Or.inl ⟨by rfl, ?hy8u18⟩) hHeld ?rest8u18
  case hy8u18 =>
    intro w' hS'
    go_simp
    try with_reducible rfl
  simp only [List.setIfInBounds_toArray, List.set_cons_zero, List.set_cons_succ]
  refine take_op (i := 9) (d := 25) (v := ?_) rfl rfl (by kernel_rfl) (by kernel_rfl) (by kernel_rfl) (fun _ _ _ h => h) (Or.inl ⟨by rfl, ?hy9u19⟩) hHeld ?rest9u19
  case hy9u19 =>
    intro w' hS'
    go_simp
    try with_reducible rfl
  simp only [List.setIfInBounds_toArray, List.set_cons_zero, List.set_cons_succ]
  refine take_op (i := 10) (d := 26) (v := ?_) rfl rfl (by kernel_rfl) (by kernel_rfl) (by kernel_rfl) (fun _ _ _ h => h) (Or.inl ⟨by rfl, ?hy10u20⟩) hHeld ?rest10u20
  case hy10u20 =>
    intro w' hS'
    obtain ⟨_, s1, _⟩ := hS'
    have qk := at_sun_h s1 Hh.out k hk
    rw [Hx.out] at qk
    clear s1
    go_simp
    try with_reducible rfl
  simp only [List.setIfInBounds_toArray, List.set_cons_zero, List.set_cons_succ]
  refine take_op (i := 11) (d := 27) (v := ?_) rfl rfl (by kernel_rfl) (by kernel_rfl) (by kernel_rfl) (fun _ _ _ h => h) (Or.inl ⟨by rfl, ?hy11u21⟩) hHeld ?rest11u21
  case hy11u21 =>
    intro w' hS'
    go_simp
    try with_reducible rfl
  simp only [List.setIfInBounds_toArray, List.set_cons_zero, List.set_cons_succ]
  refine wpAnyH_ready (rs := [3]) (by kernel_rfl) (by simp) ?_
  refine AllReadyH.cons rfl (fun K hK => ?_) AllReadyH.nil
  go_simp
  refine (HF.out _ hHeld.2.1).mono ?_
  rintro e W1 ⟨rfl, hb1⟩
  refine hK.out _ _ (⟨below_row hb1 hHeld.1, sunAt_below hb1 hHeld.2.1, hHeld.2.2.trans (hb1.mono hHeld.2.2.size)⟩) (fun hHeld2 => ?_)
  clear hK K
  replace hHeld := hHeld2
  clear hHeld2
  refine wpAnyH_ready (rs := [12]) (by kernel_rfl) (by simp) ?_
  refine AllReadyH.cons rfl (fun K hK => ?_) AllReadyH.nil
  go_simp
  refine (HP.out _ hHeld.1).mono ?_
  rintro e W3 ⟨rfl, hb3⟩
  refine hK.out _ _ (⟨below_row hb3 hHeld.1, sunAt_below hb3 hHeld.2.1, hHeld.2.2.trans (hb3.mono hHeld.2.2.size)⟩) (fun hHeld2 => ?_)
  clear hK K
  replace hHeld := hHeld2
  clear hHeld2
  refine take_op (i := 13) (d := 29) (v := ?_) rfl rfl (by kernel_rfl) (by kernel_rfl) (by kernel_rfl) (fun _ _ _ h => h) (Or.inl ⟨by rfl, ?hy13u22⟩) hHeld ?rest13u22
  case hy13u22 =>
    intro w' hS'
    go_simp
    try with_reducible rfl
  simp only [List.setIfInBounds_toArray, List.set_cons_zero, List.set_cons_succ]
  refine take_op (i := 14) (d := 8) (v := ?_) rfl rfl (by kernel_rfl) (by kernel_rfl) (by kernel_rfl) (fun _ _ _ h => h) (Or.inl ⟨by rfl, ?hy14u23⟩) hHeld ?rest14u23
  case hy14u23 =>
    intro w' hS'
    go_simp
    try with_reducible rfl
  simp only [List.setIfInBounds_toArray, List.set_cons_zero, List.set_cons_succ]
  refine wpAnyH_done (by kernel_rfl) ?_ _
  have hbx := hHeld.2.2
  clear hHeld d0 d1
  go_wp2
  go_ret
  exact ⟨rfl, hbx⟩

set_option maxRecDepth 100000 in
set_option maxHeartbeats 1000000 in
theorem l02Window_ono (n : Int) (wd gp : Nat) (t : Int) (sh : Nat) (hs ts : List Int) (hh : hs.length = 24) (ht : ts.length = 24) (hour facing : Int) (hr0 : 0 ≤ hour) (hr1 : hour < 24) (hx1 : atH hs hour ≤ 64) (hy0 : 0 ≤ atH ts hour) (hy1 : atH ts hour ≤ 255) (hpos : ¬ 0 < atH hs hour) (g1 g2 o : Nat) (w : World) (c1 : w.heap[g1]? = some (.cells (blindC n wd gp t sh) 59 (0, 0))) (c2 : SunAt w g2 o hs ts) :
    Calls Tryd.prog 141 #[.pointer (some ⟨g1, 0, none⟩), .pointer (some ⟨g2, o, none⟩), .int .i64 hour, .int .i64 facing] w fun e w' => e = .returned (.float .f32 (0)) ∧ Below w.heap.size w w' := by
  have Hh := Lib.hid hh
  have Ht := Lib.hid ht
  clear hh ht
  obtain ⟨k, rfl⟩ := Int.eq_ofNat_of_zero_le hr0
  have hk : k < 24 := by omega
  have ea : hs[k]?.getD 0 = atH hs (k : Int) := by unfold atH; rw [Int.toNat_natCast]
  have q0 := at_sun_h c2 Hh.out k hk
  rw [ea] at q0
  have hd : decide (atH hs (k : Int) ≤ 0) = true := decide_eq_true (by omega)
  generalize atH hs (k : Int) = x at *
  have Hx := Lib.hid ea
  clear ea
  have C1 := Lib.hid c1
  have C2 := Lib.hid c2
  clear c1 c2
  go_enter Tryd.func141, Tryd.ntmps141
  go_wp2
  go_ret
  exact ⟨rfl, Below.refl _ _⟩

theorem l02Window_o (n : Int) (wd gp : Nat) (t : Int) (sh : Nat) (hs ts : List Int) (hh : hs.length = 24) (ht : ts.length = 24) (ok : BlOk n wd gp t sh) (hour facing : Int) (hr0 : 0 ≤ hour) (hr1 : hour < 24) (hf0 : 0 ≤ facing) (hf1 : facing ≤ 255) (hx1 : atH hs hour ≤ 64) (hy0 : 0 ≤ atH ts hour) (hy1 : atH ts hour ≤ 255) (g1 g2 o : Nat) (w : World) (c1 : w.heap[g1]? = some (.cells (blindC n wd gp t sh) 59 (0, 0))) (c2 : SunAt w g2 o hs ts) :
    Calls Tryd.prog 141 #[.pointer (some ⟨g1, 0, none⟩), .pointer (some ⟨g2, o, none⟩), .int .i64 hour, .int .i64 facing] w fun e w' => e = .returned (.float .f32 (winB wd gp t sh hs ts hour facing)) ∧ Below w.heap.size w w' := by
  unfold winB
  by_cases hpos : 0 < atH hs hour
  · rw [if_pos hpos]; exact l02Window_oup n wd gp t sh hs ts hh ht ok hour facing hr0 hr1 hf0 hf1 hx1 hy0 hy1 hpos g1 g2 o w c1 c2
  · rw [if_neg hpos]; exact l02Window_ono n wd gp t sh hs ts hh ht hour facing hr0 hr1 hx1 hy0 hy1 hpos g1 g2 o w c1 c2

/-- The light of a day through a blind. -/
def dyL (wd gp : Nat) (t : Int) (sh : Nat) (facing : Int) (x : Su) : Nat := sumTo (fun h => winB wd gp t sh x.1 x.2 (h : Int) facing) 24

def okSu (x : Su) : Bool := okB x.1 x.2

set_option maxRecDepth 100000 in
set_option maxHeartbeats 1000000 in
theorem l07Day_any (n : Int) (wd gp : Nat) (t : Int) (sh : Nat) (OK : BlOk n wd gp t sh) (facing : Int) (x : Su) (hx : SuWf x) (ho : okSu x = true) (h3 : inF facing = true) (g1 g2 o : Nat) (w : World) (c1 : w.heap[g1]? = some (.cells (blindC n wd gp t sh) 59 (0, 0))) (c2 : SunAt w g2 o x.1 x.2) :
    Calls Tryd.prog 89 #[.pointer (some ⟨g1, 0, none⟩), .pointer (some ⟨g2, o, none⟩), .int .i64 facing] w fun e w' => e = .returned (.float .f32 (dyL wd gp t sh facing x)) ∧ Below w.heap.size w w' := by
  obtain ⟨hs, ts⟩ := x
  obtain ⟨hh, ht, rb⟩ := hx
  unfold okSu at ho
  unfold dyL
  dsimp only at hh ht ho c2 ⊢
  have HW := Lib.hid (fun (k : Int) (h0 : 0 ≤ k) (h24 : k < 24) w c1 c2 => l02Window_o n wd gp t sh hs ts hh ht OK k facing h0 h24 (inF_bd h3).1 (inF_bd h3).2 (okB_h hh ht ho k h0 h24).2 (okB_t hh ht ho k h0 h24).1 (okB_t hh ht ho k h0 h24).2 g1 g2 o w c1 c2)
  have HPOS : Hid (∀ k : Int, 0 ≤ k → k < 24 → pos32 (winB wd gp t sh hs ts k facing) = true) := fun k h0 h24 => winB_pos wd gp t OK.2.2.2.2.2.2.2.2 hs ts k facing (okB_h hh ht ho k h0 h24).2
  have D0 := Lib.hid c1
  have D1 := Lib.hid c2
  clear OK hh ht rb ho h3 c1 c2
  go_enter Tryd.func89, Tryd.ntmps89
  go_wp2
  go_loopw [7, 8] (fun s i wr => ∃ k : Nat, k ≤ 24 ∧ i = .int .i64 k ∧ s = .float .f32 (sumTo (fun h => winB wd gp t sh hs ts (h : Int) facing) k) ∧ Below w.heap.size w wr) (fun _ i _ => 24 - (intOf i).toNat)
  case atStart => exact ⟨0, Nat.zero_le _, rfl, rfl, Below.refl _ _⟩
  case round =>
    obtain ⟨k, hk, rfl, rfl, hb⟩ := hrel
    by_cases hlt : k < 24
    · have hp : pos32 (sumTo (fun h => winB wd gp t sh hs ts (h : Int) facing) k) = true := sumTo_pos _ 24 (fun j hj => HPOS.out (j : Int) (by omega) (by omega)) k hk
      have hgp := HPOS.out (k : Int) (by omega) (by omega)
      have z0 : (0 : Int) ≤ (k : Int) := by omega
      have z1 : (k : Int) < 24 := by omega
      have HC := Lib.hid (fun w1 (h : Below w.heap.size w w1) => HW.out (k : Int) z0 z1 w1 (below_row h D0.out) (sunAt_below h D1.out))
      have hs1 := sumTo_succ (fun h => winB wd gp t sh hs ts (h : Int) facing) k
      have hadd := (add_ok hp hgp).1
      have HS := Lib.hid hs1
      generalize sumTo (fun h => winB wd gp t sh hs ts (h : Int) facing) k = s at *
      have radd : ∀ T w, (binOp .add T (.float .f32 s) (.float .f32 (winB wd gp t sh hs ts (k : Int) facing))).run Tryd.prog w = .ok (.float .f32 (fadd s (winB wd gp t sh hs ts (k : Int) facing))) w := fun T w => run_float_arith w .add T .f32 _ _ _ hadd
      clear hp hgp hs1 hadd
      go_wp2_with (go_at_call 141; refine (HC.out _ hb).mono ?_; rintro e W3 ⟨rfl, hb1⟩)
      go_roundw
      case rel => exact ⟨k + 1, by omega, by simp, by rw [HS.out], hb.trans (hb1.mono hb.size)⟩
      case measure => simp [intOf]; omega
    · obtain rfl : k = 24 := by omega
      clear hlt
      go_wp2
      go_ret
      exact ⟨rfl, hb⟩

end Go.Proofs.YtmniodfdoidffaaDoor

namespace Go.Proofs.YtmniodfdoidffaaDoor
open Go.ChangeShapes Go.WideShapes Go.ChangeAt Go.RowKit Go.Deep Go.Joins

attribute [local go_sem] run_store_f

theorem ret_boolY {b c : Bool} (h : b = c) : Ending.returned (.bool b) = .returned (.bool c) := by rw [h]

set_option maxRecDepth 100000 in
set_option maxHeartbeats 1000000 in
theorem badSu_any (x : Su) (hx : SuWf x) (w : World) :
    Calls Tryd.prog 143 #[.agg (suC x)] w fun e w' => e = .returned (.bool (!okSu x)) ∧ Below w.heap.size w w' := by
  have HC := Lib.hid (fun w => ValidSun_any x.1 x.2 hx.1 hx.2.1 w)
  have HSZ := Lib.hid (suC_size hx)
  unfold okSu
  clear hx
  go_enter Tryd.func143, Tryd.ntmps143
  go_upto_region 1 with (fail)
  refine abs_world (fun W => Below w.heap.size w W ∧ W.heap[w.heap.size]? = some (.cells (suC x) 126 (0, 0))) ⟨(Below.refl _ _).alloc (Nat.le_refl _) _, heap_alloc_new _ _⟩ ?_
  rintro W ⟨hb, h0⟩
  have H0 := Lib.hid h0
  clear h0
  go_wp2_with (first | (refine wpList_load_part rfl 126 _ rfl w.heap.size 0 48 rfl 126 (suC x) (0, 0) _ H0.out Tryd.underlying126 rfl info_sun (by rw [HSZ.out]; decide) (suC x) (by rw [Nat.zero_add, ← HSZ.out, Array.extract_size]) ?_) | (go_at_call 144; refine (HC.out _).mono ?_; rintro e W1 ⟨rfl, hb1⟩))
  go_ret
  exact ⟨rfl, hb.trans (hb1.mono hb.size)⟩

/-- What looking for a sun that is not valid finds. -/
def FoundU (ts : List Su) (w : World) (e : Ending) (w' : World) : Prop := ∃ r : Int, e = .returned (.int .i64 r) ∧ decide (0 ≤ r) = !ts.all okSu ∧ Below w.heap.size w w'
set_option maxRecDepth 100000 in
set_option maxHeartbeats 1000000 in
theorem indexSu_any (sv : Value) (ws : List Su) (hwf : ∀ x ∈ ws, SuWf x) (w : World) (hws : SunsAt w sv ws) :
    Calls Tryd.prog 191 #[sv, .func (.func 143) #[] #[]] w fun e w' => FoundU ws w e w' := by
  have hws' := hws
  obtain ⟨a, cap, rfl, hl1, hl2, _⟩ := hws'
  have HW := Lib.hid hws
  have HWF := Lib.hid hwf
  clear hws hwf
  unfold maxLen at hl2
  generalize hn : ws.length = n at *
  go_enter Tryd.func191, Tryd.ntmps191
  go_wp2
  go_loopw [8] (fun i wr => ∃ k : Nat, k ≤ n ∧ i = .int .i64 k ∧ Below w.heap.size w wr ∧ (ws.take k).all okSu = true) (fun i _ => n - (intOf i).toNat)
  case atStart => exact ⟨0, Nat.zero_le _, rfl, Below.refl _ _, rfl⟩
  case round =>
    obtain ⟨k, hk, rfl, hb, hall⟩ := hrel
    have HA := Lib.hid hall
    clear hall
    by_cases hlt : k < n
    · have hx : ws[k]? = some ws[k] := List.getElem?_eq_getElem (by omega)
      obtain ⟨g, o, rfl, hc⟩ := sun_at (suns_below HW.out hb) hx
      have HC := Lib.hid hc
      have hts : ws.take (k + 1) = ws.take k ++ [ws[k]] := by rw [List.take_succ_eq_append_getElem (by omega)]
      have HT := Lib.hid hts
      have hdx := HW.out
      generalize ws[k] = x at *
      have HD : Hid (ws[k]? = some x) := Lib.hid hx
      have HWx := Lib.hid (HWF.out x (List.mem_of_getElem? hx))
      have HSZ := Lib.hid (suC_size HWx.out)
      have z1 : (k : Int) < (n : Int) := by omega
      have z2 : (0 : Int) ≤ (k : Int) := by omega
      clear hc hts hx hdx
      cases hf : okSu x with
      | true =>
        have hnf : (!okSu x) = false := by rw [hf]; rfl
        go_wp2_with (first | (refine wpList_load_cells rfl 126 _ rfl g (o + k * 48) 48 rfl _ Tryd.underlying126 rfl info_sun (suC x) HSZ.out HC.out ?_) | (go_at_call 143; refine (badSu_any x HWx.out _).mono ?_; rw [hnf]; rintro e W1 ⟨rfl, hb1⟩))
        go_roundw
        case rel => exact ⟨k + 1, by omega, by go_num, hb.trans (hb1.mono hb.size), by rw [HT.out, List.all_append, HA.out]; simp [hf]⟩
        case measure => simp [intOf]; omega
      | false =>
        have hnf : (!okSu x) = true := by rw [hf]; rfl
        go_wp2_with (first | (refine wpList_load_cells rfl 126 _ rfl g (o + k * 48) 48 rfl _ Tryd.underlying126 rfl info_sun (suC x) HSZ.out HC.out ?_) | (go_at_call 143; refine (badSu_any x HWx.out _).mono ?_; rw [hnf]; rintro e W1 ⟨rfl, hb1⟩))
        go_ret
        refine ⟨k, rfl, ?_, hb.trans (hb1.mono hb.size)⟩
        have hmem := List.mem_of_getElem? HD.out
        have hall : ws.all okSu = false := by
          rw [Bool.eq_false_iff]
          intro ha
          have := List.all_eq_true.1 ha x hmem
          rw [hf] at this; cases this
        rw [hall]; simp
    · obtain rfl : k = n := by omega
      go_wp2
      go_ret
      refine ⟨-1, rfl, ?_, hb⟩
      have hall := HA.out
      rw [List.take_of_length_le (by omega)] at hall
      rw [hall]; rfl
set_option maxRecDepth 100000 in
set_option maxHeartbeats 1000000 in
theorem containsSu_any (sv : Value) (ws : List Su) (hwf : ∀ x ∈ ws, SuWf x) (w : World) (hws : SunsAt w sv ws) :
    Calls Tryd.prog 145 #[sv, .func (.func 143) #[] #[]] w fun e w' => e = .returned (.bool (!ws.all okSu)) ∧ Below w.heap.size w w' := by
  have HC := indexSu_any sv ws hwf w hws
  clear hwf hws
  go_enter Tryd.func145, Tryd.ntmps145
  go_wp2_with (go_at_call 191; refine HC.mono ?_; rintro e W1 ⟨r, rfl, hd, hb1⟩)
  go_ret
  first | exact ⟨ret_boolY hd, hb1⟩ | exact ⟨rfl, hb1⟩

end Go.Proofs.YtmniodfdoidffaaDoor

namespace Go.Proofs.YtmniodfdoidffaaDoor
open Go.ChangeShapes Go.WideShapes Go.ChangeAt Go.RowKit

/-- A refusal: none, of a call, of an hour, of a floor. -/
inductive Rf where
  | non
  | call (c : Int)
  | hour (h : Int)
  | floor (cs : Array Value)

def rfV : Rf → Value
  | .non => .nilIface
  | .call c => .iface 181 (.agg #[.int .i64 c])
  | .hour h => .iface 183 (.agg #[.int .i64 h])
  | .floor cs => .iface 179 (.agg cs)

def rfC : Rf → Int
  | .non => 0
  | .call c => c
  | .hour _ => 6
  | .floor _ => 4

def rfOk : Rf → Prop
  | .floor cs => cs.size = 24 ∧ ∀ v ∈ cs, v.oneCell' = true
  | _ => True

def zerC : Array Value := #[.float .f32 0, .float .f32 0, .float .f32 0, .float .f32 0, .float .f32 0, .float .f32 0, .float .f32 0, .float .f32 0, .float .f32 0, .float .f32 0, .float .f32 0, .float .f32 0, .float .f32 0, .float .f32 0, .float .f32 0, .float .f32 0, .float .f32 0, .float .f32 0, .float .f32 0, .float .f32 0, .float .f32 0, .float .f32 0, .float .f32 0, .float .f32 0]

theorem one_i64 (c : Int) : ∀ v ∈ (#[.int .i64 c] : Array Value), v.oneCell' = true := by
  intro v hv
  simp only [List.mem_toArray, List.mem_cons, List.not_mem_nil, or_false] at hv
  subst hv; rfl

theorem three_newD (w : World) (o1 o2 o3 : Obj) : (((w.alloc o1).alloc o2).alloc o3).heap[w.heap.size]? = some o1 ∧ (((w.alloc o1).alloc o2).alloc o3).heap[w.heap.size + 1]? = some o2 ∧ (((w.alloc o1).alloc o2).alloc o3).heap[w.heap.size + 1 + 1]? = some o3 ∧ Below w.heap.size w (((w.alloc o1).alloc o2).alloc o3) := by
  have e : ∀ (w : World) (o : Obj) (i : Nat), (w.alloc o).heap[i]? = if i = w.heap.size then some o else w.heap[i]? := fun w o i => by
    show (w.heap.push o)[i]? = _
    exact Array.getElem?_push
  refine ⟨?_, ?_, ?_, (((Below.refl _ _).alloc (Nat.le_refl _) _).alloc (by simp) _).alloc (by simp; omega) _⟩
  all_goals simp only [e, World.size_alloc]
  · rw [if_neg (by omega), if_neg (by omega), if_true]
  · rw [if_neg (by omega), if_true]
  · rw [if_true]

set_option maxRecDepth 100000 in
set_option maxHeartbeats 4000000 in
theorem codeD_non (w : World) : Calls Tryd.prog 86 #[.nilIface] w fun e w' => e = .returned (.int .i64 0) ∧ Below w.heap.size w w' := by
  go_enter Tryd.func86, Tryd.ntmps86
  go_wp2_with (go_at_call 139; refine (as_nil _ _).mono ?_; rintro e w' ⟨rfl, rfl⟩)
  go_ret
  exact ⟨rfl, (three_newD _ _ _ _).2.2.2⟩

set_option maxRecDepth 100000 in
set_option maxHeartbeats 4000000 in
theorem codeD_call (c : Int) (w : World) (hE : ErrT w) : Calls Tryd.prog 86 #[.iface 181 (.agg #[.int .i64 c])] w fun e w' => e = .returned (.int .i64 c) ∧ Below w.heap.size w w' := by
  go_enter Tryd.func86, Tryd.ntmps86
  go_upto_region 4 with (fail)
  refine abs_code (fun W => W.heap[w.heap.size]? = some (.cells #[.int .i64 0] 181 (0, 0)) ∧ W.heap[w.heap.size + 1]? = some (.cells #[.int .i64 0] 183 (0, 0)) ∧ W.heap[w.heap.size + 1 + 1]? = some (.cells zerC 179 (0, 0)) ∧ Below w.heap.size w W) ⟨(three_newD _ _ _ _).1, (three_newD _ _ _ _).2.1, (three_newD _ _ _ _).2.2.1, (three_newD _ _ _ _).2.2.2⟩ ?_
  rintro W ⟨h0, h1, h2, hb⟩
  have hs1 : w.heap.size ≤ w.heap.size + 1 := by omega
  have hs2 : w.heap.size ≤ w.heap.size + 1 + 1 := by omega
  generalize w.heap.size + 1 + 1 = b2 at *
  generalize w.heap.size + 1 = b1 at *
  have HE := Lib.hid (errT_below hE hb)
  have H0 := Lib.hid h0
  have H1 := Lib.hid h1
  have H2 := Lib.hid h2
  clear h0 h1 h2 hE
  go_upto_region 5 with (go_at_call 139; refine (as_Call_Call _ _ _ _ HE.out H0.out rfl rfl (one_i64 c)).mono ?_; rintro e W9 ⟨rfl, U, hU, hrow, rfl⟩; replace hb := hb.trans (hU.mono hb.size); clear hU)
  have q : (U.setRow w.heap.size #[.int .i64 c]).cell? ⟨w.heap.size, 0, none⟩ = some (.int .i64 c) := by rw [cell_of_row _ _ _ _ _ _ (setRow_heap _ _ _ _ _ _ hrow)]; rfl
  go_wp2
  go_ret
  exact ⟨rfl, below_setRow hb (Nat.le_refl _) _⟩

set_option maxRecDepth 100000 in
set_option maxHeartbeats 4000000 in
theorem codeD_floor (cs : Array Value) (hc : cs.size = 24) (h1 : ∀ v ∈ cs, v.oneCell' = true) (w : World) (hE : ErrT w) : Calls Tryd.prog 86 #[.iface 179 (.agg cs)] w fun e w' => e = .returned (.int .i64 4) ∧ Below w.heap.size w w' := by
  have HC := Lib.hid (And.intro hc h1)
  clear hc h1
  go_enter Tryd.func86, Tryd.ntmps86
  go_upto_region 4 with (fail)
  refine abs_code (fun W => W.heap[w.heap.size]? = some (.cells #[.int .i64 0] 181 (0, 0)) ∧ W.heap[w.heap.size + 1]? = some (.cells #[.int .i64 0] 183 (0, 0)) ∧ W.heap[w.heap.size + 1 + 1]? = some (.cells zerC 179 (0, 0)) ∧ Below w.heap.size w W) ⟨(three_newD _ _ _ _).1, (three_newD _ _ _ _).2.1, (three_newD _ _ _ _).2.2.1, (three_newD _ _ _ _).2.2.2⟩ ?_
  rintro W ⟨h0, h1, h2, hb⟩
  have hs1 : w.heap.size ≤ w.heap.size + 1 := by omega
  have hs2 : w.heap.size ≤ w.heap.size + 1 + 1 := by omega
  generalize w.heap.size + 1 + 1 = b2 at *
  generalize w.heap.size + 1 = b1 at *
  have HE := Lib.hid (errT_below hE hb)
  have H0 := Lib.hid h0
  have H1 := Lib.hid h1
  have H2 := Lib.hid h2
  clear h0 h1 h2 hE
  go_upto_region 6 with (go_at_call 139; refine (as_Call_Floor _ _ _ HE.out).mono ?_; rintro e W1 ⟨rfl, hb1⟩; replace HE := Lib.hid (errT_below HE.out hb1); replace H0 := Lib.hid (below_row hb1 H0.out); replace H1 := Lib.hid (below_row hb1 H1.out); replace H2 := Lib.hid (below_row hb1 H2.out); replace hb := hb.trans (hb1.mono hb.size); clear hb1)
  go_wp2_with (go_at_call 139; refine (as_Floor_Floor _ _ _ _ HE.out H2.out HC.out.1 rfl HC.out.2).mono ?_; rintro e W9 ⟨rfl, U, hU, hrow, rfl⟩; replace hb := hb.trans (hU.mono hb.size); clear hU)
  go_ret
  exact ⟨rfl, below_setRow hb hs2 _⟩

set_option maxRecDepth 100000 in
set_option maxHeartbeats 4000000 in
theorem codeD_hour (h : Int) (w : World) (hE : ErrT w) : Calls Tryd.prog 86 #[.iface 183 (.agg #[.int .i64 h])] w fun e w' => e = .returned (.int .i64 6) ∧ Below w.heap.size w w' := by
  go_enter Tryd.func86, Tryd.ntmps86
  go_upto_region 4 with (fail)
  refine abs_code (fun W => W.heap[w.heap.size]? = some (.cells #[.int .i64 0] 181 (0, 0)) ∧ W.heap[w.heap.size + 1]? = some (.cells #[.int .i64 0] 183 (0, 0)) ∧ W.heap[w.heap.size + 1 + 1]? = some (.cells zerC 179 (0, 0)) ∧ Below w.heap.size w W) ⟨(three_newD _ _ _ _).1, (three_newD _ _ _ _).2.1, (three_newD _ _ _ _).2.2.1, (three_newD _ _ _ _).2.2.2⟩ ?_
  rintro W ⟨h0, h1, h2, hb⟩
  have hs1 : w.heap.size ≤ w.heap.size + 1 := by omega
  have hs2 : w.heap.size ≤ w.heap.size + 1 + 1 := by omega
  generalize w.heap.size + 1 + 1 = b2 at *
  generalize w.heap.size + 1 = b1 at *
  have HE := Lib.hid (errT_below hE hb)
  have H0 := Lib.hid h0
  have H1 := Lib.hid h1
  have H2 := Lib.hid h2
  clear h0 h1 h2 hE
  go_upto_region 6 with (go_at_call 139; refine (as_Call_Hour _ _ _ HE.out).mono ?_; rintro e W1 ⟨rfl, hb1⟩; replace HE := Lib.hid (errT_below HE.out hb1); replace H0 := Lib.hid (below_row hb1 H0.out); replace H1 := Lib.hid (below_row hb1 H1.out); replace H2 := Lib.hid (below_row hb1 H2.out); replace hb := hb.trans (hb1.mono hb.size); clear hb1)
  go_upto_region 8 with (go_at_call 139; refine (as_Floor_Hour _ _ _ HE.out).mono ?_; rintro e W2 ⟨rfl, hb1⟩; replace HE := Lib.hid (errT_below HE.out hb1); replace H0 := Lib.hid (below_row hb1 H0.out); replace H1 := Lib.hid (below_row hb1 H1.out); replace H2 := Lib.hid (below_row hb1 H2.out); replace hb := hb.trans (hb1.mono hb.size); clear hb1)
  go_wp2_with (go_at_call 139; refine (as_Hour_Hour _ _ _ _ HE.out H1.out rfl rfl (one_i64 h)).mono ?_; rintro e W9 ⟨rfl, U, hU, hrow, rfl⟩; replace hb := hb.trans (hU.mono hb.size); clear hU)
  go_ret
  exact ⟨rfl, below_setRow hb hs1 _⟩

theorem codeOfDay_any (r : Rf) (hr : rfOk r) (w : World) (hE : ErrT w) : Calls Tryd.prog 86 #[rfV r] w fun e w' => e = .returned (.int .i64 (rfC r)) ∧ Below w.heap.size w w' :=
  match r, hr with
  | .non, _ => codeD_non w
  | .call c, _ => codeD_call c w hE
  | .hour h, _ => codeD_hour h w hE
  | .floor cs, hr => codeD_floor cs hr.1 hr.2 w hE

end Go.Proofs.YtmniodfdoidffaaDoor

namespace Go.Proofs.YtmniodfdoidffaaDoor
open Go.RowKit

/-- The word that a NaN is widened to. -/
def nanW (x : Nat) (w : World) : Nat := (Question.nanConv .f64 x).cut (w.tape w.drawn (.nanConv .f64 x))
theorem read_nan64 (s r : Nat) (hr : r < 4503599627370495) : ∃ a b, Ieee.double.read (s * 9223372036854775808 + 9218868437227405312 + 1 + r) = .nan a b := by
  have hb : Ieee.double.binade = 4503599627370496 := by decide
  have hi : Ieee.double.infRung = 9218868437227405312 := by decide
  have hw : Ieee.double.signWeight = 9223372036854775808 := by decide
  have em : (s * 9223372036854775808 + 9218868437227405312 + 1 + r) % 9223372036854775808 = 9218868437227405313 + r := by omega
  unfold Ieee.Format.read
  rw [hw, hb, hi]
  dsimp only
  rw [em, if_neg (by omega), if_neg (by omega), if_neg (by omega)]
  exact ⟨_, _, rfl⟩
theorem nanW_nan (x : Nat) (w : World) : FloatKind.f64.format.order (nanW x w) (nanW x w) = none := by
  have key : ∀ t, (Question.nanConv .f64 x).cut t = (t % 2) * 9223372036854775808 + 9218868437227405312 + 1 + (t / 2) % 4503599627370495 := fun t => rfl
  unfold nanW
  rw [key]
  generalize w.tape w.drawn (.nanConv .f64 x) = t
  obtain ⟨s, g, e⟩ := read_nan64 (t % 2) ((t / 2) % 4503599627370495) (Nat.mod_lt _ (by omega))
  generalize t % 2 * 9223372036854775808 + 9218868437227405312 + 1 + t / 2 % 4503599627370495 = p at *
  show (Ieee.double.read p).order (Ieee.double.read p) = none
  rw [e]; rfl
theorem run_wide_nan (x : Nat) (h : fin32 x = false) (w : World) : (convert 25 51 (.float .f32 x)).run Tryd.prog w = .ok (.float .f64 (nanW x w)) w.drew := by
  have hn : ∃ s g, FloatKind.f32.decode x = .nan s g := by
    unfold fin32 at h
    show ∃ s g, Ieee.single.read x = .nan s g
    cases hr : Ieee.single.read x with
    | nan s g => exact ⟨s, g, rfl⟩
    | infinity s => rw [hr] at h; cases h
    | number s m e => rw [hr] at h; cases h
  obtain ⟨s, g, hn⟩ := hn
  simp [convert, run_underlying Tryd.underlying25, run_underlying Tryd.underlying51, Conv.floatToFloat, hn, Question.forced, nanW]
set_option maxHeartbeats 400000 in
theorem same_nan (a b : Nat) (ha : FloatKind.f64.format.order a a = none) (hb : FloatKind.f64.format.order b b = none) (w : World) :
    Calls Tryd.prog 33 #[.float .f64 a, .float .f64 b] w fun e w' => e = .returned (.bool true) ∧ w = w' := by
  go_enter Tryd.func33, Tryd.ntmps33
  go_wp2
  go_ret
  exact ⟨rfl, rfl⟩

end Go.Proofs.YtmniodfdoidffaaDoor

namespace Go.Proofs.YtmniodfdoidffaaDoor
open Go.ChangeShapes Go.WideShapes Go.ChangeAt Go.RowKit Go.Deep Go.Joins

attribute [local go_sem] run_store_f

def FloatsAt (W : World) (v : Value) (zs : List Nat) : Prop :=
  ∃ a cap, v = .slice a zs.length cap ∧ zs.length ≤ cap ∧ cap ≤ maxLen ∧ ∀ i x, zs[i]? = some x → ∃ g o, a = some ⟨g, o, none⟩ ∧ W.cell? ⟨g, o + i, none⟩ = some (.float .f32 x)

theorem floats_below {W W' : World} {v : Value} {zs : List Nat} (h : FloatsAt W v zs) (hb : Below W.heap.size W W') : FloatsAt W' v zs := by
  obtain ⟨a, cap, h1, h2, h3, h4⟩ := h
  refine ⟨a, cap, h1, h2, h3, fun i x hx => ?_⟩
  obtain ⟨g, o, e, c0⟩ := h4 i x hx
  exact ⟨g, o, e, cell_below hb c0⟩

theorem floats_belowB {B : Nat} {W W' : World} {v : Value} {zs : List Nat} (h : FloatsAt W v zs) (hb : Below B W W') (hB : W.heap.size ≤ B) : FloatsAt W' v zs := floats_below h (hb.mono hB)

theorem float_at {W : World} {a : Option Addr} {n cap : Nat} {zs : List Nat} (h : FloatsAt W (.slice a n cap) zs) {k : Nat} {x : Nat} (hx : zs[k]? = some x) :
    ∃ g o, a = some ⟨g, o, none⟩ ∧ W.cell? ⟨g, o + k, none⟩ = some (.float .f32 x) := by
  obtain ⟨a', cap', e, _, _, h4⟩ := h
  injection e with e1 e2 e3
  subst e1
  exact h4 k x hx

set_option maxRecDepth 100000 in
theorem open_floatS {H : Type} {enc : TypeId × Value → H} {W : World} {b0 base : Nat} {spare : Nat → Bool} {held : Bool} {r : Reach} {v : Value} {d : DataW H} {p : List MemPlace}
    (hv : Value.okWide Tryd.prog W r b0 66 v) (h : DataW.Trod enc Tryd.prog W base spare held 66 v d p) : ∃ zs, FloatsAt W v zs ∧ ∀ z ∈ zs, (Lit.float .f32 z).wf = true := by
  obtain ⟨a0, len0, cap0, rfl⟩ := okWide_slice Tryd.underlying66 hv
  obtain ⟨fuel, hf⟩ := h
  rcases open_slice1 Tryd.underlying66 (by kernel_rfl) hf with ⟨hcs, _⟩ | ⟨a, len, cap, m, n, V, D, Pl, hcs, _, hl, hm, hmm, _, hi⟩
  · simp [Value.cells] at hcs
    obtain ⟨rfl, rfl, rfl⟩ := hcs
    exact ⟨[], ⟨none, 0, rfl, Nat.le_refl _, by unfold maxLen; omega, fun i x hx => by simp at hx⟩, fun x hx => by cases hx⟩
  · simp [Value.cells] at hcs
    obtain ⟨rfl, rfl, rfl⟩ := hcs
    have hspot : 0 < len0 → a.spot = none := by
      intro h0
      have g0 := (hi 0 (by rw [hmm]; split <;> omega)).1
      have := World.cell?_spot g0
      simpa [Addr.add] using this
    have key : ∀ i, i < len0 → ∃ x : Nat, (Lit.float .f32 x).wf = true ∧ ∃ g o, some a = some ⟨g, o, none⟩ ∧ W.cell? ⟨g, o + i, none⟩ = some (.float .f32 x) := by
      intro i hlt
      obtain ⟨hc, ht⟩ := hi i (by rw [hmm]; split <;> omega)
      obtain ⟨x, q, wx⟩ := trod_f Tryd.underlying25 ht
      simp only [List.cons.injEq, and_true] at q
      rw [q] at hc
      have hsp := hspot (by omega)
      obtain ⟨g, o, spot⟩ := a
      obtain rfl : spot = none := hsp
      rw [addr_add] at hc
      exact ⟨x, wx, g, o, rfl, hc⟩
    obtain ⟨ws, hlen, hall⟩ := list_of len0 key
    subst hlen
    refine ⟨ws, ⟨some a, cap0, rfl, hl, hm, fun i x hx => (hall i x hx).2⟩, fun x hx => ?_⟩
    obtain ⟨i, hi⟩ := List.mem_iff_getElem?.1 hx
    exact (hall i x hi).1

theorem info_f32 : (Tryd.prog.info? 25).map (fun i => (i.zero, i.size, i.bytes)) = some (some (.float .f32 0), 1, 4) := by kernel_rfl

theorem make_floats (n : Nat) (hn : n ≤ 1048576) (w : World) : (Instr.makeSlice 66 (.int .i64 (n : Int)) (.int .i64 (n : Int))).run Tryd.prog w = .ok (.slice (some ⟨w.heap.size, 0, none⟩) n n) (w.alloc (.cells (madeCells #[.float .f32 0] n) 25)) := by
  obtain ⟨i0, hi, hz0, hz1, hz2⟩ := info_parts info_f32
  have h := run_make (P := Tryd.prog) w 66 25 i0 _ Tryd.underlying66 hi hz0 .i64 .i64 (n : Int) (n : Int) (by omega) (Int.le_refl _) (by rw [hz2]; omega) (by omega)
  rw [hz1] at h
  simpa [Value.cells] using h

set_option maxRecDepth 100000 in
set_option maxHeartbeats 4000000 in
theorem eqFloat32S_any (v1 v2 : Value) (zs : List Nat) (w : World) (h1 : FloatsAt w v1 zs) (h2 : FloatsAt w v2 zs) :
    Calls Tryd.prog 42 #[v1, v2] w fun e w' => e = .returned (.bool true) ∧ Below w.heap.size w w' := by
  have H1 := Lib.hid h1
  have H2 := Lib.hid h2
  obtain ⟨a1, c1, rfl, hl1, hm1, _⟩ := h1
  obtain ⟨a2, c2, rfl, hl2, hm2, _⟩ := h2
  unfold maxLen at hm1 hm2
  generalize hn : zs.length = n at *
  have HN := Lib.hid hn
  clear hn
  go_enter Tryd.func42, Tryd.ntmps42
  go_wp2
  go_loopw [5] (fun i wr => ∃ k : Nat, k ≤ n ∧ i = .int .i64 k ∧ Below w.heap.size w wr) (fun i _ => n - (intOf i).toNat)
  case atStart => exact ⟨0, Nat.zero_le _, rfl, Below.refl _ _⟩
  case round =>
    obtain ⟨k, hk, rfl, hb⟩ := hrel
    by_cases hlt : k < n
    · have hx : zs[k]? = some (zs[k]'(by rw [HN.out]; exact hlt)) := List.getElem?_eq_getElem _
      obtain ⟨g1, o1, rfl, q1⟩ := float_at (floats_below H1.out hb) hx
      obtain ⟨g2, o2, rfl, q2⟩ := float_at (floats_below H2.out hb) hx
      generalize (zs[k]'(by rw [HN.out]; exact hlt)) = x at *
      have z0 : (0 : Int) ≤ (k : Int) := by omega
      have z1 : (k : Int) < (n : Int) := by omega
      have z2 : decide ((k : Int) < (n : Int)) = true := decide_eq_true z1
      clear hx
      cases hf : fin32 x with
      | true =>
        have hw0 := run_wide _ hf
        have Hv0 := Lib.hid hf
        clear hf
        go_wp2
        refine wp_region_held_drew (S := (fun W => W.cell? ⟨g1, o1 + k, none⟩ = some (.float .f32 x) ∧ W.cell? ⟨g2, o2 + k, none⟩ = some (.float .f32 x) ∧ Below w.heap.size w W)) (by kernel_rfl) ⟨by simpa using q1, by simpa using q2, hb.drew⟩ (fun hHeld => ?_)
        refine take_op (i := 0) (d := 17) (v := ?_) rfl rfl (by kernel_rfl) (by kernel_rfl) (by kernel_rfl) (fun _ _ _ h => h) (Or.inl ⟨by rfl, ?hy0u1⟩) hHeld ?rest0u1
        case hy0u1 =>
          intro w' hS'
          obtain ⟨s1, s2, _⟩ := hS'
          go_simp
          try with_reducible rfl
        simp only [List.setIfInBounds_toArray, List.set_cons_zero, List.set_cons_succ]
        refine take_op (i := 1) (d := 18) (v := ?_) rfl rfl (by kernel_rfl) (by kernel_rfl) (by kernel_rfl) (fun _ _ _ h => h) (Or.inl ⟨by rfl, ?hy1u2⟩) hHeld ?rest1u2
        case hy1u2 =>
          intro w' hS'
          obtain ⟨s1, s2, _⟩ := hS'
          go_simp
          try with_reducible rfl
        simp only [List.setIfInBounds_toArray, List.set_cons_zero, List.set_cons_succ]
        refine take_op (i := 2) (d := 19) (v := ?_) rfl rfl (by kernel_rfl) (by kernel_rfl) (by kernel_rfl) (fun _ _ _ h => h) (Or.inl ⟨by rfl, ?hy2u3⟩) hHeld ?rest2u3
        case hy2u3 =>
          intro w' hS'
          obtain ⟨s1, s2, _⟩ := hS'
          go_simp
          try with_reducible rfl
        simp only [List.setIfInBounds_toArray, List.set_cons_zero, List.set_cons_succ]
        refine take_op (i := 3) (d := 20) (v := ?_) rfl rfl (by kernel_rfl) (by kernel_rfl) (by kernel_rfl) (fun _ _ _ h => h) (Or.inl ⟨by rfl, ?hy3u4⟩) hHeld ?rest3u4
        case hy3u4 =>
          intro w' hS'
          obtain ⟨s1, s2, _⟩ := hS'
          go_simp
          try with_reducible rfl
        simp only [List.setIfInBounds_toArray, List.set_cons_zero, List.set_cons_succ]
        refine take_op (i := 5) (d := 22) (v := ?_) rfl rfl (by kernel_rfl) (by kernel_rfl) (by kernel_rfl) (fun _ _ _ h => h) (Or.inl ⟨by rfl, ?hy5u5⟩) hHeld ?rest5u5
        case hy5u5 =>
          intro w' hS'
          obtain ⟨s1, s2, _⟩ := hS'
          go_simp
          try with_reducible rfl
        simp only [List.setIfInBounds_toArray, List.set_cons_zero, List.set_cons_succ]
        refine take_op (i := 6) (d := 23) (v := ?_) rfl rfl (by kernel_rfl) (by kernel_rfl) (by kernel_rfl) (fun _ _ _ h => h) (Or.inl ⟨by rfl, ?hy6u6⟩) hHeld ?rest6u6
        case hy6u6 =>
          intro w' hS'
          obtain ⟨s1, s2, _⟩ := hS'
          go_simp
          try with_reducible rfl
        simp only [List.setIfInBounds_toArray, List.set_cons_zero, List.set_cons_succ]
        refine take_op (i := 7) (d := 24) (v := ?_) rfl rfl (by kernel_rfl) (by kernel_rfl) (by kernel_rfl) (fun _ _ _ h => h) (Or.inl ⟨by rfl, ?hy7u7⟩) hHeld ?rest7u7
        case hy7u7 =>
          intro w' hS'
          obtain ⟨s1, s2, _⟩ := hS'
          go_simp
          try with_reducible rfl
        simp only [List.setIfInBounds_toArray, List.set_cons_zero, List.set_cons_succ]
        refine take_op (i := 8) (d := 25) (v := ?_) rfl rfl (by kernel_rfl) (by kernel_rfl) (by kernel_rfl) (fun _ _ _ h => h) (Or.inl ⟨by rfl, ?hy8u8⟩) hHeld ?rest8u8
        case hy8u8 =>
          intro w' hS'
          obtain ⟨s1, s2, _⟩ := hS'
          go_simp
          try with_reducible rfl
        simp only [List.setIfInBounds_toArray, List.set_cons_zero, List.set_cons_succ]
        refine take_op (i := 4) (d := 21) (v := ?_) rfl rfl (by kernel_rfl) (by kernel_rfl) (by kernel_rfl) (fun _ _ _ h => h) (Or.inl ⟨by rfl, ?hy4u9⟩) hHeld ?rest4u9
        case hy4u9 =>
          intro w' hS'
          go_simp
          try with_reducible rfl
        simp only [List.setIfInBounds_toArray, List.set_cons_zero, List.set_cons_succ]
        refine take_op (i := 9) (d := 26) (v := ?_) rfl rfl (by kernel_rfl) (by kernel_rfl) (by kernel_rfl) (fun _ _ _ h => h) (Or.inl ⟨by rfl, ?hy9u10⟩) hHeld ?rest9u10
        case hy9u10 =>
          intro w' hS'
          go_simp
          try with_reducible rfl
        simp only [List.setIfInBounds_toArray, List.set_cons_zero, List.set_cons_succ]
        refine wpAnyH_ready (rs := [10]) (by kernel_rfl) (by simp) ?_
        refine AllReadyH.cons rfl (fun K hK => ?_) AllReadyH.nil
        go_simp
        refine (same_wide _ Hv0.out _).mono ?_
        rintro e w' ⟨rfl, rfl⟩
        refine hK.out _ _ (hHeld) (fun hHeld2 => ?_)
        clear hK K
        replace hHeld := hHeld2
        clear hHeld2
        refine take_op (i := 11) (d := 28) (v := ?_) rfl rfl (by kernel_rfl) (by kernel_rfl) (by kernel_rfl) (fun _ _ _ h => h) (Or.inl ⟨by rfl, ?hy11u11⟩) hHeld ?rest11u11
        case hy11u11 =>
          intro w' hS'
          go_simp
          try with_reducible rfl
        simp only [List.setIfInBounds_toArray, List.set_cons_zero, List.set_cons_succ]
        refine wpAnyH_done (by kernel_rfl) ?_ _
        have hbx := hHeld.2.2
        clear hHeld q1 q2 hb
        go_wp2
        go_roundw
        case rel => exact ⟨k + 1, by omega, by go_num, hbx⟩
        case measure => simp [intOf]; omega
      | false =>
        have hw0 := run_wide_nan _ hf
        clear hf
        go_wp2
        refine wp_region_held_drew (S := (fun W => W.cell? ⟨g1, o1 + k, none⟩ = some (.float .f32 x) ∧ W.cell? ⟨g2, o2 + k, none⟩ = some (.float .f32 x) ∧ Below w.heap.size w W)) (by kernel_rfl) ⟨by simpa using q1, by simpa using q2, hb.drew⟩ (fun hHeld => ?_)
        refine take_op (i := 0) (d := 17) (v := ?_) rfl rfl (by kernel_rfl) (by kernel_rfl) (by kernel_rfl) (fun _ _ _ h => h) (Or.inl ⟨by rfl, ?hy0u12⟩) hHeld ?rest0u12
        case hy0u12 =>
          intro w' hS'
          obtain ⟨s1, s2, _⟩ := hS'
          go_simp
          try with_reducible rfl
        simp only [List.setIfInBounds_toArray, List.set_cons_zero, List.set_cons_succ]
        refine take_op (i := 1) (d := 18) (v := ?_) rfl rfl (by kernel_rfl) (by kernel_rfl) (by kernel_rfl) (fun _ _ _ h => h) (Or.inl ⟨by rfl, ?hy1u13⟩) hHeld ?rest1u13
        case hy1u13 =>
          intro w' hS'
          obtain ⟨s1, s2, _⟩ := hS'
          go_simp
          try with_reducible rfl
        simp only [List.setIfInBounds_toArray, List.set_cons_zero, List.set_cons_succ]
        refine take_op (i := 2) (d := 19) (v := ?_) rfl rfl (by kernel_rfl) (by kernel_rfl) (by kernel_rfl) (fun _ _ _ h => h) (Or.inl ⟨by rfl, ?hy2u14⟩) hHeld ?rest2u14
        case hy2u14 =>
          intro w' hS'
          obtain ⟨s1, s2, _⟩ := hS'
          go_simp
          try with_reducible rfl
        simp only [List.setIfInBounds_toArray, List.set_cons_zero, List.set_cons_succ]
        refine take_op (i := 3) (d := 20) (v := ?_) rfl rfl (by kernel_rfl) (by kernel_rfl) (by kernel_rfl) (fun _ _ _ h => h) (Or.inl ⟨by rfl, ?hy3u15⟩) hHeld ?rest3u15
        case hy3u15 =>
          intro w' hS'
          obtain ⟨s1, s2, _⟩ := hS'
          go_simp
          try with_reducible rfl
        simp only [List.setIfInBounds_toArray, List.set_cons_zero, List.set_cons_succ]
        refine take_op (i := 5) (d := 22) (v := ?_) rfl rfl (by kernel_rfl) (by kernel_rfl) (by kernel_rfl) (fun _ _ _ h => h) (Or.inl ⟨by rfl, ?hy5u16⟩) hHeld ?rest5u16
        case hy5u16 =>
          intro w' hS'
          obtain ⟨s1, s2, _⟩ := hS'
          go_simp
          try with_reducible rfl
        simp only [List.setIfInBounds_toArray, List.set_cons_zero, List.set_cons_succ]
        refine take_op (i := 6) (d := 23) (v := ?_) rfl rfl (by kernel_rfl) (by kernel_rfl) (by kernel_rfl) (fun _ _ _ h => h) (Or.inl ⟨by rfl, ?hy6u17⟩) hHeld ?rest6u17
        case hy6u17 =>
          intro w' hS'
          obtain ⟨s1, s2, _⟩ := hS'
          go_simp
          try with_reducible rfl
        simp only [List.setIfInBounds_toArray, List.set_cons_zero, List.set_cons_succ]
        refine take_op (i := 7) (d := 24) (v := ?_) rfl rfl (by kernel_rfl) (by kernel_rfl) (by kernel_rfl) (fun _ _ _ h => h) (Or.inl ⟨by rfl, ?hy7u18⟩) hHeld ?rest7u18
        case hy7u18 =>
          intro w' hS'
          obtain ⟨s1, s2, _⟩ := hS'
          go_simp
          try with_reducible rfl
        simp only [List.setIfInBounds_toArray, List.set_cons_zero, List.set_cons_succ]
        refine take_op (i := 8) (d := 25) (v := ?_) rfl rfl (by kernel_rfl) (by kernel_rfl) (by kernel_rfl) (fun _ _ _ h => h) (Or.inl ⟨by rfl, ?hy8u19⟩) hHeld ?rest8u19
        case hy8u19 =>
          intro w' hS'
          obtain ⟨s1, s2, _⟩ := hS'
          go_simp
          try with_reducible rfl
        simp only [List.setIfInBounds_toArray, List.set_cons_zero, List.set_cons_succ]
        refine wpAnyH_ready (rs := [4, 9]) (by kernel_rfl) (by simp) ?_
        refine AllReadyH.cons rfl (fun K hK => ?_) (AllReadyH.cons rfl (fun K hK => ?_) AllReadyH.nil)
        · go_simp
          refine hK.out _ _ ⟨by simpa using hHeld.1, by simpa using hHeld.2.1, hHeld.2.2.drew⟩ (fun hHeld2 => ?_)
          clear hK K
          replace hHeld := hHeld2
          clear hHeld2
          refine wpAnyH_ready (rs := [9]) (by kernel_rfl) (by simp) ?_
          refine AllReadyH.cons rfl (fun K hK => ?_) AllReadyH.nil
          go_simp
          refine hK.out _ _ ⟨by simpa using hHeld.1, by simpa using hHeld.2.1, hHeld.2.2.drew⟩ (fun hHeld2 => ?_)
          clear hK K
          replace hHeld := hHeld2
          clear hHeld2
          refine wpAnyH_ready (rs := [10]) (by kernel_rfl) (by simp) ?_
          refine AllReadyH.cons rfl (fun K hK => ?_) AllReadyH.nil
          go_simp
          refine (same_nan _ _ (nanW_nan _ _) (nanW_nan _ _) _).mono ?_
          rintro e w' ⟨rfl, rfl⟩
          refine hK.out _ _ (hHeld) (fun hHeld2 => ?_)
          clear hK K
          replace hHeld := hHeld2
          clear hHeld2
          refine take_op (i := 11) (d := 28) (v := ?_) rfl rfl (by kernel_rfl) (by kernel_rfl) (by kernel_rfl) (fun _ _ _ h => h) (Or.inl ⟨by rfl, ?hy11u20⟩) hHeld ?rest11u20
          case hy11u20 =>
            intro w' hS'
            go_simp
            try with_reducible rfl
          simp only [List.setIfInBounds_toArray, List.set_cons_zero, List.set_cons_succ]
          refine wpAnyH_done (by kernel_rfl) ?_ _
          have hbx := hHeld.2.2
          clear hHeld q1 q2 hb
          go_wp2
          go_roundw
          case rel => exact ⟨k + 1, by omega, by go_num, hbx⟩
          case measure => simp [intOf]; omega
        · go_simp
          refine hK.out _ _ ⟨by simpa using hHeld.1, by simpa using hHeld.2.1, hHeld.2.2.drew⟩ (fun hHeld2 => ?_)
          clear hK K
          replace hHeld := hHeld2
          clear hHeld2
          refine wpAnyH_ready (rs := [4]) (by kernel_rfl) (by simp) ?_
          refine AllReadyH.cons rfl (fun K hK => ?_) AllReadyH.nil
          go_simp
          refine hK.out _ _ ⟨by simpa using hHeld.1, by simpa using hHeld.2.1, hHeld.2.2.drew⟩ (fun hHeld2 => ?_)
          clear hK K
          replace hHeld := hHeld2
          clear hHeld2
          refine wpAnyH_ready (rs := [10]) (by kernel_rfl) (by simp) ?_
          refine AllReadyH.cons rfl (fun K hK => ?_) AllReadyH.nil
          go_simp
          refine (same_nan _ _ (nanW_nan _ _) (nanW_nan _ _) _).mono ?_
          rintro e w' ⟨rfl, rfl⟩
          refine hK.out _ _ (hHeld) (fun hHeld2 => ?_)
          clear hK K
          replace hHeld := hHeld2
          clear hHeld2
          refine take_op (i := 11) (d := 28) (v := ?_) rfl rfl (by kernel_rfl) (by kernel_rfl) (by kernel_rfl) (fun _ _ _ h => h) (Or.inl ⟨by rfl, ?hy11u21⟩) hHeld ?rest11u21
          case hy11u21 =>
            intro w' hS'
            go_simp
            try with_reducible rfl
          simp only [List.setIfInBounds_toArray, List.set_cons_zero, List.set_cons_succ]
          refine wpAnyH_done (by kernel_rfl) ?_ _
          have hbx := hHeld.2.2
          clear hHeld q1 q2 hb
          go_wp2
          go_roundw
          case rel => exact ⟨k + 1, by omega, by go_num, hbx⟩
          case measure => simp [intOf]; omega
    · obtain rfl : k = n := by omega
      go_wp2
      go_ret
      exact ⟨rfl, hb⟩

end Go.Proofs.YtmniodfdoidffaaDoor

namespace Go.Proofs.YtmniodfdoidffaaDoor
open Go.RowKit

/-- A slice of the call's own, from block number base on, that holds the elements xs. -/
def Own {α : Type} (w : World) (base : Nat) (E : TypeId) (mk : α → Value) (v : Value) (xs : List α) : Prop :=
  ∃ a cap, v = .slice a xs.length cap ∧ cap ≤ maxLen ∧ xs.length ≤ cap ∧
    ((a = none ∧ xs = []) ∨ ∃ g cur, a = some ⟨g, 0, none⟩ ∧ base ≤ g ∧ w.heap[g]? = some (.cells cur E (0, 0)) ∧ ∀ k, k < xs.length → cur[k]? = (xs[k]?).map mk)

theorem own_below {α : Type} {w w' : World} {base B : Nat} {E : TypeId} {mk : α → Value} {v : Value} {xs : List α} (h : Own w base E mk v xs) (hb : Below w.heap.size w w') (hB : B ≤ base) : Own w' B E mk v xs := by
  obtain ⟨a, cap, h1, h2, h3, h4⟩ := h
  refine ⟨a, cap, h1, h2, h3, h4.imp id ?_⟩
  rintro ⟨g, cur, e, hg, hc, hk⟩
  exact ⟨g, cur, e, by omega, below_row hb hc, hk⟩

/-- The block of a list that is not empty. -/
theorem own_get {α : Type} {w : World} {base : Nat} {E : TypeId} {mk : α → Value} {a : Option Addr} {n cap : Nat} {xs : List α} (h : Own w base E mk (.slice a n cap) xs) (k : Nat) (hk : k < n) :
    ∃ g cur, a = some ⟨g, 0, none⟩ ∧ base ≤ g ∧ w.heap[g]? = some (.cells cur E (0, 0)) ∧ n ≤ cap ∧ cap ≤ maxLen ∧ ∃ x, xs[k]? = some x ∧ cur[k]? = some (mk x) := by
  obtain ⟨a', cap', h1, h2, h3, h4⟩ := h
  injection h1 with e1 e2 e3
  subst e1 e3
  rcases h4 with ⟨_, rfl⟩ | ⟨g, cur, e, hg, hc, hx⟩
  · simp at e2; omega
  · have h5 := hx k (by omega)
    rw [List.getElem?_eq_getElem (by omega)] at h5
    exact ⟨g, cur, e, hg, hc, by omega, h2, _, List.getElem?_eq_getElem (by omega), h5⟩

theorem own_len {α : Type} {w : World} {base : Nat} {E : TypeId} {mk : α → Value} {v : Value} {xs : List α} (h : Own w base E mk v xs) : ∃ a cap, v = .slice a xs.length cap ∧ xs.length ≤ maxLen := by
  obtain ⟨a, cap, h1, h2, h3, h4⟩ := h
  exact ⟨a, cap, h1, by omega⟩

theorem cell_k {w : World} {g : Nat} {cur : Array Value} {E : TypeId} {fr : Nat × Nat} {k : Nat} {v : Value} (hc : w.heap[g]? = some (.cells cur E fr)) (hk : cur[k]? = some v) : w.cell? ⟨g, k, none⟩ = some v := by
  rw [cell_of_row w g k cur E fr hc, hk]

/-- The numbers that the helpers write. -/
def marks (k : Int) (n : Nat) : List Int := (List.range n).map (fun i : Nat => k + (i : Int))

theorem marks_len (k : Int) (n : Nat) : (marks k n).length = n := by simp [marks]

theorem marks_get (k : Int) (n i : Nat) (h : i < n) : (marks k n)[i]? = some (k + (i : Int)) := by simp [marks, h]

/-- What writing into a list does: it holds other elements, and all else is as it was. -/
def Marked (w : World) (E : TypeId) (b : Nat) (v : Value) (m : Int) (n : Nat) (e : Ending) (w' : World) : Prop :=
  e = .returned (.int .i64 (m + n)) ∧ Own w' b E (Value.int .i64) v (marks m n) ∧ Below b w w' ∧ ∀ k o, w.heap[k]? = some o → (∀ g n c, v = .slice (some ⟨g, 0, none⟩) n c → k ≠ g) → w'.heap[k]? = some o

end Go.Proofs.YtmniodfdoidffaaDoor

namespace Go.Proofs.YtmniodfdoidffaaDoor
open Go.RowKit

set_option maxRecDepth 100000 in
set_option maxHeartbeats 1000000 in
theorem eqF_same (xs : List Nat) (hfin : ∀ x ∈ xs, fin32 x = true) (v1 v2 : Value) (b1 b2 : Nat) (w : World) (h1 : Own w b1 25 (Value.float .f32) v1 xs) (h2 : Own w b2 25 (Value.float .f32) v2 xs) :
    Calls Tryd.prog 42 #[v1, v2] w fun e w' => e = .returned (.bool true) ∧ Below w.heap.size w w' := by
  obtain ⟨a1, c1, rfl, hm⟩ := own_len h1
  obtain ⟨a2, c2, rfl, _⟩ := own_len h2
  have HO1 : Hid (∀ wr, Below w.heap.size w wr → Own wr b1 25 (Value.float .f32) (.slice a1 xs.length c1) xs) := fun wr hb => own_below h1 hb (Nat.le_refl _)
  have HO2 : Hid (∀ wr, Below w.heap.size w wr → Own wr b2 25 (Value.float .f32) (.slice a2 xs.length c2) xs) := fun wr hb => own_below h2 hb (Nat.le_refl _)
  have HFI := Lib.hid hfin
  clear h1 h2 hfin
  generalize xs.length = n at *
  unfold maxLen at hm
  go_enter Tryd.func42, Tryd.ntmps42
  go_wp2
  go_loopw [5] (fun i wr => ∃ k : Nat, k ≤ n ∧ i = .int .i64 k ∧ Below w.heap.size w wr) (fun i _ => n - (intOf i).toNat)
  case atStart => exact ⟨0, Nat.zero_le _, rfl, Below.refl _ _⟩
  case round =>
    obtain ⟨k, hk, rfl, hb⟩ := hrel
    by_cases hlt : k < n
    · obtain ⟨g1, cur1, rfl, _, hg1, hc1, hm1, x, hx, hk1⟩ := own_get (HO1.out wr hb) k hlt
      obtain ⟨g2, cur2, rfl, _, hg2, hc2, hm2, y, hy, hk2⟩ := own_get (HO2.out wr hb) k hlt
      obtain rfl : x = y := by rw [hx] at hy; exact Option.some.inj hy
      have hf : fin32 x = true := HFI.out x (List.mem_of_getElem? hx)
      have hw0 := run_wide _ hf
      have Hv0 := Lib.hid hf
      have q1 := cell_k hg1 hk1
      have q2 := cell_k hg2 hk2
      unfold maxLen at hm1 hm2
      clear hg1 hg2 hk1 hk2 hx hy hf
      have z0 : (0 : Int) ≤ (k : Int) := by omega
      have z1 : (k : Int) < (n : Int) := by omega
      have z2 : decide ((k : Int) < (n : Int)) = true := decide_eq_true z1
      go_wp2
      refine wp_region_held_drew (S := (fun W => W.cell? ⟨g1, k, none⟩ = some (.float .f32 x) ∧ W.cell? ⟨g2, k, none⟩ = some (.float .f32 x) ∧ Below w.heap.size w W)) (by kernel_rfl) ⟨by simpa using q1, by simpa using q2, hb.drew⟩ (fun hHeld => ?_)
      refine take_op (i := 0) (d := 17) (v := ?_) rfl rfl (by kernel_rfl) (by kernel_rfl) (by kernel_rfl) (fun _ _ _ h => h) (Or.inl ⟨by rfl, ?hy0u1⟩) hHeld ?rest0u1
      case hy0u1 =>
        intro w' hS'
        obtain ⟨s1, s2, _⟩ := hS'
        go_simp
        try with_reducible rfl
      simp only [List.setIfInBounds_toArray, List.set_cons_zero, List.set_cons_succ]
      refine take_op (i := 1) (d := 18) (v := ?_) rfl rfl (by kernel_rfl) (by kernel_rfl) (by kernel_rfl) (fun _ _ _ h => h) (Or.inl ⟨by rfl, ?hy1u2⟩) hHeld ?rest1u2
      case hy1u2 =>
        intro w' hS'
        obtain ⟨s1, s2, _⟩ := hS'
        go_simp
        try with_reducible rfl
      simp only [List.setIfInBounds_toArray, List.set_cons_zero, List.set_cons_succ]
      refine take_op (i := 2) (d := 19) (v := ?_) rfl rfl (by kernel_rfl) (by kernel_rfl) (by kernel_rfl) (fun _ _ _ h => h) (Or.inl ⟨by rfl, ?hy2u3⟩) hHeld ?rest2u3
      case hy2u3 =>
        intro w' hS'
        obtain ⟨s1, s2, _⟩ := hS'
        go_simp
        try with_reducible rfl
      simp only [List.setIfInBounds_toArray, List.set_cons_zero, List.set_cons_succ]
      refine take_op (i := 3) (d := 20) (v := ?_) rfl rfl (by kernel_rfl) (by kernel_rfl) (by kernel_rfl) (fun _ _ _ h => h) (Or.inl ⟨by rfl, ?hy3u4⟩) hHeld ?rest3u4
      case hy3u4 =>
        intro w' hS'
        obtain ⟨s1, s2, _⟩ := hS'
        go_simp
        try with_reducible rfl
      simp only [List.setIfInBounds_toArray, List.set_cons_zero, List.set_cons_succ]
      refine take_op (i := 4) (d := 21) (v := ?_) rfl rfl (by kernel_rfl) (by kernel_rfl) (by kernel_rfl) (fun _ _ _ h => h) (Or.inl ⟨by rfl, ?hy4u5⟩) hHeld ?rest4u5
      case hy4u5 =>
        intro w' hS'
        obtain ⟨s1, s2, _⟩ := hS'
        go_simp
        try with_reducible rfl
      simp only [List.setIfInBounds_toArray, List.set_cons_zero, List.set_cons_succ]
      refine take_op (i := 5) (d := 22) (v := ?_) rfl rfl (by kernel_rfl) (by kernel_rfl) (by kernel_rfl) (fun _ _ _ h => h) (Or.inl ⟨by rfl, ?hy5u6⟩) hHeld ?rest5u6
      case hy5u6 =>
        intro w' hS'
        obtain ⟨s1, s2, _⟩ := hS'
        go_simp
        try with_reducible rfl
      simp only [List.setIfInBounds_toArray, List.set_cons_zero, List.set_cons_succ]
      refine take_op (i := 6) (d := 23) (v := ?_) rfl rfl (by kernel_rfl) (by kernel_rfl) (by kernel_rfl) (fun _ _ _ h => h) (Or.inl ⟨by rfl, ?hy6u7⟩) hHeld ?rest6u7
      case hy6u7 =>
        intro w' hS'
        obtain ⟨s1, s2, _⟩ := hS'
        go_simp
        try with_reducible rfl
      simp only [List.setIfInBounds_toArray, List.set_cons_zero, List.set_cons_succ]
      refine take_op (i := 7) (d := 24) (v := ?_) rfl rfl (by kernel_rfl) (by kernel_rfl) (by kernel_rfl) (fun _ _ _ h => h) (Or.inl ⟨by rfl, ?hy7u8⟩) hHeld ?rest7u8
      case hy7u8 =>
        intro w' hS'
        obtain ⟨s1, s2, _⟩ := hS'
        go_simp
        try with_reducible rfl
      simp only [List.setIfInBounds_toArray, List.set_cons_zero, List.set_cons_succ]
      refine take_op (i := 8) (d := 25) (v := ?_) rfl rfl (by kernel_rfl) (by kernel_rfl) (by kernel_rfl) (fun _ _ _ h => h) (Or.inl ⟨by rfl, ?hy8u9⟩) hHeld ?rest8u9
      case hy8u9 =>
        intro w' hS'
        obtain ⟨s1, s2, _⟩ := hS'
        go_simp
        try with_reducible rfl
      simp only [List.setIfInBounds_toArray, List.set_cons_zero, List.set_cons_succ]
      refine take_op (i := 9) (d := 26) (v := ?_) rfl rfl (by kernel_rfl) (by kernel_rfl) (by kernel_rfl) (fun _ _ _ h => h) (Or.inl ⟨by rfl, ?hy9u10⟩) hHeld ?rest9u10
      case hy9u10 =>
        intro w' hS'
        obtain ⟨s1, s2, _⟩ := hS'
        go_simp
        try with_reducible rfl
      simp only [List.setIfInBounds_toArray, List.set_cons_zero, List.set_cons_succ]
      refine wpAnyH_ready (rs := [10]) (by kernel_rfl) (by simp) ?_
      refine AllReadyH.cons rfl (fun K hK => ?_) AllReadyH.nil
      go_simp
      refine (same_wide _ Hv0.out _).mono ?_
      rintro e w' ⟨rfl, rfl⟩
      refine hK.out _ _ (hHeld) (fun hHeld2 => ?_)
      clear hK K
      replace hHeld := hHeld2
      clear hHeld2
      refine take_op (i := 11) (d := 28) (v := ?_) rfl rfl (by kernel_rfl) (by kernel_rfl) (by kernel_rfl) (fun _ _ _ h => h) (Or.inl ⟨by rfl, ?hy11u11⟩) hHeld ?rest11u11
      case hy11u11 =>
        intro w' hS'
        go_simp
        try with_reducible rfl
      simp only [List.setIfInBounds_toArray, List.set_cons_zero, List.set_cons_succ]
      refine wpAnyH_done (by kernel_rfl) ?_ _
      have hbx := hHeld.2.2
      clear hHeld q1 q2 hb
      go_wp2
      go_roundw
      case rel => exact ⟨k + 1, by omega, by go_num, hbx⟩
      case measure => simp [intOf]; omega
    · obtain rfl : k = n := by omega
      go_wp2
      go_ret
      exact ⟨rfl, hb⟩

end Go.Proofs.YtmniodfdoidffaaDoor

namespace Go.Proofs.YtmniodfdoidffaaDoor
open Go.RowKit

theorem run_store_fl (P : Program) (w : World) (a : Addr) (k : FloatKind) (b : Nat) (m : Mode) : (store a (.float k b) m).run P w = stored P w a (.float k b) m := run_store P w a _ m rfl
attribute [local go_sem] run_store_fl

theorem mark_num_nat : ∀ n : Nat, n < 2001 → floatOfInt .f32 (n : Int) < 2139095040 := by decide +kernel

theorem mark_order (j : Int) (h0 : 0 ≤ j) (h1 : j ≤ 2000) : FloatKind.f32.format.order (floatOfInt .f32 j) (floatOfInt .f32 j) = some .eq := by
  obtain ⟨n, rfl⟩ := Int.eq_ofNat_of_zero_le h0
  have h := mark_num_nat n (by omega)
  rw [order_num (.inl h) (.inl h)]
  simp

def marksF (k : Int) (n : Nat) : List Nat := (List.range n).map (fun i : Nat => floatOfInt .f32 (k + (i : Int)))

theorem marksF_len (k : Int) (n : Nat) : (marksF k n).length = n := by simp [marksF]

theorem marksF_get (k : Int) (n i : Nat) (h : i < n) : (marksF k n)[i]? = some (floatOfInt .f32 (k + (i : Int))) := by simp [marksF, h]

set_option maxRecDepth 100000 in
set_option maxHeartbeats 1000000 in
theorem heldF_same (m : Int) (n : Nat) (v : Value) (b : Nat) (w : World) (hm0 : 0 ≤ m) (hm1 : m ≤ 1000) (hn : n ≤ 1000) (h1 : Own w b 25 (Value.float .f32) v (marksF m n)) :
    Calls Tryd.prog 46 #[v, .int .i64 m] w fun e w' => e = .returned (.int .i64 (m + n)) ∧ Below w.heap.size w w' := by
  obtain ⟨a1, c1, rfl, hm⟩ := own_len h1
  have HO1 : Hid (∀ wr, Below w.heap.size w wr → Own wr b 25 (Value.float .f32) (.slice a1 (marksF m n).length c1) (marksF m n)) := fun wr hb => own_below h1 hb (Nat.le_refl _)
  rw [marksF_len] at HO1 hm ⊢
  clear h1
  unfold maxLen at hm
  go_enter Tryd.func46, Tryd.ntmps46
  go_wp2
  go_loopw [1, 5] (fun q i wr => ∃ k : Nat, k ≤ n ∧ i = .int .i64 k ∧ q = .int .i64 (m + k) ∧ Below w.heap.size w wr) (fun _ i _ => n - (intOf i).toNat)
  case atStart => exact ⟨0, Nat.zero_le _, rfl, by simp, Below.refl _ _⟩
  case round =>
    obtain ⟨k, hk, rfl, rfl, hb⟩ := hrel
    by_cases hlt : k < n
    · obtain ⟨g1, cur1, rfl, _, hg1, hc1, hm1, x, hx, hk1⟩ := own_get (HO1.out wr hb) k hlt
      have ho := mark_order (m + (k : Int)) (by omega) (by omega)
      obtain rfl : floatOfInt .f32 (m + (k : Int)) = x := by rw [marksF_get m n k hlt] at hx; exact Option.some.inj hx
      have q1 := cell_k hg1 hk1
      unfold maxLen at hm1
      clear hg1 hk1 hx
      have z0 : (0 : Int) ≤ (k : Int) := by omega
      have z1 : (k : Int) < (n : Int) := by omega
      go_wp2
      go_roundw
      case rel => exact ⟨k + 1, by omega, by go_num, by go_num, hb⟩
      case measure => simp [intOf]; omega
    · obtain rfl : k = n := by omega
      go_wp2
      go_ret
      exact ⟨rfl, hb⟩

/-- What writing into a list does: it holds other elements, and all else is as it was. -/
def MarkedF (w : World) (E : TypeId) (b : Nat) (v : Value) (m : Int) (n : Nat) (e : Ending) (w' : World) : Prop :=
  e = .returned (.int .i64 (m + n)) ∧ Own w' b E (Value.float .f32) v (marksF m n) ∧ Below b w w' ∧ ∀ k o, w.heap[k]? = some o → (∀ g n c, v = .slice (some ⟨g, 0, none⟩) n c → k ≠ g) → w'.heap[k]? = some o

set_option maxRecDepth 100000 in
set_option maxHeartbeats 1000000 in
theorem markF_any (m : Int) (xs : List Nat) (v : Value) (b : Nat) (w : World) (hm0 : 0 ≤ m) (hm1 : m ≤ 4000000) (hn : xs.length ≤ 2000000) (h1 : Own w b 25 (Value.float .f32) v xs) :
    Calls Tryd.prog 45 #[v, .int .i64 m] w fun e w' => MarkedF w 25 b v m xs.length e w' := by
  by_cases hz : xs.length = 0
  · obtain ⟨a1, c1, rfl, hm⟩ := own_len h1
    have HR : Hid (∀ wr, Below w.heap.size w wr → Own wr b 25 (Value.float .f32) (.slice a1 xs.length c1) (marksF m xs.length)) := by
      intro wr hb
      obtain ⟨a, cap, e1, e2, e3, e4⟩ := own_below h1 hb (Nat.le_refl _)
      refine ⟨a, cap, by rw [marksF_len]; exact e1, e2, by rw [marksF_len]; omega, ?_⟩
      rcases e4 with ⟨ea, _⟩ | ⟨g, cur, ea, eb, ec, _⟩
      · exact .inl ⟨ea, List.eq_nil_of_length_eq_zero (by rw [marksF_len]; exact hz)⟩
      · exact .inr ⟨g, cur, ea, eb, ec, fun k hk => by rw [marksF_len] at hk; omega⟩
    clear h1
    generalize xs.length = n at *
    subst hz
    go_enter Tryd.func45, Tryd.ntmps45
    go_wp2
    go_loopw [1, 5] (fun q i wr => q = .int .i64 m ∧ i = .int .i64 0 ∧ wr = w) (fun _ _ _ => 0)
    case atStart => exact ⟨rfl, rfl, rfl⟩
    case round =>
      obtain ⟨rfl, rfl, rfl⟩ := hrel
      go_wp2
      go_ret
      exact ⟨by simp, HR.out _ (Below.refl _ _), Below.refl _ _, fun k o hk _ => hk⟩
  · obtain ⟨a1, c1, rfl, hm⟩ := own_len h1
    obtain ⟨g, cur0, rfl, hbg, hg0, hc1, hmc, _, _, _⟩ := own_get h1 0 (by omega)
    have hsz : xs.length ≤ cur0.size := by
      obtain ⟨g', cur', e', _, hg0', _, _, x, _, hl⟩ := own_get h1 (xs.length - 1) (by omega)
      injection e' with e'
      injection e' with e'
      subst e'
      rw [hg0] at hg0'
      injection hg0' with e''
      injection e'' with e''
      subst e''
      have := (Array.getElem?_eq_some_iff.1 hl).1
      omega
    have HG := Lib.hid hg0
    clear h1 hg0
    generalize hln : xs.length = n at *
    unfold maxLen at hmc
    go_enter Tryd.func45, Tryd.ntmps45
    go_wp2
    go_loopw [1, 5] (fun q i wr => ∃ k : Nat, k ≤ n ∧ i = .int .i64 k ∧ q = .int .i64 (m + k) ∧ Below b w wr ∧ (∀ j o, w.heap[j]? = some o → j ≠ g → wr.heap[j]? = some o) ∧ ∃ cur : Array Value, wr.heap[g]? = some (.cells cur 25 (0, 0)) ∧ n ≤ cur.size ∧ ∀ j, j < k → cur[j]? = some (.float .f32 (floatOfInt .f32 (m + j)))) (fun _ i _ => n - (intOf i).toNat)
    case atStart => exact ⟨0, Nat.zero_le _, rfl, by simp, Below.refl _ _, fun j o h _ => h, cur0, HG.out, hsz, fun j h => by omega⟩
    case round =>
      clear HG
      obtain ⟨k, hk, rfl, rfl, hb, hot, cur, hg, hs, hp⟩ := hrel
      have Hot := Lib.hid hot
      have Hp := Lib.hid hp
      have HG := Lib.hid hg
      by_cases hlt : k < n
      · have q1 : wr.cell? ⟨g, k, none⟩ = some (cur[k]'(by omega)) := cell_k hg (Array.getElem?_eq_getElem (by omega))
        have q2 := frozen_of_row wr g k _ _ hg
        have z0 : (0 : Int) ≤ (k : Int) := by omega
        have z1 : (k : Int) < (n : Int) := by omega
        clear hot hp hg
        go_wp2
        go_roundw
        case rel =>
          refine ⟨k + 1, by omega, by go_num, by go_num, hb.setCell (p := ⟨g, k, none⟩) hbg _, ?_, cur.setIfInBounds k (.float .f32 (floatOfInt .f32 (m + k))), ?_, by simpa using hs, ?_⟩
          · intro j o h hne
            rw [heap_setCell_other _ _ _ _ (by simpa using hne)]
            exact Hot.out j o h hne
          · rw [heap_setCell_same _ _ _ _ _ _ HG.out]
          · intro j hj
            rw [Array.getElem?_setIfInBounds]
            by_cases e : k = j
            · subst e; rw [if_pos rfl, if_pos (by omega)]
            · rw [if_neg e]; exact Hp.out j (by omega)
        case measure => simp [intOf]; omega
      · obtain rfl : k = n := by omega
        have HR : Hid (Own wr b 25 (Value.float .f32) (.slice (some ⟨g, 0, none⟩) k c1) (marksF m k)) := by
          refine ⟨_, c1, by rw [marksF_len], by unfold maxLen; omega, by rw [marksF_len]; exact hc1, .inr ⟨g, cur, rfl, hbg, hg, fun j hj => ?_⟩⟩
          rw [marksF_len] at hj
          rw [hp j hj, marksF_get m k j hj]; rfl
        clear hot hp hg
        go_wp2
        go_ret
        exact ⟨rfl, HR.out, hb, fun j o h hne => Hot.out j o h (hne g _ _ rfl)⟩

end Go.Proofs.YtmniodfdoidffaaDoor

namespace Go.Proofs.YtmniodfdoidffaaDoor
open Go.RowKit

/-- The block of a list lies below B, or from B on. -/
def Under (v : Value) (B : Nat) : Prop := ∀ g n c, v = .slice (some ⟨g, 0, none⟩) n c → g < B

def Above (v : Value) (B : Nat) : Prop := ∀ g n c, v = .slice (some ⟨g, 0, none⟩) n c → B ≤ g

theorem under_of {α : Type} {w : World} {b : Nat} {E : TypeId} {mk : α → Value} {v : Value} {xs : List α} (h : Own w b E mk v xs) : Under v w.heap.size := by
  obtain ⟨a, c, rfl, _, _, h4⟩ := h
  intro g n c' e
  injection e with e1 e2 e3
  rcases h4 with ⟨ea, _⟩ | ⟨g', cur, ea, _, hc, _⟩
  · rw [ea] at e1; cases e1
  · rw [ea] at e1
    injection e1 with e1
    injection e1 with e1
    subst e1
    exact row_lt hc

theorem above_of {α : Type} {w : World} {b : Nat} {E : TypeId} {mk : α → Value} {v : Value} {xs : List α} (h : Own w b E mk v xs) : Above v b := by
  obtain ⟨a, c, rfl, _, _, h4⟩ := h
  intro g n c' e
  injection e with e1 e2 e3
  rcases h4 with ⟨ea, _⟩ | ⟨g', cur, ea, hb, hc, _⟩
  · rw [ea] at e1; cases e1
  · rw [ea] at e1
    injection e1 with e1
    injection e1 with e1
    subst e1
    exact hb

theorem under_mono {v : Value} {B C : Nat} (h : Under v B) (hBC : B ≤ C) : Under v C := fun g n c e => Nat.lt_of_lt_of_le (h g n c e) hBC

/-- A list is as it was, when another one has been written into. -/
theorem own_marked {α : Type} {w w' : World} {b B : Nat} {E : TypeId} {mk : α → Value} {v v1 : Value} {xs : List α} {m : Int} {n : Nat} {e : Ending} {E1 : TypeId} (h : Own w b E mk v xs) (hu : Under v B) (ha : Above v1 B) (hm : Marked w E1 B v1 m n e w') : Own w' b E mk v xs := by
  obtain ⟨a, c, rfl, h2, h3, h4⟩ := h
  refine ⟨a, c, rfl, h2, h3, h4.imp id ?_⟩
  rintro ⟨g, cur, rfl, hg, hc, hk⟩
  refine ⟨g, cur, rfl, hg, hm.2.2.2 g _ hc ?_, hk⟩
  intro g' n' c' e'
  have h5 := hu g _ _ rfl
  have h6 := ha g' _ _ e'
  omega

theorem row_marked {w w' : World} {B g : Nat} {v1 : Value} {m : Int} {n : Nat} {e : Ending} {E1 : TypeId} {o : Obj} (h : w.heap[g]? = some o) (hg : g < B) (ha : Above v1 B) (hm : Marked w E1 B v1 m n e w') : w'.heap[g]? = some o := by
  refine hm.2.2.2 g o h ?_
  intro g' n' c' e'
  have h6 := ha g' _ _ e'
  omega

/-- A list and a code, the list being the call's own. -/
def RetList (xs : List Int) (c : Int) (w : World) (e : Ending) (w' : World) : Prop := (∃ v, e = .returned (.tuple #[v, .int .i64 c]) ∧ Own w' w.heap.size 2 (Value.int .i64) v xs) ∧ Below w.heap.size w w'

end Go.Proofs.YtmniodfdoidffaaDoor

namespace Go.Proofs.YtmniodfdoidffaaDoor
open Go.ChangeShapes Go.WideShapes Go.ChangeAt Go.RowKit Go.Deep Go.Joins

attribute [local go_sem] run_store_f

theorem own_floats {w : World} {b : Nat} {v : Value} {zs : List Nat} (h : Own w b 25 (Value.float .f32) v zs) : FloatsAt w v zs := by
  obtain ⟨a, cap, rfl, h2, h3, h4⟩ := h
  refine ⟨a, cap, rfl, h3, h2, fun i x hx => ?_⟩
  rcases h4 with ⟨rfl, rfl⟩ | ⟨g, cur, rfl, hg, hc, hk⟩
  · simp at hx
  · have hi := (List.getElem?_eq_some_iff.1 hx).1
    exact ⟨g, 0, rfl, by rw [Nat.zero_add, cell_of_row w _ _ _ _ _ hc, hk i hi, hx]; rfl⟩

/-- A list of numbers and a code, the list being the call's own. -/
def RetF6 (xs : List Nat) (c : Int) (w : World) (e : Ending) (w' : World) : Prop := (∃ v, e = .returned (.tuple #[v, .int .i64 c]) ∧ Own w' w.heap.size 25 (Value.float .f32) v xs) ∧ Below w.heap.size w w'

theorem own_noneF (w : World) (b : Nat) : Own w b 25 (Value.float .f32) (.slice none 0 0) [] := ⟨none, 0, rfl, by unfold maxLen; omega, Nat.le_refl _, .inl ⟨rfl, rfl⟩⟩

theorem grown_of_below {w w' : World} (h : Below w.heap.size w w') (row : Option Nat) : w.grownBy w' row := ⟨h.os, h.tape, h.output, h.size, fun k hk _ => h.block k hk⟩

theorem not_rowW {W : World} {g : Nat} {cs : Array Value} {t e : TypeId} {fr : Nat × Nat} (h : W.heap[g]? = some (.cells cs t fr)) (hte : t ≠ e) {base size k : Nat} {v : Value} {xs : List Value} (hr : W.ownsRow base e size v k xs) : some g ≠ v.ownBlock := by
  rcases hr.2 with ⟨rfl, _⟩ | ⟨g', cap, cur, rfl, _, hgb, _⟩
  · simp [Value.ownBlock]
  · intro e'
    obtain rfl : g = g' := by simpa [Value.ownBlock] using e'
    rw [h] at hgb
    injection hgb with e1
    injection e1 with _ e2 _
    exact hte e2

theorem owns_below {W w1 : World} {base k : Nat} {e : TypeId} {v : Value} {xs : List Value} (h : W.ownsRow base e 1 v k xs) (hb : Below W.heap.size W w1) : w1.ownsRow base e 1 v k xs :=
  h.kept (grown_of_below hb none) (by cases v.ownBlock <;> simp)

theorem own_of_row {α : Type} {W : World} {base : Nat} {e : TypeId} {mk : α → Value} {v : Value} {xs : List α} (h : W.ownsRow base e 1 v xs.length (xs.map mk)) (_ : xs.length ≤ maxLen) : Own W base e mk v xs := by
  rcases h.2 with ⟨rfl, hz⟩ | ⟨g, cap, cur, rfl, hbg, hg, hnc, hcm, hsz, htk⟩
  · exact ⟨none, 0, by rw [hz], Nat.zero_le _, by omega, .inl ⟨rfl, List.eq_nil_of_length_eq_zero hz⟩⟩
  · refine ⟨_, cap, rfl, hcm, hnc, .inr ⟨g, cur, rfl, hbg, hg, fun k hk => ?_⟩⟩
    have h1 : (cur.toList.take (xs.length * 1))[k]? = cur[k]? := by
      rw [List.getElem?_take_of_lt (by omega), Array.getElem?_toList]
    rw [← h1, htk, List.getElem?_map]

theorem row_base {W : World} {base k : Nat} {e : TypeId} {v : Value} {xs : List Value} (h : W.ownsRow base e 1 v k xs) : ∀ j, v.ownBlock = some j → base ≤ j := fun j e => (h.lt j e).1

theorem kept_append2 {W w1 : World} {g base k : Nat} {cs : Array Value} {t e : TypeId} {fr : Nat × Nat} {v : Value} {xs : List Value} {tmp : Obj} (h : W.heap[g]? = some (.cells cs t fr)) (hte : t ≠ e) (hr : W.ownsRow base e 1 v k xs)
    (hg : (W.alloc tmp).grownBy w1 v.ownBlock) : w1.heap[g]? = some (.cells cs t fr) := by
  have h1 : (W.alloc tmp).heap[g]? = some (.cells cs t fr) := below_row ((Below.refl W.heap.size W).alloc (Nat.le_refl _) _) h
  exact (hg.block g (row_lt h1) (not_rowW h hte hr)).trans h1

theorem own_base0 {W : World} {base : Nat} {v : Value} (h : W.ownsRow base 25 1 v 0 []) : Own W base 25 (Value.float .f32) v [] := own_of_row (xs := ([] : List Nat)) h (by unfold maxLen; simp)

theorem own_markedA {α : Type} {w w' : World} {b B : Nat} {E : TypeId} {mk : α → Value} {v v1 : Value} {xs : List α} {m : Int} {n : Nat} {e : Ending} {E1 : TypeId} {b1 : Nat} (h : Own w b E mk v xs) (ha : Above v B) (hu : Under v1 B) (hm : Marked w E1 b1 v1 m n e w') : Own w' b E mk v xs := by
  obtain ⟨a, c, rfl, h2, h3, h4⟩ := h
  refine ⟨a, c, rfl, h2, h3, h4.imp id ?_⟩
  rintro ⟨g, cur, rfl, hg, hc, hk⟩
  refine ⟨g, cur, rfl, hg, hm.2.2.2 g _ hc ?_, hk⟩
  intro g' n' c' e'
  have h5 := ha g _ _ rfl
  have h6 := hu g' _ _ e'
  omega

theorem own_markedF {α : Type} {w w' : World} {b B : Nat} {E : TypeId} {mk : α → Value} {v v1 : Value} {xs : List α} {m : Int} {n : Nat} {e : Ending} {E1 : TypeId} (h : Own w b E mk v xs) (hu : Under v B) (ha : Above v1 B) (hm : MarkedF w E1 B v1 m n e w') : Own w' b E mk v xs := by
  obtain ⟨a, c, rfl, h2, h3, h4⟩ := h
  refine ⟨a, c, rfl, h2, h3, h4.imp id ?_⟩
  rintro ⟨g, cur, rfl, hg, hc, hk⟩
  refine ⟨g, cur, rfl, hg, hm.2.2.2 g _ hc ?_, hk⟩
  intro g' n' c' e'
  have h5 := hu g _ _ rfl
  have h6 := ha g' _ _ e'
  omega

theorem own_markedAF {α : Type} {w w' : World} {b B : Nat} {E : TypeId} {mk : α → Value} {v v1 : Value} {xs : List α} {m : Int} {n : Nat} {e : Ending} {E1 : TypeId} {b1 : Nat} (h : Own w b E mk v xs) (ha : Above v B) (hu : Under v1 B) (hm : MarkedF w E1 b1 v1 m n e w') : Own w' b E mk v xs := by
  obtain ⟨a, c, rfl, h2, h3, h4⟩ := h
  refine ⟨a, c, rfl, h2, h3, h4.imp id ?_⟩
  rintro ⟨g, cur, rfl, hg, hc, hk⟩
  refine ⟨g, cur, rfl, hg, hm.2.2.2 g _ hc ?_, hk⟩
  intro g' n' c' e'
  have h5 := ha g _ _ rfl
  have h6 := hu g' _ _ e'
  omega

end Go.Proofs.YtmniodfdoidffaaDoor
