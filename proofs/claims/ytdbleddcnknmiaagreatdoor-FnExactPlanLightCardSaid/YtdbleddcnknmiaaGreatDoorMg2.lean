/-
  Hours, Round, Held, Valid, Take, ValidPlan, CkP, AwA, Box, ShA, Near, Add, FallN, ShadeN, LawValid, Fns, Up, Angle, Same, Ground.
-/
import Derived.RangeFuncNested
import Derived.RangeFuncBound
import Derived.RangeFuncCalls
import Derived.RangeFuncLeaves
import Derived.RangeFuncFrom
import Derived.RangeFuncWrites
import Derived.Shelf.Abstract
import Derived.Shelf.RegionOpen
import Derived.WalkKit
import Derived.OwnWalkIn
import Derived.TacticsInMore
import Derived.LoopNIn
import Derived.LoopIn
import Derived.Test.YtdbleddcnknmiaaGreatDoorMg1
import Derived.Deep.RegionHeld3
import Derived.OrdersIn
import Derived.StillTail
import Derived.StillTailTactics
import Derived.Test.YtdbleddcnknmiaaGreatDoorRow
import Derived.Tactics2
import Derived.Defers
import Derived.Recover
import Derived.Laws.Pointers
import Derived.Stop.Asserts
import Derived.Deep.Cut
import Derived.Deep.DeepCutAuto
import Derived.Test.YtdbleddcnknmiaaGreatDoorRows
import Derived.WalkSpells
import Derived.WalkLawsBesides
import Derived.Lib.Hide
import Derived.Laws.Tables
import Derived.Great.BuildSlice
import Derived.Laws.EntriesVeiled

namespace Go.Proofs.YtdbleddcnknmiaaGreatDoor
open Go.RowKit Go.Shelf

/-- An hour of a day. -/
abbrev Hr := { h : Int // 0 ≤ h ∧ h < 24 }

def hr (k : Nat) : Hr := ⟨(k % 24 : Nat), by omega⟩

theorem hr_val (k : Nat) (h : k < 24) : (hr k).1 = (k : Int) := by simp [hr, Nat.mod_eq_of_lt h]

def hrs (k : Nat) : List Hr := (List.range k).map hr

theorem hrs_succ (k : Nat) : hrs (k + 1) = hrs k ++ [hr k] := by simp [hrs, List.range_succ]
@[simp] theorem hrs_length (k : Nat) : (hrs k).length = k := by simp [hrs]

set_option maxRecDepth 100000 in
set_option maxHeartbeats 1000000 in
theorem eachHour_in (F : Fence) (n : Nat) (hF : F.fn 50) (hro : F.round = none) (hn : 1 ≤ n) (l n₀ : Nat) (J Jx : List Hr → World → Prop)
    (hY : ∀ pre x W, J pre W → pre.length < 24 → YieldAt F (n - 1) Tryz.prog l #[.int .i64 x.1] W fun e W' =>
      (e = .returned (.bool true) ∧ J (pre ++ [x]) W' ∧ Below n₀ W W') ∨ (e = .returned (.bool false) ∧ Jx (pre ++ [x]) W'))
    (W : World) (h0 : J [] W) :
    CallsIn F n Tryz.prog 50 #[.func (.yield l) #[] #[]] W fun e W' => (∃ v, e = .returned v) ∧
      ((∃ xs, xs = hrs 24 ∧ J xs W') ∨ (∃ pre, (∃ k, k ≤ 24 ∧ pre = hrs k) ∧ Jx pre W')) := by
  refine callsIn_of_wp Tryz.func50 rfl hF ?_ hro
  simp only [Tryz.ntmps50, List.size_toArray, List.length_cons, List.length_nil, Nat.reduceAdd, Nat.reduceSub, Array.replicate_succ, Array.replicate_zero, List.push_toArray, List.append_toArray, List.nil_append, List.cons_append]
  gi_wp2
  gi_loopw [3] (fun i wr => ∃ k : Nat, k ≤ 24 ∧ i = .int .i64 k ∧ J (hrs k) wr ∧ Below n₀ W wr) (fun i _ => 24 - (intOf i).toNat)
  case atStart => exact ⟨0, Nat.zero_le _, rfl, h0, Below.refl _ _⟩
  case round =>
    obtain ⟨k, hk, rfl, hJs, hnx⟩ := hrel
    by_cases hlt : k < 24
    · obtain ⟨fn, tmps, assign, body, hy, hR⟩ := hY _ (hr k) wr hJs (by rw [hrs_length]; exact hlt)
      rw [hr_val k hlt] at hy
      gi_wp2
      refine hR.mono ?_
      rintro e W3 (⟨rfl, hJ3, hk3⟩ | ⟨rfl, hJx3⟩)
      · gi_wp2
        go_roundw
        case rel => exact ⟨k + 1, by omega, by simp, by rw [hrs_succ]; exact hJ3, hnx.trans hk3⟩
        case measure => simp [intOf]; omega
      · gi_wp2
        refine bodyPost_ret (results_none rfl _ _ _) rfl ?_
        exact ⟨⟨_, rfl⟩, .inr ⟨_, ⟨k + 1, by omega, (hrs_succ _).symm⟩, hJx3⟩⟩
    · obtain rfl : k = 24 := by omega
      gi_wp2
      go_end0
      exact ⟨⟨_, rfl⟩, .inl ⟨_, rfl, hJs⟩⟩

theorem eachHour_stops (F : Fence) (n : Nat) (hF : F.fn 50) (hro : F.round = none) (hn : 1 ≤ n) (n₀ : Nat) (w : World) :
    SeqStopsK F n Tryz.prog 50 #[] (fun x : Hr => #[Value.int .i64 x.1]) (Below n₀) (fun xs => xs = hrs 24) (fun pre => ∃ k, k ≤ 24 ∧ pre = hrs k) 24 w := fun l J Jx W _ _ _ hY h0 =>
  eachHour_in F n hF hro hn l n₀ J Jx hY W h0

end Go.Proofs.YtdbleddcnknmiaaGreatDoor

namespace Go.Proofs.YtdbleddcnknmiaaGreatDoor
open Go Go.RowKit

section

variable {P : Program}

theorem op_round {l n : Nat} {o : Oper} {a : Act} {w : World} {K : Act → World → Prop} {Q : Exit → Act → World → Prop} (hd : ∀ c, o.op ≠ .defer c) (h : o.wp P a w K Q) :
    o.wpIn (Fence.wide.inRound l) n P a w K Q := by
  refine ⟨fun _ _ => trivial, ?_⟩
  rw [Oper.semAt_eq _ _ _ hd]
  unfold Oper.wp at h
  generalize (execOp a.eval o).run P w = r at *
  cases r with
  | ok x w' =>
    cases x <;> simp only [Oper.upon, Oper.uponIn] at h ⊢
    case value => exact h
    case skip => exact h
    case defer => exact h
    case enter f args => exact ⟨fun h => (by cases h), CallsIn.inRound l (callsIn_wide.2 (h.mono fun e w' he => by cases e <;> exact he))⟩
    case row row args => exact ⟨fun h => (by cases h), fun c cs _ => let ⟨v, w', r, s⟩ := h c cs; ⟨v, w', r, stepsIn_wide.2 s⟩⟩
  | halt x w' => cases x <;> simp only [Oper.upon, Oper.uponIn] at h ⊢ <;> exact h


theorem any_round {l n : Nat} {md : Region.Mode} {ops : Array Oper} {Q : Exit → Act → World → Prop} (hd : ∀ (i : Nat) (o : Oper), ops[i]? = some o → ∀ c, o.op ≠ .defer c) (hlo : ¬ LetsOut Q) :
    ∀ (fuel : Nat) (listed : Array Bool) (a : Act) (w : World), wpAny P md ops Q fuel listed a w → wpAnyIn (Fence.wide.inRound l) n P md ops Q fuel listed a w
  | 0, _, _, _, h => h
  | fuel + 1, listed, a, w, h => by
    refine ⟨h.1, fun i hi => ?_⟩
    have h1 := h.2 i hi
    unfold wpOp at h1
    unfold wpOpIn
    cases ho : ops[i]? with
    | none => simp only [ho] at h1; exact any_round hd hlo fuel _ _ _ h1
    | some o =>
      simp only [ho] at h1 ⊢
      split
      · rename_i hw
        rw [if_pos hw] at h1
        have h2 := h1.resolve_right (fun h => hlo h.2)
        exact Oper.wpIn_mono (fun a w h => any_round hd hlo fuel _ a w h) (op_round (hd i o ho) h2)
      · rename_i hw
        rw [if_neg hw] at h1
        exact ⟨fun _ _ => trivial, any_round hd hlo fuel _ _ _ h1⟩

/-- A region that draws its order, in a round: from the law for a region under a held condition. -/
theorem region_round {l n id : Nat} {ops : Array Oper} {Q : Exit → Act → World → Prop} {S : World → Prop} {a : Act} {w : World} (hm : P.follows .mixedOrders = true)
    (hd : ∀ (i : Nat) (o : Oper), ops[i]? = some o → ∀ c, o.op ≠ .defer c) (hlo : ¬ LetsOut Q) (hS : S w.drew)
    (h : S w.drew → wpAnyH P .any ops Q S ops.size (Array.replicate ops.size false) a w.drew) : (Code.region id ops true).wpIn (Fence.wide.inRound l) n P Q a w :=
  wpIn_region_any hm (any_round hd hlo _ _ _ _ (wpAny_of_held _ _ _ _ (h hS)))

/-- Reads before one store, in a round. -/
theorem still_tail_round {l n id k : Nat} {Q : Exit → Act → World → Prop} {a : Act} {w : World} {os : List Oper} (hm : P.follows .mixedOrders = true) (hB : Region.lexTailB .any os.toArray k = true)
    (hd : ∀ (i : Nat) (o : Oper), os.toArray[i]? = some o → ∀ c, o.op ≠ .defer c) (hlo : ¬ LetsOut Q)
    (h : wpStill P os.toArray w.drew (fun a' => wpList P os.toArray Q (os.drop k) a' w.drew) (os.take k) a) : (Code.region id os.toArray true).wpIn (Fence.wide.inRound l) n P Q a w := by
  refine wpIn_region_any hm (any_round hd hlo _ _ _ _ ?_)
  simp only [Region.lexTailB, Bool.and_eq_true, decide_eq_true_eq] at hB
  obtain ⟨⟨⟨⟨hsel, hk⟩, hs⟩, hc⟩, hlex⟩ := hB
  have hk' : k < os.length := by simpa using hk
  have htl : (os.take k).length = k := by simp; omega
  have hdl : (os.drop k).length = os.toArray.size - k := by simp
  have inv0 : HeadInv .any os.toArray k (Array.replicate os.toArray.size false) :=
    ⟨by simp, fun j oj _ hl => (by rw [getD_replicate_false] at hl; cases hl), fun t _ ht => getD_in (by simpa using ht) (getD_replicate_false _ _)⟩
  have H := wpAnyL_lex (md := .any) (g := os.toArray.size - k) hsel hs hc hk (os.take k) 0 _ a (fun j hj => by
    have hj' : j < k := by rw [htl] at hj; exact hj
    simp [hj']) (by simpa using htl) inv0 (by rw [htl]; exact hlex) h
  have H2 := wpAny_of_head (Q' := Q) (g := os.toArray.size - k) (fun listed a' hL => by
    have h3 := wpAny_of_seq (md := .any) (Q' := Q) (os.drop k) k listed a' w.drew (fun j => by simp [List.getElem?_drop]) (by rw [hdl]; exact hL.1) hL.2
    rwa [hdl] at h3) _ _ _ H
  rw [htl, show k + (os.toArray.size - k) = os.toArray.size by omega] at H2
  exact H2

theorem no_defer {ops : List Oper} (h : ops.all (fun o => match o.op with | .defer _ => false | _ => true) = true) : ∀ (i : Nat) (o : Oper), ops.toArray[i]? = some o → ∀ c, o.op ≠ .defer c := by
  intro i o ho c hc
  have hm : o ∈ ops := List.mem_iff_getElem?.2 ⟨i, by simpa using ho⟩
  have := List.all_eq_true.1 h o hm
  rw [hc] at this
  cases this

end

end Go.Proofs.YtdbleddcnknmiaaGreatDoor

namespace Go.Proofs.YtdbleddcnknmiaaGreatDoor
open Go.RowKit Go.Shelf

attribute [local go_sem] Oper.semAt_some

theorem heap_kept {W W' : World} {row : Option Nat} {b : Nat} {cs : Array Value} {t : TypeId} {fr : Nat × Nat} (h : W.heap[b]? = some (.cells cs t fr)) (hg : W.grownBy W' row)
    (hr : ∀ r, row = some r → ∃ o : Obj, W.heap[r]? = some o ∧ o.isCells = false) : W'.heap[b]? = some (.cells cs t fr) := by
  have hlt := (Array.getElem?_eq_some_iff.1 h).1
  rw [← h]
  refine hg.block b hlt fun e => ?_
  obtain ⟨o, ho, hc⟩ := hr b e.symm
  rw [h] at ho
  cases ho
  cases hc

/-- A number between two bounds. -/
def clampI (lo hi y : Int) : Int := if hi < (if lo > y then lo else y) then hi else (if lo > y then lo else y)

/-- The list whose first numbers are held. -/
def clampTo (lo hi : Int) (xs : List Int) (k : Nat) : List Int := (xs.take k).map (clampI lo hi) ++ xs.drop k

def Good (pre : List Hr) : Prop := pre = hrs pre.length

theorem good_snoc {pre : List Hr} {x : Hr} (h : Good (pre ++ [x])) (hl : pre.length < 24) : Good pre ∧ x.1 = (pre.length : Int) := by
  unfold Good at h
  rw [List.length_append, List.length_singleton, hrs_succ] at h
  have h1 := List.append_inj_left h (by simp)
  have h2 := List.append_inj_right h (by simp)
  refine ⟨h1, ?_⟩
  injection h2 with h3
  rw [h3, hr_val _ hl]

theorem good_all : Good (hrs 24) := by unfold Good; rw [hrs_length]

theorem clampTo_get (lo hi : Int) (xs : List Int) (k : Nat) (hx : xs.length = 24) (hk : k < 24) : (clampTo lo hi xs k)[k]?.getD 0 = xs[k]?.getD 0 := by
  unfold clampTo
  rw [List.getElem?_append_right (by simp; omega), List.getElem?_drop]
  congr 2
  simp; omega

theorem clampTo_step (lo hi : Int) (xs : List Int) (k : Nat) (hx : xs.length = 24) (hk : k < 24) :
    (clampTo lo hi xs k).set k (clampI lo hi (xs[k]?.getD 0)) = clampTo lo hi xs (k + 1) := by
  apply List.ext_getElem?
  intro j
  unfold clampTo
  simp only [List.getElem?_set, List.getElem?_append, List.length_map, List.length_take, List.getElem?_map, List.getElem?_take, List.getElem?_drop, List.length_append, List.length_drop, hx]
  by_cases h1 : k = j
  · subst h1
    rw [if_pos rfl, if_pos (by omega), if_pos (by omega), if_pos (by omega), List.getElem?_eq_getElem (by omega)]
    rfl
  · rw [if_neg h1]
    by_cases h2 : j < k
    · rw [if_pos (by omega), if_pos (by omega), if_pos (by omega), if_pos (by omega)]
    · rw [if_neg (by omega), if_neg (by omega)]
      congr 1
      omega

theorem clampTo_all (lo hi : Int) (xs : List Int) (hx : xs.length = 24) : clampTo lo hi xs 24 = xs.map (clampI lo hi) := by
  unfold clampTo
  rw [List.take_of_length_le (by omega), List.drop_of_length_le (by omega), List.append_nil]

theorem clampTo_none (lo hi : Int) (xs : List Int) : clampTo lo hi xs 0 = xs := rfl

def HeldI (w : World) (lo hi : Int) (xs : List Int) (pre : List Hr) (W : World) : Prop :=
  ∃ ys : List Int, ys.length = 24 ∧ W.heap[w.heap.size]? = some (.cells (i16s ys) 27 (0, 0)) ∧ W.heap[w.heap.size + 1]? = some (.cells #[.int .i16 lo] 24 (0, 0)) ∧ W.heap[w.heap.size + 1 + 1]? = some (.cells #[.int .i16 hi] 24 (0, 0)) ∧ W.heap[w.heap.size + 1 + 1 + 1]? = some (.cells (i16s zer) 27 (0, 0)) ∧ (Good pre → ys = clampTo lo hi xs pre.length) ∧ Below w.heap.size w W

theorem heldI_own (w : World) (lo hi : Int) (xs : List Int) (B : Nat) (hB : w.heap.size ≤ B) : OwnFrom B (HeldI w lo hi xs) := by
  intro s W W' row ⟨ys, hy, h0, h1, h2, h3, hg, hb⟩ hg' hr
  have hr2 := fun r e => (hr r e).2
  exact ⟨ys, hy, heap_kept h0 hg' hr2, heap_kept h1 hg' hr2, heap_kept h2 hg' hr2, heap_kept h3 hg' hr2, hg, ownFrom_below (β := Unit) (Nat.le_refl _) hB () W W' row hb hg' hr⟩

theorem held_step {w W : World} {lo hi : Int} {xs ys : List Int} {pre : List Hr} {k : Nat} {h01 : 0 ≤ (k : Int) ∧ (k : Int) < 24} (hx : xs.length = 24) (hy : ys.length = 24) (hl : pre.length < 24)
    (h0 : W.heap[w.heap.size]? = some (.cells (i16s ys) 27 (0, 0))) (h1 : W.heap[w.heap.size + 1]? = some (.cells #[.int .i16 lo] 24 (0, 0))) (h2 : W.heap[w.heap.size + 1 + 1]? = some (.cells #[.int .i16 hi] 24 (0, 0)))
    (h3 : W.heap[w.heap.size + 1 + 1 + 1]? = some (.cells (i16s zer) 27 (0, 0))) (hg : Good pre → ys = clampTo lo hi xs pre.length) (hb : Below w.heap.size w W) (v : Int) (hv : v = clampI lo hi (ys[k]?.getD 0)) :
    KeepsOthers W (W.setCell ⟨w.heap.size, k, none⟩ (.int .i16 v)).drew ∧ Below w.heap.size W (W.setCell ⟨w.heap.size, k, none⟩ (.int .i16 v)).drew ∧ HeldI w lo hi xs (pre ++ [⟨k, h01⟩]) (W.setCell ⟨w.heap.size, k, none⟩ (.int .i16 v)).drew := by
  have hk : k < 24 := by have := h01.2; omega
  refine ⟨(KeepsOthers.setCell _ _ _).trans (KeepsOthers.drew _), ((Below.refl w.heap.size W).setCell (p := ⟨w.heap.size, k, none⟩) (Nat.le_refl _) _).drew, ys.set k v, by simp [hy], ?_, ?_, ?_, ?_, ?_, (hb.setCell (p := ⟨w.heap.size, k, none⟩) (Nat.le_refl _) _).drew⟩
  · rw [heap_drew, heap_setCell_same _ _ _ _ _ _ h0, i16s_set]
  · rw [heap_drew, heap_setCell_other _ _ _ _ (by simp)]; exact h1
  · rw [heap_drew, heap_setCell_other _ _ _ _ (by simp; omega)]; exact h2
  · rw [heap_drew, heap_setCell_other _ _ _ _ (by simp; omega)]; exact h3
  · intro hgs
    obtain ⟨hgp, hxk⟩ := good_snoc hgs hl
    have hkl : k = pre.length := by have : (k : Int) = (pre.length : Int) := hxk; omega
    have hys := hg hgp
    rw [List.length_append, List.length_singleton, hv, hys, hkl, clampTo_get lo hi xs _ hx hl, clampTo_step lo hi xs _ hx hl]

theorem arrU : Tryz.prog.follows .mixedOrders = true := by kernel_rfl

set_option maxRecDepth 100000 in
set_option maxHeartbeats 2000000 in
theorem held_any (xs : List Int) (hx : xs.length = 24) (lo hi : Int) (w : World) :
    Calls Tryz.prog 97 #[.agg (i16s xs), .int .i16 lo, .int .i16 hi] w fun e w' => e = .returned (.agg (i16s (xs.map (clampI lo hi)))) ∧ Below w.heap.size w w' := by
  refine (callsIn_wide (n := 4)).1 ?_
  have Hx := Lib.hid hx
  clear hx
  refine callsIn_of_wp_marks Tryz.func97 rfl trivial ?_ rfl
  simp only [Tryz.ntmps97, List.size_toArray, List.length_cons, List.length_nil, Nat.reduceAdd, Nat.reduceSub, Array.replicate_succ, Array.replicate_zero, List.push_toArray, List.append_toArray, List.nil_append, List.cons_append]
  gi_wp2
  refine wpIn_rangeFunc_ownF rfl (by decide) (gf := 50) (lb := #[]) rfl trivial (enters_of Tryz.func50 (by kernel_rfl) rfl)
    (eachHour_stops Fence.wide _ trivial rfl (by decide) w.heap.size _) belowK_t (belowK_b (by simp; omega)) (Below.refl _ _) (fun _ => rfl)
    (HeldI w lo hi xs)
    (fun _ _ _ => False) (heldI_own w lo hi xs _ (by simp; omega)) (fun _ _ _ _ _ hs _ _ => hs) ?h0
    (fun x => { tmps := #[.agg (i16s xs), .int .i16 lo, .int .i16 hi, .pointer (some ⟨w.heap.size, 0, none⟩), .pointer (some ⟨w.heap.size + 1, 0, none⟩), .pointer (some ⟨w.heap.size + 1 + 1, 0, none⟩), .pointer (some ⟨w.heap.size + 1 + 1 + 1, 0, none⟩), .int .i64 x.1, .int .i64 x.1, undef, undef, undef, undef, undef, undef, undef, undef, undef, undef], defers := [] }) ?assign ?body ?done ?stop
  case h0 =>
    refine ⟨xs, Hx.out, ?_, ?_, ?_, ?_, fun _ => rfl, ((((Below.refl _ _).alloc (Nat.le_refl _) _).alloc (by simp) _).alloc (by simp; omega) _).alloc (by simp; omega) _⟩
    all_goals simp only [heap_alloc, World.size_alloc]
    · rw [if_neg (by omega), if_neg (by omega), if_neg (by omega), if_true]
    · rw [if_neg (by omega), if_neg (by omega), if_true]
    · rw [if_neg (by omega), if_true]
    · rw [if_true]; rfl
  case assign =>
    intro l x W K hK
    gi_wp2
    exact hK
  case body =>
    rintro l pre x W ⟨ys, hy, h0, h1, h2, h3, hg, hb⟩ hl
    have hmx := arrU
    obtain ⟨x, hx0, hx1⟩ := x
    obtain ⟨k, rfl⟩ := Int.eq_ofNat_of_zero_le hx0
    have hk : k < 24 := by omega
    have c0 := cell_of_i16s h0 k (by rw [hy]; exact hk)
    have c1 : W.cell? ⟨w.heap.size + 1, 0, none⟩ = some (.int .i16 lo) := by rw [cell_of_row W _ _ _ _ _ h1]; rfl
    have c2 : W.cell? ⟨w.heap.size + 1 + 1, 0, none⟩ = some (.int .i16 hi) := by rw [cell_of_row W _ _ _ _ _ h2]; rfl
    have f0 := frozen_of_row W w.heap.size k _ _ h0
    have H0 := Lib.hid h0
    have H1 := Lib.hid h1
    have H2 := Lib.hid h2
    have H3 := Lib.hid h3
    have HG := Lib.hid hg
    have Hy := Lib.hid hy
    clear h0 h1 h2 h3 hg hy
    gi_wp2
    refine still_tail_round (k := 9) hmx (by kernel_rfl) (no_defer (by rfl)) (fun ⟨_, _, h⟩ => h) ?_
    simp only [List.take_succ_cons, List.take_zero, List.drop_succ_cons, List.drop_zero]
    repeat still_step
    refine wpStill_nil ?_
    go_wp2
    all_goals refine held_step Hx.out Hy.out hl H0.out H1.out H2.out H3.out HG.out hb _ ?_
    all_goals (unfold clampI; clear H0 H1 H2 H3 HG Hy c0 f0)
    all_goals (repeat (first | rw [if_pos (by omega)] | rw [if_neg (by omega)]))
  case done =>
    rintro D zs W hD rfl ⟨ys, hy, h0, h1, h2, h3, hg, hb⟩ hK
    rename_i K hcont
    have hD' : w.heap.size + 4 ≤ D := by simpa using hD
    have hys : ys = xs.map (clampI lo hi) := by rw [hg good_all, hrs_length, clampTo_all lo hi xs Hx.out]
    subst hys
    clear hg hD h1 h2
    have H0 := Lib.hid h0
    have H3 := Lib.hid h3
    have HK := Lib.hid hK
    have Hy := Lib.hid hy
    clear h0 h3 hK hy
    refine hcont _ _ ?_
    refine wpIn_wide.2 ?_
    go_wp2_with (first | (refine wpList_load_part rfl 27 _ rfl w.heap.size 0 24 rfl 27 (i16s (xs.map (clampI lo hi))) (0, 0) _ H0.out Tryz.underlying27 rfl info_arr (by rw [i16s_size, Hy.out]; decide) (i16s (xs.map (clampI lo hi))) (i16s_all _ 24 Hy.out) ?_) | (refine wpList_store_part rfl 27 _ _ rfl (w.heap.size + 1 + 1 + 1) 0 (i16s (xs.map (clampI lo hi))) rfl rfl 27 (i16s zer) H3.out (by rw [i16s_size, Hy.out]; exact info_arr) (by rw [i16s_size, i16s_size, Hy.out]; decide) (i16s_one _) ?_; rw [laid_all _ _ (by rw [i16s_size, i16s_size, Hy.out]; rfl)]))
    have hK2 : (W.setRow (w.heap.size + 1 + 1 + 1) (i16s (xs.map (clampI lo hi)))).heap[D]? = some (.deferred (some [])) := (setRow_other _ _ _ _ (by omega)).trans HK.out
    have hR := setRow_heap W (w.heap.size + 1 + 1 + 1) _ (i16s (xs.map (clampI lo hi))) _ _ H3.out
    refine ⟨by simp, .inl ⟨_, _, rfl, run_takeDeferred hK2, ?_⟩⟩
    refine ⟨.agg (i16s (xs.map (clampI lo hi))), results_cell_row rfl _ _ (w.heap.size + 1 + 1 + 1) 27 _ (0, 0) _ rfl ((World.putObj_heap_other (by omega)).trans hR) Tryz.underlying27 rfl (by rw [i16s_size, Hy.out]; exact info_arr), rfl, ?_⟩
    exact (below_setRow hb (by omega) _).trans (belowK_b (w := w) (Nat.le_refl _) _ D _ _ (by omega) hK2 rfl rfl)
  case stop =>
    rintro D c pre W _ _ h _
    exact h.elim

end Go.Proofs.YtdbleddcnknmiaaGreatDoor

namespace Go.Proofs.YtdbleddcnknmiaaGreatDoor
open Go.RowKit

theorem yields_part {P : Program} {ops : Array Oper} {S : World → Prop} {o : Oper} {a : Act} (hw : Region.wanted o (yielded ops a.tmps) = true) (ty : TypeId) (x : Operand) (ho : o.op = .load ty x)
    (g off n : Nat) (hx : a.eval x = .pointer (some ⟨g, off, none⟩)) (t : TypeId) (cs : Array Value) (fr : Nat × Nat) (d : TypeDesc) (hg : ∀ w, S w → w.heap[g]? = some (.cells cs t fr))
    (hu : P.underlying ty = some d) (hd : (match d with | .struct _ | .array _ _ => true | _ => false) = true) (hi : (P.info? ty).map (·.size) = some n) (hn : off + n ≤ cs.size)
    (vs : Array Value) (hvs : cs.extract off (off + n) = vs) : YieldsIf P ops S o (.agg vs) a :=
  .inl ⟨hw, fun w hw' => by
    subst hvs
    unfold execOp
    simp only [ho, hx, Instr.loadAt, Instr.sureAddr, Sem.run_bind, Sem.run_pure, Result.andThen_ok, run_loadVar_part w g off n t ty cs fr d (hg w hw') hu hd hi hn]⟩

theorem take_at {P : Program} {ops : Array Oper} {Q : Exit → Act → World → Prop} {md : Region.Mode} {S : World → Prop} {i d : Nat} {oi : Oper} {v : Value} {fuel : Nat} {listed : Array Bool} {a : Act} {w : World} (hi : ops[i]? = some oi) (hd : oi.dst = some d)
    (hs : Region.noSelect ops = true) (hf : Region.free md ops listed i = true) (hr : (Region.ready md ops listed).contains i = true)
    (hQ : ∀ c a w, Q (.panic c) (a.put oi.dst v) w → Q (.panic c) a w) (hy : YieldsIf P ops S oi v a) (hS : S w)
    (h : wpAnyH P md ops Q S fuel (listed.setIfInBounds i true) { tmps := a.tmps.setIfInBounds d v, defers := a.defers } w) : wpAnyH P md ops Q S (fuel + 1) listed a w :=
  wpAnyH_take hi hs hf hr hQ hy hS (by rw [hd]; exact h)

theorem clamp_eq (lo hi : Int) (h : lo ≤ hi) (y : Int) : clampI lo hi y = y ↔ inB y lo hi = true := by
  unfold clampI
  constructor
  · intro e
    apply inB_mk
    split at e <;> split at e <;> omega
  · intro e
    have := inB_true e
    have e1 : ¬ lo > y := by omega
    rw [if_neg e1, if_neg (by omega)]

theorem map_clamp (lo hi : Int) (h : lo ≤ hi) (xs : List Int) : (xs.map (clampI lo hi) == xs) = xs.all (fun x => inB x lo hi) := by
  rw [Bool.eq_iff_iff, beq_iff_eq, List.all_eq_true]
  induction xs with
  | nil => simp
  | cons x xs ih =>
    simp only [List.map_cons, List.cons.injEq, List.mem_cons, forall_eq_or_imp]
    rw [ih, clamp_eq lo hi h]

set_option maxRecDepth 100000 in
set_option maxHeartbeats 1000000 in
theorem ValidSun_any (hs ts : List Int) (hh : hs.length = 24) (ht : ts.length = 24) (w : World) :
    Calls Tryz.prog 92 #[.agg (sunC hs ts)] w fun e w' => e = .returned (.bool (okB hs ts)) ∧ Below w.heap.size w w' := by
  have hq1 := run_eql_arr (hs.map (clampI (-64) 64)) hs (by simpa using hh) hh
  have hq2 := run_eql_arr (ts.map (clampI 0 255)) ts (by simpa using ht) ht
  rw [map_clamp _ _ (by decide)] at hq1 hq2
  have hgd1 := fun w => run_eqGuard_agg (P := Tryz.prog) w .eql 27 (.tmp 5) (.tmp 7) (i16s (hs.map (clampI (-64) 64))) (i16s hs) (by kernel_rfl)
  have hgd2 := fun w => run_eqGuard_agg (P := Tryz.prog) w .eql 27 (.tmp 12) (.tmp 14) (i16s (ts.map (clampI 0 255))) (i16s ts) (by kernel_rfl)
  have Hh := Lib.hid hh
  have Ht := Lib.hid ht
  clear hh ht
  unfold okB
  by_cases hb : hs.all (fun x => inB x (-64) 64) = true
  · rw [hb] at hq1
    rw [hb]
    go_enter Tryz.func92, Tryz.ntmps92
    go_wp2
    refine wp_region_held_drew (S := (fun W => W.heap[w.heap.size]? = some (.cells (sunC hs ts) 35 (0, 0)) ∧ Below w.heap.size w W)) (by kernel_rfl) ⟨heap_alloc_new _ _, ((Below.refl _ _).alloc (Nat.le_refl _) _).drew⟩ (fun hHeld => ?_)
    refine take_at (i := 0) (d := 3) (v := ?_) rfl rfl (by kernel_rfl) (by kernel_rfl) (by kernel_rfl) (fun _ _ _ h => h) (Or.inl ⟨by rfl, ?hy0u1⟩) hHeld ?rest0u1
    case hy0u1 =>
      intro w' hS'
      go_simp
      try with_reducible rfl
    simp only [List.setIfInBounds_toArray, List.set_cons_zero, List.set_cons_succ]
    refine take_at (i := 1) (d := 4) (v := .agg (i16s hs)) rfl rfl (by kernel_rfl) (by kernel_rfl) (by kernel_rfl) (fun _ _ _ h => h) (yields_part (by rfl) 27 (.tmp 3) (by rfl) w.heap.size 0 24 (by rfl) 35 (sunC hs ts) (0, 0) _ (fun _ h => h.1) Tryz.underlying27 rfl info_arr (by rw [sunC_size _ _ Hh.out Ht.out]; decide) (i16s hs) (sunC_fst _ _ Hh.out)) hHeld ?_
    simp only [List.setIfInBounds_toArray, List.set_cons_zero, List.set_cons_succ]
    refine take_at (i := 3) (d := 6) (v := ?_) rfl rfl (by kernel_rfl) (by kernel_rfl) (by kernel_rfl) (fun _ _ _ h => h) (Or.inl ⟨by rfl, ?hy3u2⟩) hHeld ?rest3u2
    case hy3u2 =>
      intro w' hS'
      go_simp
      try with_reducible rfl
    simp only [List.setIfInBounds_toArray, List.set_cons_zero, List.set_cons_succ]
    refine take_at (i := 4) (d := 7) (v := .agg (i16s hs)) rfl rfl (by kernel_rfl) (by kernel_rfl) (by kernel_rfl) (fun _ _ _ h => h) (yields_part (by rfl) 27 (.tmp 6) (by rfl) w.heap.size 0 24 (by rfl) 35 (sunC hs ts) (0, 0) _ (fun _ h => h.1) Tryz.underlying27 rfl info_arr (by rw [sunC_size _ _ Hh.out Ht.out]; decide) (i16s hs) (sunC_fst _ _ Hh.out)) hHeld ?_
    simp only [List.setIfInBounds_toArray, List.set_cons_zero, List.set_cons_succ]
    refine wpAnyH_ready (rs := [2]) (by kernel_rfl) (by simp) ?_
    refine AllReadyH.cons rfl (fun K hK => ?_) AllReadyH.nil
    go_simp
    refine (held_any hs Hh.out (-64) 64 _).mono ?_
    rintro e W1 ⟨rfl, hb1⟩
    refine hK.out _ _ (⟨below_row hb1 hHeld.1, hHeld.2.trans (hb1.mono hHeld.2.size)⟩) (fun hHeld2 => ?_)
    clear hK K
    replace hHeld := hHeld2
    clear hHeld2
    refine take_at (i := 5) (d := 8) (v := ?_) rfl rfl (by kernel_rfl) (by kernel_rfl) (by kernel_rfl) (fun _ _ _ h => h) (Or.inl ⟨by rfl, ?hy5u3⟩) hHeld ?rest5u3
    case hy5u3 =>
      intro w' hS'
      go_simp
      try with_reducible rfl
    simp only [List.setIfInBounds_toArray, List.set_cons_zero, List.set_cons_succ]
    refine take_at (i := 6) (d := 9) (v := ?_) rfl rfl (by kernel_rfl) (by kernel_rfl) (by kernel_rfl) (fun _ _ _ h => h) (Or.inl ⟨by rfl, ?hy6u4⟩) hHeld ?rest6u4
    case hy6u4 =>
      intro w' hS'
      go_simp
      try with_reducible rfl
    simp only [List.setIfInBounds_toArray, List.set_cons_zero, List.set_cons_succ]
    refine take_at (i := 7) (d := 10) (v := ?_) rfl rfl (by kernel_rfl) (by kernel_rfl) (by kernel_rfl) (fun _ _ _ h => h) (Or.inl ⟨by rfl, ?hy7u5⟩) hHeld ?rest7u5
    case hy7u5 =>
      intro w' hS'
      go_simp
      try with_reducible rfl
    simp only [List.setIfInBounds_toArray, List.set_cons_zero, List.set_cons_succ]
    refine take_at (i := 8) (d := 11) (v := .agg (i16s ts)) rfl rfl (by kernel_rfl) (by kernel_rfl) (by kernel_rfl) (fun _ _ _ h => h) (yields_part (by rfl) 27 (.tmp 10) (by rfl) w.heap.size 24 24 (by rfl) 35 (sunC hs ts) (0, 0) _ (fun _ h => h.1) Tryz.underlying27 rfl info_arr (by rw [sunC_size _ _ Hh.out Ht.out]; decide) (i16s ts) (sunC_snd _ _ Hh.out Ht.out)) hHeld ?_
    simp only [List.setIfInBounds_toArray, List.set_cons_zero, List.set_cons_succ]
    refine take_at (i := 10) (d := 13) (v := ?_) rfl rfl (by kernel_rfl) (by kernel_rfl) (by kernel_rfl) (fun _ _ _ h => h) (Or.inl ⟨by rfl, ?hy10u6⟩) hHeld ?rest10u6
    case hy10u6 =>
      intro w' hS'
      go_simp
      try with_reducible rfl
    simp only [List.setIfInBounds_toArray, List.set_cons_zero, List.set_cons_succ]
    refine take_at (i := 11) (d := 14) (v := .agg (i16s ts)) rfl rfl (by kernel_rfl) (by kernel_rfl) (by kernel_rfl) (fun _ _ _ h => h) (yields_part (by rfl) 27 (.tmp 13) (by rfl) w.heap.size 24 24 (by rfl) 35 (sunC hs ts) (0, 0) _ (fun _ h => h.1) Tryz.underlying27 rfl info_arr (by rw [sunC_size _ _ Hh.out Ht.out]; decide) (i16s ts) (sunC_snd _ _ Hh.out Ht.out)) hHeld ?_
    simp only [List.setIfInBounds_toArray, List.set_cons_zero, List.set_cons_succ]
    refine wpAnyH_ready (rs := [9]) (by kernel_rfl) (by simp) ?_
    refine AllReadyH.cons rfl (fun K hK => ?_) AllReadyH.nil
    go_simp
    refine (held_any ts Ht.out 0 255 _).mono ?_
    rintro e W1 ⟨rfl, hb1⟩
    refine hK.out _ _ (⟨below_row hb1 hHeld.1, hHeld.2.trans (hb1.mono hHeld.2.size)⟩) (fun hHeld2 => ?_)
    clear hK K
    replace hHeld := hHeld2
    clear hHeld2
    refine take_at (i := 12) (d := 15) (v := ?_) rfl rfl (by kernel_rfl) (by kernel_rfl) (by kernel_rfl) (fun _ _ _ h => h) (Or.inl ⟨by rfl, ?hy12u7⟩) hHeld ?rest12u7
    case hy12u7 =>
      intro w' hS'
      go_simp
      try with_reducible rfl
    simp only [List.setIfInBounds_toArray, List.set_cons_zero, List.set_cons_succ]
    refine take_at (i := 13) (d := 16) (v := ?_) rfl rfl (by kernel_rfl) (by kernel_rfl) (by kernel_rfl) (fun _ _ _ h => h) (Or.inl ⟨by rfl, ?hy13u8⟩) hHeld ?rest13u8
    case hy13u8 =>
      intro w' hS'
      go_simp
      try with_reducible rfl
    simp only [List.setIfInBounds_toArray, List.set_cons_zero, List.set_cons_succ]
    refine take_at (i := 14) (d := 2) (v := ?_) rfl rfl (by kernel_rfl) (by kernel_rfl) (by kernel_rfl) (fun _ _ _ h => h) (Or.inl ⟨by rfl, ?hy14u9⟩) hHeld ?rest14u9
    case hy14u9 =>
      intro w' hS'
      go_simp
      try with_reducible rfl
    simp only [List.setIfInBounds_toArray, List.set_cons_zero, List.set_cons_succ]
    refine wpAnyH_done (by kernel_rfl) ?_ _
    go_wp2
    go_ret
    exact ⟨by rw [Bool.true_and]; rfl, hHeld.2⟩
  · have hb' : hs.all (fun x => inB x (-64) 64) = false := by simpa using hb
    rw [hb'] at hq1
    rw [hb']
    clear hb hb'
    go_enter Tryz.func92, Tryz.ntmps92
    go_wp2
    refine wp_region_held_drew (S := (fun W => W.heap[w.heap.size]? = some (.cells (sunC hs ts) 35 (0, 0)) ∧ Below w.heap.size w W)) (by kernel_rfl) ⟨heap_alloc_new _ _, ((Below.refl _ _).alloc (Nat.le_refl _) _).drew⟩ (fun hHeld => ?_)
    refine take_at (i := 0) (d := 3) (v := ?_) rfl rfl (by kernel_rfl) (by kernel_rfl) (by kernel_rfl) (fun _ _ _ h => h) (Or.inl ⟨by rfl, ?hy0u10⟩) hHeld ?rest0u10
    case hy0u10 =>
      intro w' hS'
      go_simp
      try with_reducible rfl
    simp only [List.setIfInBounds_toArray, List.set_cons_zero, List.set_cons_succ]
    refine take_at (i := 1) (d := 4) (v := .agg (i16s hs)) rfl rfl (by kernel_rfl) (by kernel_rfl) (by kernel_rfl) (fun _ _ _ h => h) (yields_part (by rfl) 27 (.tmp 3) (by rfl) w.heap.size 0 24 (by rfl) 35 (sunC hs ts) (0, 0) _ (fun _ h => h.1) Tryz.underlying27 rfl info_arr (by rw [sunC_size _ _ Hh.out Ht.out]; decide) (i16s hs) (sunC_fst _ _ Hh.out)) hHeld ?_
    simp only [List.setIfInBounds_toArray, List.set_cons_zero, List.set_cons_succ]
    refine take_at (i := 3) (d := 6) (v := ?_) rfl rfl (by kernel_rfl) (by kernel_rfl) (by kernel_rfl) (fun _ _ _ h => h) (Or.inl ⟨by rfl, ?hy3u11⟩) hHeld ?rest3u11
    case hy3u11 =>
      intro w' hS'
      go_simp
      try with_reducible rfl
    simp only [List.setIfInBounds_toArray, List.set_cons_zero, List.set_cons_succ]
    refine take_at (i := 4) (d := 7) (v := .agg (i16s hs)) rfl rfl (by kernel_rfl) (by kernel_rfl) (by kernel_rfl) (fun _ _ _ h => h) (yields_part (by rfl) 27 (.tmp 6) (by rfl) w.heap.size 0 24 (by rfl) 35 (sunC hs ts) (0, 0) _ (fun _ h => h.1) Tryz.underlying27 rfl info_arr (by rw [sunC_size _ _ Hh.out Ht.out]; decide) (i16s hs) (sunC_fst _ _ Hh.out)) hHeld ?_
    simp only [List.setIfInBounds_toArray, List.set_cons_zero, List.set_cons_succ]
    refine wpAnyH_ready (rs := [2]) (by kernel_rfl) (by simp) ?_
    refine AllReadyH.cons rfl (fun K hK => ?_) AllReadyH.nil
    go_simp
    refine (held_any hs Hh.out (-64) 64 _).mono ?_
    rintro e W1 ⟨rfl, hb1⟩
    refine hK.out _ _ (⟨below_row hb1 hHeld.1, hHeld.2.trans (hb1.mono hHeld.2.size)⟩) (fun hHeld2 => ?_)
    clear hK K
    replace hHeld := hHeld2
    clear hHeld2
    refine take_at (i := 5) (d := 8) (v := ?_) rfl rfl (by kernel_rfl) (by kernel_rfl) (by kernel_rfl) (fun _ _ _ h => h) (Or.inl ⟨by rfl, ?hy5u12⟩) hHeld ?rest5u12
    case hy5u12 =>
      intro w' hS'
      go_simp
      try with_reducible rfl
    simp only [List.setIfInBounds_toArray, List.set_cons_zero, List.set_cons_succ]
    refine take_at (i := 6) (d := 9) (v := ?_) rfl rfl (by kernel_rfl) (by kernel_rfl) (by kernel_rfl) (fun _ _ _ h => h) (Or.inl ⟨by rfl, ?hy6u13⟩) hHeld ?rest6u13
    case hy6u13 =>
      intro w' hS'
      go_simp
      try with_reducible rfl
    simp only [List.setIfInBounds_toArray, List.set_cons_zero, List.set_cons_succ]
    refine take_at (i := 7) (d := 10) rfl rfl (by kernel_rfl) (by kernel_rfl) (by kernel_rfl) (fun _ _ _ h => h) (Or.inr ⟨by rfl, rfl⟩) hHeld ?_
    simp only [List.setIfInBounds_toArray, List.set_cons_zero, List.set_cons_succ]
    refine take_at (i := 8) (d := 11) rfl rfl (by kernel_rfl) (by kernel_rfl) (by kernel_rfl) (fun _ _ _ h => h) (Or.inr ⟨by rfl, rfl⟩) hHeld ?_
    simp only [List.setIfInBounds_toArray, List.set_cons_zero, List.set_cons_succ]
    refine take_at (i := 10) (d := 13) rfl rfl (by kernel_rfl) (by kernel_rfl) (by kernel_rfl) (fun _ _ _ h => h) (Or.inr ⟨by rfl, rfl⟩) hHeld ?_
    simp only [List.setIfInBounds_toArray, List.set_cons_zero, List.set_cons_succ]
    refine take_at (i := 11) (d := 14) rfl rfl (by kernel_rfl) (by kernel_rfl) (by kernel_rfl) (fun _ _ _ h => h) (Or.inr ⟨by rfl, rfl⟩) hHeld ?_
    simp only [List.setIfInBounds_toArray, List.set_cons_zero, List.set_cons_succ]
    refine take_at (i := 9) (d := 12) rfl rfl (by kernel_rfl) (by kernel_rfl) (by kernel_rfl) (fun _ _ _ h => h) (Or.inr ⟨by rfl, rfl⟩) hHeld ?_
    simp only [List.setIfInBounds_toArray, List.set_cons_zero, List.set_cons_succ]
    refine take_at (i := 12) (d := 15) rfl rfl (by kernel_rfl) (by kernel_rfl) (by kernel_rfl) (fun _ _ _ h => h) (Or.inr ⟨by rfl, rfl⟩) hHeld ?_
    simp only [List.setIfInBounds_toArray, List.set_cons_zero, List.set_cons_succ]
    refine take_at (i := 13) (d := 16) (v := ?_) rfl rfl (by kernel_rfl) (by kernel_rfl) (by kernel_rfl) (fun _ _ _ h => h) (Or.inl ⟨by rfl, ?hy13u14⟩) hHeld ?rest13u14
    case hy13u14 =>
      intro w' hS'
      go_simp
      try with_reducible rfl
    simp only [List.setIfInBounds_toArray, List.set_cons_zero, List.set_cons_succ]
    refine take_at (i := 14) (d := 2) (v := ?_) rfl rfl (by kernel_rfl) (by kernel_rfl) (by kernel_rfl) (fun _ _ _ h => h) (Or.inl ⟨by rfl, ?hy14u15⟩) hHeld ?rest14u15
    case hy14u15 =>
      intro w' hS'
      go_simp
      try with_reducible rfl
    simp only [List.setIfInBounds_toArray, List.set_cons_zero, List.set_cons_succ]
    refine wpAnyH_done (by kernel_rfl) ?_ _
    go_wp2
    go_ret
    exact ⟨by rw [Bool.false_and]; rfl, hHeld.2⟩

end Go.Proofs.YtdbleddcnknmiaaGreatDoor

namespace Go.Proofs.YtdbleddcnknmiaaGreatDoor
open Go Go.RowKit

theorem yields_row {P : Program} {ops : Array Oper} {S : World → Prop} {o : Oper} {a : Act} (hw : Region.wanted o (yielded ops a.tmps) = true) (ty : TypeId) (x : Operand) (ho : o.op = .load ty x)
    (g off n : Nat) (hx : a.eval x = .pointer (some ⟨g, off, none⟩)) (t : TypeId) (cs : Array Value) (fr : Nat × Nat) (d : TypeDesc) (hg : ∀ w, S w → w.heap[g]? = some (.cells cs t fr))
    (hu : P.underlying ty = some d) (hd : (match d with | .struct _ | .array _ _ => true | _ => false) = true) (hi : (P.info? ty).map (·.size) = some n) (hn : off + n ≤ cs.size)
    (vs : Array Value) (hvs : cs.extract off (off + n) = vs) : YieldsIf P ops S o (.agg vs) a :=
  .inl ⟨hw, fun w hw' => by
    subst hvs
    unfold execOp
    simp only [ho, hx, Instr.loadAt, Instr.sureAddr, Sem.run_bind, Sem.run_pure, Result.andThen_ok, run_loadVar_part w g off n t ty cs fr d (hg w hw') hu hd hi hn]⟩

theorem take_op {P : Program} {ops : Array Oper} {Q : Exit → Act → World → Prop} {md : Region.Mode} {S : World → Prop} {i d : Nat} {oi : Oper} {v : Value} {fuel : Nat} {listed : Array Bool} {a : Act} {w : World} (hi : ops[i]? = some oi) (hd : oi.dst = some d)
    (hs : Region.noSelect ops = true) (hf : Region.free md ops listed i = true) (hr : (Region.ready md ops listed).contains i = true)
    (hQ : ∀ c a w, Q (.panic c) (a.put oi.dst v) w → Q (.panic c) a w) (hy : YieldsIf P ops S oi v a) (hS : S w)
    (h : wpAnyH P md ops Q S fuel (listed.setIfInBounds i true) { tmps := a.tmps.setIfInBounds d v, defers := a.defers } w) : wpAnyH P md ops Q S (fuel + 1) listed a w :=
  wpAnyH_take hi hs hf hr hQ hy hS (by rw [hd]; exact h)

end Go.Proofs.YtdbleddcnknmiaaGreatDoor

namespace Go.Proofs.YtdbleddcnknmiaaGreatDoor
open Go.ChangeShapes Go.WideShapes Go.ChangeAt Go.RowKit Go.Deep Go.Joins

set_option maxRecDepth 100000 in
set_option maxHeartbeats 1000000 in
theorem ValidPlan_any (ps : List Int) (hp : ps.length = 24) (w : World) :
    Calls Tryz.prog 84 #[.agg (i16s ps)] w fun e w' => e = .returned (.bool (okP ps)) ∧ Below w.heap.size w w' := by
  have hq1 := run_eql_arr (ps.map (clampI (-64) 64)) ps (by simpa using hp) hp
  rw [map_clamp _ _ (by decide)] at hq1
  have hgd1 := fun w => run_eqGuard_agg (P := Tryz.prog) w .eql 27 (.tmp 4) (.tmp 5) (i16s (ps.map (clampI (-64) 64))) (i16s ps) (by kernel_rfl)
  have Hp := Lib.hid hp
  clear hp
  have e : okP ps = ps.all (fun x => inB x (-64) 64) := rfl
  rw [e]
  clear e
  go_enter Tryz.func84, Tryz.ntmps84
  go_upto_region 1 with (fail)
  refine abs_code (fun W => W.heap[w.heap.size]? = some (.cells (i16s ps) 37 (0, 0)) ∧ Below w.heap.size w W) ⟨heap_alloc_new _ _, (Below.refl _ _).alloc (Nat.le_refl _) _⟩ ?_
  rintro W ⟨h0, hb⟩
  refine wp_region_held_drew (S := (fun W => W.heap[w.heap.size]? = some (.cells (i16s ps) 37 (0, 0)) ∧ Below w.heap.size w W)) (by kernel_rfl) ⟨h0, hb.drew⟩ (fun hHeld => ?_)
  refine take_op (i := 0) (d := 3) (v := .agg (i16s ps)) rfl rfl (by kernel_rfl) (by kernel_rfl) (by kernel_rfl) (fun _ _ _ h => h) (yields_row (by rfl) 37 (.tmp 1) (by rfl) w.heap.size 0 24 (by rfl) 37 (i16s ps) (0, 0) _ (fun _ h => h.1) Tryz.underlying37 rfl info_plan (by rw [i16s_size, Hp.out]; decide) (i16s ps) (i16s_all _ 24 Hp.out)) hHeld ?_
  simp only [List.setIfInBounds_toArray, List.set_cons_zero, List.set_cons_succ]
  refine take_op (i := 2) (d := 5) (v := .agg (i16s ps)) rfl rfl (by kernel_rfl) (by kernel_rfl) (by kernel_rfl) (fun _ _ _ h => h) (yields_row (by rfl) 37 (.tmp 1) (by rfl) w.heap.size 0 24 (by rfl) 37 (i16s ps) (0, 0) _ (fun _ h => h.1) Tryz.underlying37 rfl info_plan (by rw [i16s_size, Hp.out]; decide) (i16s ps) (i16s_all _ 24 Hp.out)) hHeld ?_
  simp only [List.setIfInBounds_toArray, List.set_cons_zero, List.set_cons_succ]
  refine wpAnyH_ready (rs := [1]) (by kernel_rfl) (by simp) ?_
  refine AllReadyH.cons rfl (fun K hK => ?_) AllReadyH.nil
  go_simp
  refine (held_any ps Hp.out (-64) 64 _).mono ?_
  rintro e W1 ⟨rfl, hb1⟩
  refine hK.out _ _ (⟨below_row hb1 hHeld.1, hHeld.2.trans (hb1.mono hHeld.2.size)⟩) (fun hHeld2 => ?_)
  clear hK K
  replace hHeld := hHeld2
  clear hHeld2
  refine take_op (i := 3) (d := 6) (v := ?_) rfl rfl (by kernel_rfl) (by kernel_rfl) (by kernel_rfl) (fun _ _ _ h => h) (Or.inl ⟨by rfl, ?hy3u1⟩) hHeld ?rest3u1
  case hy3u1 =>
    intro w' hS'
    go_simp
    try with_reducible rfl
  simp only [List.setIfInBounds_toArray, List.set_cons_zero, List.set_cons_succ]
  refine take_op (i := 4) (d := 2) (v := ?_) rfl rfl (by kernel_rfl) (by kernel_rfl) (by kernel_rfl) (fun _ _ _ h => h) (Or.inl ⟨by rfl, ?hy4u2⟩) hHeld ?rest4u2
  case hy4u2 =>
    intro w' hS'
    go_simp
    try with_reducible rfl
  simp only [List.setIfInBounds_toArray, List.set_cons_zero, List.set_cons_succ]
  refine wpAnyH_done (by kernel_rfl) ?_ _
  have hbx := hHeld.2
  clear hHeld h0 hb
  go_wp2
  go_ret
  exact ⟨rfl, hbx⟩

end Go.Proofs.YtdbleddcnknmiaaGreatDoor

namespace Go.Proofs.YtdbleddcnknmiaaGreatDoor
open Go.ChangeShapes Go.WideShapes Go.ChangeAt Go.RowKit

theorem np_has (v : Value) (xT : TypeId) (w : World) : (Instr.typeAssert (.iface 145 v) xT 121 true).run Tryz.prog w = .ok (.tuple #[.iface 145 v, .bool true]) w := run_typeAssert_hasB Tryz.underlying121 (by kernel_rfl) v xT w

theorem np_nil (xT : TypeId) (w : World) : (Instr.typeAssert .nilIface xT 121 true).run Tryz.prog w = .ok (.tuple #[.nilIface, .bool false]) w := by kernel_rfl

theorem np_method (n : Nat) (v : Value) (w : World) : (Go.method (n + 1) 145 v "loop.example/g01367/impl.refuse").run Tryz.prog w = .ok (146, v) w := by kernel_rfl

set_option maxRecDepth 100000 in
set_option maxHeartbeats 1000000 in
theorem refuse_any (ps : List Int) (w : World) : Calls Tryz.prog 146 #[.agg (i16s ps)] w fun e w' => e = .returned (.iface 90 (.agg #[.int .i64 1])) ∧ Below w.heap.size w w' := by
  go_enter Tryz.func146, Tryz.ntmps146
  go_wp2
  go_ret
  exact ⟨rfl, (Below.refl _ _).alloc (Nat.le_refl _) _⟩

set_option maxRecDepth 100000 in
set_option maxHeartbeats 1000000 in
theorem mustBe_true (ps : List Int) (hp : ps.length = 24) (hok : okP ps = true) (w : World) : Calls Tryz.prog 68 #[.agg (i16s ps)] w fun e w' => e = .returned (.tuple #[]) ∧ Below w.heap.size w w' := by
  have HV := Lib.hid (fun w => ValidPlan_any ps hp w)
  rw [hok] at HV
  have Hp := Lib.hid hp
  clear hp hok
  go_enter Tryz.func68, Tryz.ntmps68
  go_upto_region 1 with (fail)
  refine abs_code (fun W => Below w.heap.size w W ∧ W.heap[w.heap.size]? = some (.cells (i16s ps) 37 (0, 0))) ⟨(Below.refl _ _).alloc (Nat.le_refl _) _, heap_alloc_new _ _⟩ ?_
  rintro W ⟨hb, h0⟩
  have H0 := Lib.hid h0
  clear h0
  go_wp2_with (first | (refine wpList_load_part rfl 37 _ rfl w.heap.size 0 24 rfl 37 (i16s ps) (0, 0) _ H0.out Tryz.underlying37 rfl info_plan (by rw [i16s_size, Hp.out]; decide) (i16s ps) (i16s_all _ 24 Hp.out) ?_) | (go_at_call 84; refine (HV.out _).mono ?_; rintro e W1 ⟨rfl, hb1⟩; replace H0 := Lib.hid (below_row hb1 H0.out); replace hb := hb.trans (hb1.mono hb.size); clear hb1))
  go_end0
  exact ⟨rfl, hb⟩

set_option maxRecDepth 100000 in
set_option maxHeartbeats 1000000 in
theorem mustBe_false (ps : List Int) (hp : ps.length = 24) (hok : okP ps = false) (w : World) : Calls Tryz.prog 68 #[.agg (i16s ps)] w fun e w' => e = .panicked [{ v := .iface 145 (.agg (i16s ps)), recovered := false }] ∧ Below w.heap.size w w' := by
  have HV := Lib.hid (fun w => ValidPlan_any ps hp w)
  rw [hok] at HV
  have Hp := Lib.hid hp
  clear hp hok
  go_enter Tryz.func68, Tryz.ntmps68
  go_upto_region 1 with (fail)
  refine abs_code (fun W => Below w.heap.size w W ∧ W.heap[w.heap.size]? = some (.cells (i16s ps) 37 (0, 0))) ⟨(Below.refl _ _).alloc (Nat.le_refl _) _, heap_alloc_new _ _⟩ ?_
  rintro W ⟨hb, h0⟩
  have H0 := Lib.hid h0
  clear h0
  go_wp2_with (first | (refine wpList_load_part rfl 37 _ rfl w.heap.size 0 24 rfl 37 (i16s ps) (0, 0) _ H0.out Tryz.underlying37 rfl info_plan (by rw [i16s_size, Hp.out]; decide) (i16s ps) (i16s_all _ 24 Hp.out) ?_) | (go_at_call 84; refine (HV.out _).mono ?_; rintro e W1 ⟨rfl, hb1⟩; replace H0 := Lib.hid (below_row hb1 H0.out); replace hb := hb.trans (hb1.mono hb.size); clear hb1))
  
  exact ⟨rfl, rfl, hb⟩

set_option maxRecDepth 100000 in
set_option maxHeartbeats 4000000 in
theorem catch_np (p : Addr) (ps : List Int) (older : List PanicEntry) (w : World) (hz : ∀ U, Below w.heap.size w U → U.cell? p = some .nilIface ∧ U.frozen? p = false) :
    CallsD Tryz.prog 67 #[.pointer (some p)] (.panicking ({ v := .iface 145 (.agg (i16s ps)), recovered := false } :: older)) w fun e u' w' =>
      e = .returned (.tuple #[]) ∧ u' = .panicking ({ v := .iface 145 (.agg (i16s ps)), recovered := true } :: older) ∧ ∃ U, Below w.heap.size w U ∧ w' = U.setCell p (.iface 90 (.agg #[.int .i64 1])) := by
  have hnp := np_has
  have hme := np_method
  refine callsD_of_wpS Tryz.func67 rfl fun c₀ cs hu => ?_
  apply wpS_seq
  apply wpS_region
  simp [wpOpsS, go_sem, recoverD, hu, Tryz.ntmps67, Exit.thenS, hnp]
  apply wpS_seq
  apply wpS_region
  simp [wpOpsS, go_sem, Exit.thenS]
  refine wpS_cond (t := true) (by simp [Act.eval, Array.replicate]) ?_
  simp only [if_true]
  refine wpS_of_wp ?_
  go_wp2_with (go_at_call 146; refine (refuse_any ps _).mono ?_; rintro e W1 ⟨rfl, hb1⟩; obtain ⟨z1, z2⟩ := hz _ hb1)
  simp [bodyPostS, results, Tryz.results67]
  exact ⟨_, hb1, rfl⟩

theorem catch_idle (p : Addr) (w : World) :
    CallsD Tryz.prog 67 #[.pointer (some p)] .returning w fun e u' w' => e = .returned (.tuple #[]) ∧ u' = .returning ∧ w' = w := by
  have hnn := np_nil
  refine callsD_of_wpS Tryz.func67 rfl fun c₀ cs hu => ?_
  apply wpS_seq
  apply wpS_region
  simp [wpOpsS, go_sem, recoverD, hu, Tryz.ntmps67, Exit.thenS, hnn]
  apply wpS_seq
  apply wpS_region
  simp [wpOpsS, go_sem, Exit.thenS]
  refine wpS_cond (t := false) (by simp [Act.eval, Array.replicate]) ?_
  simp only [Bool.false_eq_true, if_false]
  refine wpS_of_wp (wp_skip ?_)
  cases c₀
  simp_all [bodyPostS, results, Tryz.results67]

set_option maxRecDepth 100000 in
set_option maxHeartbeats 4000000 in
theorem checkPlan_ok (ps : List Int) (hp : ps.length = 24) (hok : okP ps = true) (w : World) : Calls Tryz.prog 49 #[.agg (i16s ps)] w fun e w' => e = .returned .nilIface ∧ Below w.heap.size w w' := by
  have hmf : ∀ (fn : Fn) (first cap : Array Value) (w : World), (Instr.makeFunc fn first cap).run Tryz.prog w = .ok (.func fn first cap) w := fun _ _ _ _ => rfl
  have Hp := Lib.hid hp
  clear hp
  go_enter_defers Tryz.func49, Tryz.ntmps49
  go_upto_region 1 with (fail)
  refine abs_code (fun W => W.heap[w.heap.size]? = some (.cells (i16s ps) 37 (0, 0)) ∧ W.heap[w.heap.size + 1]? = some (.cells #[.nilIface] 61 (0, 0)) ∧ Below w.heap.size w W) ⟨heap_alloc2_old _ _ _, heap_alloc2_new _ _ _, ((Below.refl _ _).alloc (Nat.le_refl _) _).alloc (by simp) _⟩ ?_
  rintro W ⟨h0, h1, hb⟩
  have hs1 : w.heap.size ≤ w.heap.size + 1 := by omega
  generalize w.heap.size + 1 = b1 at *
  have H0 := Lib.hid h0
  have H1 := Lib.hid h1
  clear h0 h1
  go_upto_region 3 with (first | (refine wpList_load_part rfl 37 _ rfl w.heap.size 0 24 rfl 37 (i16s ps) (0, 0) _ H0.out Tryz.underlying37 rfl info_plan (by rw [i16s_size, Hp.out]; decide) (i16s ps) (i16s_all _ 24 Hp.out) ?_) | (go_at_call 68; refine (mustBe_true ps Hp.out hok _).mono ?_; rintro e W1 ⟨rfl, hb1⟩; replace H0 := Lib.hid (below_row hb1 H0.out); replace H1 := Lib.hid (below_row hb1 H1.out); replace hb := hb.trans (hb1.mono hb.size); clear hb1))
  have z1 : W1.cell? ⟨b1, 0, none⟩ = some .nilIface := by rw [cell_of_row _ _ _ _ _ _ H1.out]; rfl
  have z2 := frozen_of_row W1 b1 0 _ _ H1.out
  have HR : Hid ((W1.setCell ⟨b1, 0, none⟩ .nilIface).heap[b1]? = some (.cells #[.nilIface] 61 (0, 0))) := by rw [heap_setCell_same _ _ _ _ _ _ H1.out]; rfl
  have HB : Hid (Below w.heap.size w (W1.setCell ⟨b1, 0, none⟩ .nilIface)) := hb.setCell (p := ⟨b1, 0, none⟩) hs1 _
  clear H0 H1 hb
  go_wp2
  refine leaves_cons (f := 67) (args := #[.pointer (some ⟨b1, 0, none⟩)]) (by simp) (by simp [go_sem]) ?_
  refine (catch_idle _ _).mono ?_
  rintro e u' w'' ⟨rfl, rfl, rfl⟩
  have z3 : (W1.setCell ⟨b1, 0, none⟩ .nilIface).cell? ⟨b1, 0, none⟩ = some .nilIface := by rw [cell_of_row _ _ _ _ _ _ HR.out]; rfl
  generalize W1.setCell ⟨b1, 0, none⟩ .nilIface = V at *
  simp [Leaves, settle, results, Tryz.results49, go_sem, z3]
  exact HB.out

set_option maxRecDepth 100000 in
set_option maxHeartbeats 4000000 in
theorem checkPlan_no (ps : List Int) (hp : ps.length = 24) (hok : okP ps = false) (w : World) : Calls Tryz.prog 49 #[.agg (i16s ps)] w fun e w' => e = .returned (.iface 90 (.agg #[.int .i64 1])) ∧ Below w.heap.size w w' := by
  have hmf : ∀ (fn : Fn) (first cap : Array Value) (w : World), (Instr.makeFunc fn first cap).run Tryz.prog w = .ok (.func fn first cap) w := fun _ _ _ _ => rfl
  have Hp := Lib.hid hp
  clear hp
  go_enter_defers Tryz.func49, Tryz.ntmps49
  go_upto_region 1 with (fail)
  refine abs_code (fun W => W.heap[w.heap.size]? = some (.cells (i16s ps) 37 (0, 0)) ∧ W.heap[w.heap.size + 1]? = some (.cells #[.nilIface] 61 (0, 0)) ∧ Below w.heap.size w W) ⟨heap_alloc2_old _ _ _, heap_alloc2_new _ _ _, ((Below.refl _ _).alloc (Nat.le_refl _) _).alloc (by simp) _⟩ ?_
  rintro W ⟨h0, h1, hb⟩
  have hs1 : w.heap.size ≤ w.heap.size + 1 := by omega
  generalize w.heap.size + 1 = b1 at *
  have H0 := Lib.hid h0
  have H1 := Lib.hid h1
  clear h0 h1
  go_wp2_with (first | (refine wpList_load_part rfl 37 _ rfl w.heap.size 0 24 rfl 37 (i16s ps) (0, 0) _ H0.out Tryz.underlying37 rfl info_plan (by rw [i16s_size, Hp.out]; decide) (i16s ps) (i16s_all _ 24 Hp.out) ?_) | (go_at_call 68; refine (mustBe_false ps Hp.out hok _).mono ?_; rintro e W1 ⟨rfl, hb1⟩; replace H0 := Lib.hid (below_row hb1 H0.out); replace H1 := Lib.hid (below_row hb1 H1.out); replace hb := hb.trans (hb1.mono hb.size); clear hb1))
  refine leaves_cons (f := 67) (args := #[.pointer (some ⟨b1, 0, none⟩)]) (by simp) (by simp [go_sem]) ?_
  have hz : ∀ U, Below W1.heap.size W1 U → U.cell? ⟨b1, 0, none⟩ = some .nilIface ∧ U.frozen? ⟨b1, 0, none⟩ = false := fun U hU => ⟨by rw [cell_of_row _ _ _ _ _ _ (below_row hU H1.out)]; rfl, frozen_of_row U b1 0 _ _ (below_row hU H1.out)⟩
  refine (catch_np _ ps _ _ hz).mono ?_
  rintro e u' w'' ⟨rfl, rfl, U, hU, rfl⟩
  have HR : Hid ((U.setCell ⟨b1, 0, none⟩ (.iface 90 (.agg #[.int .i64 1]))).heap[b1]? = some (.cells #[.iface 90 (.agg #[.int .i64 1])] 61 (0, 0))) := by rw [heap_setCell_same _ _ _ _ _ _ (below_row hU H1.out)]; rfl
  have HB : Hid (Below w.heap.size w (U.setCell ⟨b1, 0, none⟩ (.iface 90 (.agg #[.int .i64 1])))) := (hb.trans (hU.mono hb.size)).setCell (p := ⟨b1, 0, none⟩) hs1 _
  have z3 : (U.setCell ⟨b1, 0, none⟩ (.iface 90 (.agg #[.int .i64 1]))).cell? ⟨b1, 0, none⟩ = some (.iface 90 (.agg #[.int .i64 1])) := by rw [cell_of_row _ _ _ _ _ _ HR.out]; rfl
  generalize U.setCell ⟨b1, 0, none⟩ (.iface 90 (.agg #[.int .i64 1])) = V at *
  simp [Leaves, settle, results, Tryz.results49, go_sem, z3]
  exact HB.out

def planRf (ps : List Int) : Rf := if okP ps = true then .non else .call 1

theorem checkPlan_any (ps : List Int) (hp : ps.length = 24) (w : World) : Calls Tryz.prog 49 #[.agg (i16s ps)] w fun e w' => e = .returned (rfV (planRf ps)) ∧ Below w.heap.size w w' := by
  unfold planRf
  cases h : okP ps with
  | true => exact checkPlan_ok ps hp h w
  | false => exact checkPlan_no ps hp h w

end Go.Proofs.YtdbleddcnknmiaaGreatDoor

namespace Go.Proofs.YtdbleddcnknmiaaGreatDoor
open Go.ChangeShapes Go.WideShapes Go.ChangeAt Go.RowKit Go.Deep Go.Joins

attribute [local go_sem] run_store_f

/-- Awning, as cells. -/
def awC (o : Nat) (dr : Nat) (gp : Nat) (tl : Nat) : Array Value := #[.float .f32 o, .float .f32 dr, .float .f32 gp, .float .f32 tl]

def AwWf (o : Nat) (dr : Nat) (gp : Nat) (tl : Nat) : Prop := (Lit.float .f32 o).wf = true ∧ (Lit.float .f32 dr).wf = true ∧ (Lit.float .f32 gp).wf = true ∧ (Lit.float .f32 tl).wf = true





theorem aw_fits (o : Nat) (dr : Nat) (gp : Nat) (tl : Nat) : 0 + 4 ≤ (awC o dr gp tl).size := Nat.le_refl _

theorem aw_all (o : Nat) (dr : Nat) (gp : Nat) (tl : Nat) : (awC o dr gp tl).extract 0 (0 + 4) = awC o dr gp tl := rfl

theorem aw_one (o : Nat) (dr : Nat) (gp : Nat) (tl : Nat) : ∀ v ∈ awC o dr gp tl, v.oneCell' = true := by
  intro v hv
  simp only [awC, List.mem_toArray, List.mem_cons, List.not_mem_nil, or_false] at hv
  rcases hv with rfl | rfl | rfl | rfl <;> rfl

theorem aw_cells {o : Nat} {dr : Nat} {gp : Nat} {tl : Nat} {W : World} {b : Nat} {T : TypeId} {fr : Nat × Nat} (h : W.heap[b]? = some (.cells (awC o dr gp tl) T fr)) :
    W.cell? ⟨b, 0, none⟩ = some (.float .f32 o) ∧ W.cell? ⟨b, 1, none⟩ = some (.float .f32 dr) ∧ W.cell? ⟨b, 2, none⟩ = some (.float .f32 gp) ∧ W.cell? ⟨b, 3, none⟩ = some (.float .f32 tl) :=
  ⟨by rw [cell_of_row W _ _ _ _ _ h]; rfl, by rw [cell_of_row W _ _ _ _ _ h]; rfl, by rw [cell_of_row W _ _ _ _ _ h]; rfl, by rw [cell_of_row W _ _ _ _ _ h]; rfl⟩

end Go.Proofs.YtdbleddcnknmiaaGreatDoor

namespace Go.Proofs.YtdbleddcnknmiaaGreatDoor
open Go Go.RowKit

theorem alloc_at (w : World) (o : Obj) (i : Nat) : (w.alloc o).heap[i]? = if i = w.heap.size then some o else w.heap[i]? := by
  show (w.heap.push o)[i]? = _
  exact Array.getElem?_push
theorem box2 (w : World) (a b : Obj) : ((w.alloc a).alloc b).heap[w.heap.size]? = some a ∧ ((w.alloc a).alloc b).heap[w.heap.size + 1]? = some b ∧ Below w.heap.size w ((w.alloc a).alloc b) := by
  refine ⟨?_, ?_, ((Below.refl _ _).alloc (Nat.le_refl _) _).alloc (by simp) _⟩
  all_goals simp only [alloc_at, World.size_alloc]
  · rw [if_neg (by omega), if_true]
  · rw [if_true]
theorem box3 (w : World) (a b c : Obj) : (((w.alloc a).alloc b).alloc c).heap[w.heap.size]? = some a ∧ (((w.alloc a).alloc b).alloc c).heap[w.heap.size + 1]? = some b ∧ (((w.alloc a).alloc b).alloc c).heap[w.heap.size + 1 + 1]? = some c ∧ Below w.heap.size w (((w.alloc a).alloc b).alloc c) := by
  refine ⟨?_, ?_, ?_, (((Below.refl _ _).alloc (Nat.le_refl _) _).alloc (by simp) _).alloc (by simp; omega) _⟩
  all_goals simp only [alloc_at, World.size_alloc]
  · rw [if_neg (by omega), if_neg (by omega), if_true]
  · rw [if_neg (by omega), if_true]
  · rw [if_true]
theorem box4 (w : World) (a b c d : Obj) : ((((w.alloc a).alloc b).alloc c).alloc d).heap[w.heap.size]? = some a ∧ ((((w.alloc a).alloc b).alloc c).alloc d).heap[w.heap.size + 1]? = some b ∧ ((((w.alloc a).alloc b).alloc c).alloc d).heap[w.heap.size + 1 + 1]? = some c ∧ ((((w.alloc a).alloc b).alloc c).alloc d).heap[w.heap.size + 1 + 1 + 1]? = some d ∧ Below w.heap.size w ((((w.alloc a).alloc b).alloc c).alloc d) := by
  refine ⟨?_, ?_, ?_, ?_, ((((Below.refl _ _).alloc (Nat.le_refl _) _).alloc (by simp) _).alloc (by simp; omega) _).alloc (by simp; omega) _⟩
  all_goals simp only [alloc_at, World.size_alloc]
  · rw [if_neg (by omega), if_neg (by omega), if_neg (by omega), if_true]
  · rw [if_neg (by omega), if_neg (by omega), if_true]
  · rw [if_neg (by omega), if_true]
  · rw [if_true]
theorem cell_belowB {W W' : World} (hb : Below W.heap.size W W') {a : Addr} {v : Value} (h : W.cell? a = some v) : W'.cell? a = some v :=
  (hb.cell (World.block_lt_of_cell? W a h)).trans h

theorem wpList_load_partG {P : Program} {ops : Array Oper} {rest : List Oper} {o : Oper} {a : Act} {w : World} {Q : Exit → Act → World → Prop} (ty : TypeId) (x : Operand) (ho : o.op = .load ty x)
    (g off n : Nat) (hx : a.eval x = .pointer (some ⟨g, off, none⟩)) (hw : Region.wanted o (yielded ops a.tmps) = true) (t : TypeId) (cs : Array Value) (fr : Nat × Nat) (d : TypeDesc) (hg : w.heap[g]? = some (.cells cs t fr))
    (hu : P.underlying ty = some d) (hd : (match d with | .struct _ | .array _ _ => true | _ => false) = true) (hi : (P.info? ty).map (·.size) = some n) (hn : off + n ≤ cs.size)
    (vs : Array Value) (hvs : cs.extract off (off + n) = vs) (h : wpList P ops Q rest (a.put o.dst (.agg vs)) w) : wpList P ops Q (o :: rest) a w := by
  subst hvs
  refine wpList_step fun K hK => ?_
  simp only [hw, if_true]
  unfold Oper.wp execOp
  simp only [ho, hx, Instr.loadAt, Instr.sureAddr, Sem.run_bind, Sem.run_pure, Result.andThen_ok, run_loadVar_part w g off n t ty cs fr d hg hu hd hi hn]
  exact hK _ _ h

end Go.Proofs.YtdbleddcnknmiaaGreatDoor

namespace Go.Proofs.YtdbleddcnknmiaaGreatDoor
open Go.ChangeShapes Go.WideShapes Go.ChangeAt Go.RowKit Go.Deep Go.Joins

/-- A sun and a facing, and an awning besides, as cells. -/
def fsC (hs ts : List Int) (fc : Int) : Array Value := sunC hs ts ++ #[.int .i64 fc]

def shC (hs ts : List Int) (fc : Int) (o dr gp tl : Nat) : Array Value := fsC hs ts fc ++ awC o dr gp tl

theorem fsC_size (hs ts : List Int) (fc : Int) (h : hs.length = 24) (t : ts.length = 24) : (fsC hs ts fc).size = 49 := by simp [fsC, sunC_size _ _ h t]

theorem shC_size (hs ts : List Int) (fc : Int) (o dr gp tl : Nat) (h : hs.length = 24) (t : ts.length = 24) : (shC hs ts fc o dr gp tl).size = 53 := by simp [shC, fsC_size _ _ fc h t, awC]

theorem fs_fits (hs ts : List Int) (fc : Int) (h : hs.length = 24) (t : ts.length = 24) : 0 + 49 ≤ (fsC hs ts fc).size := by rw [fsC_size _ _ _ h t]; decide

theorem fs_fits48 (hs ts : List Int) (fc : Int) (h : hs.length = 24) (t : ts.length = 24) : 0 + 48 ≤ (fsC hs ts fc).size := by rw [fsC_size _ _ _ h t]; decide

theorem sh_fits (hs ts : List Int) (fc : Int) (o dr gp tl : Nat) (h : hs.length = 24) (t : ts.length = 24) : 0 + 53 ≤ (shC hs ts fc o dr gp tl).size := by rw [shC_size _ _ _ _ _ _ _ h t]; decide

theorem sh_fits49 (hs ts : List Int) (fc : Int) (o dr gp tl : Nat) (h : hs.length = 24) (t : ts.length = 24) : 0 + 49 ≤ (shC hs ts fc o dr gp tl).size := by rw [shC_size _ _ _ _ _ _ _ h t]; decide

theorem extract_left (a b : Array Value) (n : Nat) (h : a.size = n) : (a ++ b).extract 0 (0 + n) = a := by
  subst h; simp

theorem fs_all (hs ts : List Int) (fc : Int) (h : hs.length = 24) (t : ts.length = 24) : (fsC hs ts fc).extract 0 (0 + 49) = fsC hs ts fc := by
  rw [Nat.zero_add, ← fsC_size hs ts fc h t, Array.extract_size]

theorem fs_sun (hs ts : List Int) (fc : Int) (h : hs.length = 24) (t : ts.length = 24) : (fsC hs ts fc).extract 0 (0 + 48) = sunC hs ts := extract_left _ _ _ (sunC_size _ _ h t)

theorem sh_all (hs ts : List Int) (fc : Int) (o dr gp tl : Nat) (h : hs.length = 24) (t : ts.length = 24) : (shC hs ts fc o dr gp tl).extract 0 (0 + 53) = shC hs ts fc o dr gp tl := by
  rw [Nat.zero_add, ← shC_size hs ts fc o dr gp tl h t, Array.extract_size]

theorem sh_fs (hs ts : List Int) (fc : Int) (o dr gp tl : Nat) (h : hs.length = 24) (t : ts.length = 24) : (shC hs ts fc o dr gp tl).extract 0 (0 + 49) = fsC hs ts fc := extract_left _ _ _ (fsC_size _ _ _ h t)

theorem sunC_one (hs ts : List Int) : ∀ v ∈ sunC hs ts, v.oneCell' = true := i16s_one _

theorem fs_one (hs ts : List Int) (fc : Int) : ∀ v ∈ fsC hs ts fc, v.oneCell' = true := by
  intro v hv
  rcases Array.mem_append.1 hv with h | h
  · exact sunC_one _ _ v h
  · simp only [List.mem_toArray, List.mem_cons, List.not_mem_nil, or_false] at h
    subst h; rfl

theorem sh_one (hs ts : List Int) (fc : Int) (o dr gp tl : Nat) : ∀ v ∈ shC hs ts fc o dr gp tl, v.oneCell' = true := by
  intro v hv
  rcases Array.mem_append.1 hv with h | h
  · exact fs_one _ _ _ v h
  · exact aw_one _ _ _ _ v h

theorem fs_48 (hs ts : List Int) (fc : Int) (h : hs.length = 24) (t : ts.length = 24) : (fsC hs ts fc)[48]? = some (.int .i64 fc) := by
  have e : (sunC hs ts).size = 48 := sunC_size _ _ h t
  unfold fsC
  rw [Array.getElem?_append_right (by omega), e]; rfl

theorem fs_cell {hs ts : List Int} {fc : Int} {W : World} {b : Nat} {T : TypeId} {fr : Nat × Nat} (h : hs.length = 24) (t : ts.length = 24) (hg : W.heap[b]? = some (.cells (fsC hs ts fc) T fr)) : W.cell? ⟨b, 48, none⟩ = some (.int .i64 fc) := by
  rw [cell_of_row W _ _ _ _ _ hg, fs_48 _ _ _ h t]

theorem sh_ge (hs ts : List Int) (fc : Int) (o dr gp tl : Nat) (h : hs.length = 24) (t : ts.length = 24) (k : Nat) : (shC hs ts fc o dr gp tl)[49 + k]? = (awC o dr gp tl)[k]? := by
  have e : (fsC hs ts fc).size = 49 := fsC_size _ _ _ h t
  unfold shC
  rw [Array.getElem?_append_right (by omega), e, Nat.add_sub_cancel_left]

theorem sh_cells {hs ts : List Int} {fc : Int} {o dr gp tl : Nat} {W : World} {b : Nat} {T : TypeId} {fr : Nat × Nat} (h : hs.length = 24) (t : ts.length = 24) (hg : W.heap[b]? = some (.cells (shC hs ts fc o dr gp tl) T fr)) :
    W.cell? ⟨b, 49, none⟩ = some (.float .f32 o) ∧ W.cell? ⟨b, 50, none⟩ = some (.float .f32 dr) ∧ W.cell? ⟨b, 51, none⟩ = some (.float .f32 gp) ∧ W.cell? ⟨b, 52, none⟩ = some (.float .f32 tl) :=
  ⟨by rw [cell_of_row W _ _ _ _ _ hg]; exact sh_ge _ _ _ _ _ _ _ h t 0, by rw [cell_of_row W _ _ _ _ _ hg]; exact sh_ge _ _ _ _ _ _ _ h t 1, by rw [cell_of_row W _ _ _ _ _ hg]; exact sh_ge _ _ _ _ _ _ _ h t 2, by rw [cell_of_row W _ _ _ _ _ hg]; exact sh_ge _ _ _ _ _ _ _ h t 3⟩

set_option maxRecDepth 100000 in
theorem info_fs : (Tryz.prog.info? 65).map (·.size) = some 49 := by kernel_rfl

theorem len24 {xs : List Int} (h : xs.length = 24) : ∃ a0 a1 a2 a3 a4 a5 a6 a7 a8 a9 b0 b1 b2 b3 b4 b5 b6 b7 b8 b9 c0 c1 c2 c3 : Int, xs = [a0, a1, a2, a3, a4, a5, a6, a7, a8, a9, b0, b1, b2, b3, b4, b5, b6, b7, b8, b9, c0, c1, c2, c3] := by
  match xs, h with
  | [a0, a1, a2, a3, a4, a5, a6, a7, a8, a9, b0, b1, b2, b3, b4, b5, b6, b7, b8, b9, c0, c1, c2, c3], _ => exact ⟨_, _, _, _, _, _, _, _, _, _, _, _, _, _, _, _, _, _, _, _, _, _, _, _, rfl⟩

set_option maxRecDepth 100000 in
theorem built_fs (hs ts : List Int) (fc : Int) (h : hs.length = 24) (t : ts.length = 24) : Tryz.prog.built 65 [(0, .agg (sunC hs ts)), (1, .int .i64 fc)] = some (fsC hs ts fc) := by
  obtain ⟨a0, a1, a2, a3, a4, a5, a6, a7, a8, a9, b0, b1, b2, b3, b4, b5, b6, b7, b8, b9, c0, c1, c2, c3, rfl⟩ := len24 h
  obtain ⟨d0, d1, d2, d3, d4, d5, d6, d7, d8, d9, e0, e1, e2, e3, e4, e5, e6, e7, e8, e9, f0, f1, f2, f3, rfl⟩ := len24 t
  kernel_rfl

theorem wpList_buildL {P : Program} {ops : Array Oper} {rest : List Oper} {o : Oper} {a : Act} {w : World} {Q : Exit → Act → World → Prop} (hg : o.guard = none) (t : TypeId) (parts : Array (Nat × Operand)) (ho : o.op = .build t parts)
    (d : Option Tmp) (hd : o.dst = d) (l : List (Nat × Value)) (hp : parts.toList.map (fun x => (x.1, a.eval x.2)) = l) (cells : Array Value) (hf : P.built t l = some cells)
    (h : wpList P ops Q rest (a.put d (.agg cells)) w) : wpList P ops Q (o :: rest) a w := by
  refine wpList_buildTo hg t parts ho d hd cells ?_ h
  rw [Array.toList_map, ← hf, ← hp]

end Go.Proofs.YtdbleddcnknmiaaGreatDoor

namespace Go.Proofs.YtdbleddcnknmiaaGreatDoor
open Go

theorem cut_sign (s : Bool) (n d : Nat) : Ieee.Toward.even.cut s n d = Ieee.Toward.even.cut false n d := by
  unfold Ieee.Toward.cut
  rfl

theorem nearest_sign (s : Bool) (m : Nat) (e : Int) : Ieee.single.nearest s m e = if s then 2147483648 + Ieee.single.nearest false m e else Ieee.single.nearest false m e := by
  have hw : Ieee.single.signWeight = 2147483648 := by decide
  have hword : ∀ r, Ieee.single.word s r = if s then 2147483648 + Ieee.single.word false r else Ieee.single.word false r := by
    intro r
    unfold Ieee.Format.word
    rw [hw]
    cases s <;> rfl
  unfold Ieee.Format.nearest
  by_cases hm : m = 0
  · rw [if_pos hm, if_pos hm]
    exact hword 0
  · rw [if_neg hm, if_neg hm]
    dsimp only
    rw [cut_sign s]
    exact hword _

theorem signed_not (t : Bool) (n k : Nat) : Ieee.signed (!t) n k = - Ieee.signed t n k := by
  unfold Ieee.signed
  cases t <;> simp

theorem sub_num {x y B C : Nat} (hx : isNum x) (hy : isNum y) (hX : (sv x).natAbs ≤ rv B) (hY : (sv y).natAbs ≤ rv B) (hBC : 2 * rv B ≤ rv C) (hC : C < 2139095040) :
    floatBits .sub .f32 x y = some (fsub x y) ∧ isNum (fsub x y) := by
  obtain ⟨s, m, i, hr, hm⟩ := read_num32 hx
  obtain ⟨t, n, j, hq, hn⟩ := read_num32 hy
  rw [← signed_scale s m i (min i j) (Nat.min_le_left _ _)] at hm
  rw [← signed_scale t n j (min i j) (Nat.min_le_right _ _)] at hn
  have h : Ieee.single.sub x y = some (Ieee.single.nearest (if Ieee.signed s m (i - min i j) - Ieee.signed t n (j - min i j) = 0 then (s && !t) else decide (Ieee.signed s m (i - min i j) - Ieee.signed t n (j - min i j) < 0)) (Ieee.signed s m (i - min i j) - Ieee.signed t n (j - min i j)).natAbs (-149 + ((min i j : Nat) : Int))) := by
    unfold Ieee.Format.sub
    rw [hr, hq]
    have e0 : min (-149 + (i : Int)) (-149 + (j : Int)) = -149 + ((min i j : Nat) : Int) := by omega
    have e1 : (-149 + (i : Int) - (-149 + ((min i j : Nat) : Int))).toNat = i - min i j := by omega
    have e2 : (-149 + (j : Int) - (-149 + ((min i j : Nat) : Int))).toNat = j - min i j := by omega
    simp only [Ieee.Datum.opposite, Ieee.Datum.sum, Option.map_some, Ieee.Format.write, e0, e1, e2, signed_not, ← Int.sub_eq_add_neg]
  refine ⟨by unfold fsub; rw [h]; exact h, ?_⟩
  have e1 : fsub x y = (Ieee.single.sub x y).getD 0 := rfl
  rw [h, Option.getD_some] at e1
  generalize hT : Ieee.signed s m (i - min i j) - Ieee.signed t n (j - min i j) = T at *
  have hsv : T * ((2 ^ min i j : Nat) : Int) = sv x - sv y := by rw [← hT, Int.sub_mul, hm, hn]
  have habs : T.natAbs * 2 ^ min i j ≤ rv C := by
    have h1 : (T * ((2 ^ min i j : Nat) : Int)).natAbs = T.natAbs * 2 ^ min i j := by rw [Int.natAbs_mul, Int.natAbs_natCast]
    rw [← h1, hsv]
    omega
  have hR := nearest_rnd T.natAbs (-149 + ((min i j : Nat) : Int)) (min i j) 0 (by omega)
  have hle := rnd_le hR (r := C) (by decide) (by simpa using habs)
  rw [e1]
  generalize (if T = 0 then (s && !t) else decide (T < 0)) = sg
  rw [nearest_sign]
  cases sg
  · rw [if_neg (by simp)]; exact .inl (by omega)
  · rw [if_pos rfl]; exact .inr ⟨by omega, by omega⟩

theorem size_isNum {x : Nat} (h : isNum x) : isNum (sizeB x) := by
  unfold sizeB
  split
  · rcases h with h | ⟨h1, h2⟩
    · exact .inl (by omega)
    · exact .inl (by omega)
  · exact h

/-- Whether a number is less than another one. -/
def ltF (a b : Nat) : Bool := FloatKind.f32.format.order a b == some .lt
/-- The first of several numbers that is least. -/
def firstMin (d : Nat → Nat) : Nat → Nat
  | 0 => 0
  | k + 1 => if ltF (d (k + 1)) (d (firstMin d k)) then k + 1 else firstMin d k
theorem firstMin_le (d : Nat → Nat) : ∀ k, firstMin d k ≤ k
  | 0 => Nat.le_refl _
  | k + 1 => by
    have := firstMin_le d k
    unfold firstMin
    split <;> omega
theorem firstMin_hit {d : Nat → Nat} {k : Nat} (h : ltF (d (k + 1)) (d (firstMin d k)) = true) : firstMin d (k + 1) = k + 1 := by rw [firstMin, if_pos h]
theorem firstMin_miss {d : Nat → Nat} {k : Nat} (h : ltF (d (k + 1)) (d (firstMin d k)) = false) : firstMin d (k + 1) = firstMin d k := by rw [firstMin, if_neg (by rw [h]; decide)]
/-- The order of two finite numbers. -/
theorem order_cases {x y : Nat} (hx : isNum x) (hy : isNum y) : (FloatKind.f32.format.order x y = some .lt ∧ ltF x y = true) ∨ (FloatKind.f32.format.order x y = some .eq ∧ ltF x y = false) ∨ (FloatKind.f32.format.order x y = some .gt ∧ ltF x y = false) := by
  unfold ltF
  rw [order_num hx hy]
  cases compare (sv x) (sv y) <;> simp
theorem order_self {x : Nat} (hx : isNum x) : FloatKind.f32.format.order x x = some .eq := by
  rw [order_num hx hx, Int.compare_eq_eq.2 rfl]

/-- The same, with the first one looked at twice. -/
def bestK (d : Nat → Nat) (k : Nat) : Nat := if k = 0 then 0 else firstMin d (k - 1)
theorem bestK_hit {d : Nat → Nat} {k : Nat} (h : ltF (d k) (d (bestK d k)) = true) : bestK d (k + 1) = k := by
  cases k with
  | zero => rfl
  | succ k => exact firstMin_hit h
theorem bestK_miss {d : Nat → Nat} {k : Nat} (h : ltF (d k) (d (bestK d k)) = false) : bestK d (k + 1) = bestK d k := by
  cases k with
  | zero => rfl
  | succ k => exact firstMin_miss h
theorem bestK_lt (d : Nat → Nat) {k n : Nat} (h : k ≤ n) (hn : 0 < n) : bestK d k < n := by
  unfold bestK
  split
  · exact hn
  · have := firstMin_le d (k - 1)
    omega
theorem bestK_end (d : Nat → Nat) {n : Nat} (hn : 0 < n) : bestK d n = firstMin d (n - 1) := by
  unfold bestK
  rw [if_neg (by omega)]

end Go.Proofs.YtdbleddcnknmiaaGreatDoor

namespace Go.Proofs.YtdbleddcnknmiaaGreatDoor
open Go

/-- No NaN, and no minus sign. -/
def pos32 (x : Nat) : Bool := match Ieee.single.read x with | .number s _ _ => !s | .infinity s => !s | .nan _ _ => false

theorem pos_fin {x : Nat} (h : pos32 x = true) : fin32 x = true := by
  unfold pos32 at h
  unfold fin32
  cases hr : Ieee.single.read x with
  | number s m e => rfl
  | infinity s => rfl
  | nan s f => rw [hr] at h; cases h

theorem pos_word (k : Nat) (h : k ≤ Ieee.single.infRung) : pos32 (Ieee.single.word false k) = true := by
  have hi : Ieee.single.infRung = 2139095040 := by decide
  have hw : Ieee.single.signWeight = 2147483648 := by decide
  rw [hi] at h
  unfold pos32 Ieee.Format.read Ieee.Format.word
  simp only [hi, hw, Bool.false_eq_true, if_false]
  have hk : k % 2147483648 = k := Nat.mod_eq_of_lt (by omega)
  have hd : k / 2147483648 = 0 := Nat.div_eq_of_lt (by omega)
  rw [hk, hd]
  by_cases c1 : k < Ieee.single.binade
  · rw [if_pos c1]; rfl
  · rw [if_neg c1]
    by_cases c2 : k < 2139095040
    · rw [if_pos c2]; rfl
    · rw [if_neg c2, if_pos (by omega)]; rfl

theorem pos_nearest (m : Nat) (e : Int) : pos32 (Ieee.single.nearest false m e) = true := by
  unfold Ieee.Format.nearest
  split
  · exact pos_word 0 (Nat.zero_le _)
  · exact pos_word _ (Nat.min_le_right _ _)

theorem signed_nonneg (m u : Nat) : 0 ≤ Ieee.signed false m u := by
  unfold Ieee.signed
  rw [if_neg (by decide)]
  exact Int.natCast_nonneg _

/-- A sum of such numbers is made without a draw, and is one again. -/
theorem add_ok {x y : Nat} (hx : pos32 x = true) (hy : pos32 y = true) : floatBits .add .f32 x y = some (fadd x y) ∧ pos32 (fadd x y) = true := by
  suffices h : ∃ d, (Ieee.single.read x).sum (Ieee.single.read y) = some d ∧ pos32 (Ieee.single.write d) = true by
    obtain ⟨d, h1, h2⟩ := h
    have h3 : Ieee.single.add x y = some (Ieee.single.write d) := by unfold Ieee.Format.add; rw [h1]; rfl
    have e1 : fadd x y = Ieee.single.write d := by unfold fadd; rw [h3]; rfl
    rw [e1]; exact ⟨h3, h2⟩
  unfold pos32 at hx hy
  cases hr : Ieee.single.read x with
  | nan s f => rw [hr] at hx; cases hx
  | infinity s =>
    rw [hr] at hx
    cases s
    · cases hq : Ieee.single.read y with
      | nan t f => rw [hq] at hy; cases hy
      | infinity t =>
        rw [hq] at hy
        cases t
        · exact ⟨.infinity false, rfl, by decide⟩
        · cases hy
      | number t n j => exact ⟨.infinity false, rfl, by decide⟩
    · cases hx
  | number s m e =>
    rw [hr] at hx
    cases s
    · cases hq : Ieee.single.read y with
      | nan t f => rw [hq] at hy; cases hy
      | infinity t =>
        rw [hq] at hy
        cases t
        · exact ⟨.infinity false, rfl, by decide⟩
        · cases hy
      | number t n j =>
        rw [hq] at hy
        cases t
        · refine ⟨_, rfl, ?_⟩
          have h1 := signed_nonneg m (e - min e j).toNat
          have h2 := signed_nonneg n (j - min e j).toNat
          have h3 : 0 ≤ Ieee.signed false m (e - min e j).toNat + Ieee.signed false n (j - min e j).toNat := Int.add_nonneg h1 h2
          generalize Ieee.signed false m (e - min e j).toNat + Ieee.signed false n (j - min e j).toNat = tot at h3 ⊢
          have hneg : (if tot = 0 then (false && false) else decide (tot < 0)) = false := by
            split
            · rfl
            · exact decide_eq_false (by omega)
          rw [hneg]
          exact pos_nearest _ _
        · cases hy
    · cases hx

/-- The sum of the first numbers of a row, beginning with 0. -/
def sumTo (f : Nat → Nat) (k : Nat) : Nat := (List.range k).foldl (fun s h => fadd s (f h)) 0
theorem sumTo_succ (f : Nat → Nat) (k : Nat) : sumTo f (k + 1) = fadd (sumTo f k) (f k) := by
  simp [sumTo, List.range_succ]
theorem sumTo_pos (f : Nat → Nat) (n : Nat) (hf : ∀ k, k < n → pos32 (f k) = true) : ∀ k, k ≤ n → pos32 (sumTo f k) = true
  | 0, _ => by show pos32 0 = true; decide
  | k + 1, h => by rw [sumTo_succ]; exact (add_ok (sumTo_pos f n hf k (by omega)) (hf k (by omega))).2

theorem sineB_pos_nat : ∀ n : Nat, n < 65 → pos32 (sineB (n : Int)) = true := by decide +kernel
theorem groundB_pos (x : Int) (h : x ≤ 64) : pos32 (groundB x) = true := by
  unfold groundB
  split
  · rename_i h0
    obtain ⟨n, rfl⟩ := Int.eq_ofNat_of_zero_le (by omega : 0 ≤ x)
    exact sineB_pos_nat n (by omega)
  · decide

theorem litB_pos (l : Nat) : pos32 (litB l) = true := by
  unfold litB
  split
  · rename_i h
    have h' : (Ieee.single.read l).order (Ieee.single.read 0) = some .gt := h
    have hz : Ieee.single.read 0 = .number false 0 (-149) := by decide
    rw [hz] at h'
    unfold pos32
    cases hr : Ieee.single.read l with
    | nan s f => rw [hr] at h'; cases h'
    | infinity s => rw [hr] at h'; cases s <;> first | rfl | (simp [Ieee.Datum.order] at h')
    | number s m e =>
      rw [hr] at h'
      cases s
      · rfl
      · exfalso
        simp only [Ieee.Datum.order, Option.some.injEq] at h'
        have h1 : Ieee.signed true m (e - min e (-149)).toNat ≤ 0 := by
          unfold Ieee.signed
          rw [if_pos rfl]
          exact Int.neg_nonpos_of_nonneg (Int.natCast_nonneg _)
        have h2 : Ieee.signed false 0 ((-149 : Int) - min e (-149)).toNat = 0 := by simp [Ieee.signed]
        rw [h2] at h'
        have := Int.compare_eq_gt.1 h'
        omega
  · decide
theorem fallB_pos (x d : Int) : pos32 (fallB x d) = true := by
  unfold fallB
  split
  · exact litB_pos _
  · decide

end Go.Proofs.YtdbleddcnknmiaaGreatDoor

namespace Go.Proofs.YtdbleddcnknmiaaGreatDoor
open Go

theorem word_true (k : Nat) : Ieee.single.word true k = 2147483648 + Ieee.single.word false k := by
  unfold Ieee.Format.word
  have hw : Ieee.single.signWeight = 2147483648 := by decide
  simp [hw]
theorem nearest_true (m : Nat) (e : Int) : Ieee.single.nearest true m e = 2147483648 + Ieee.single.nearest false m e := by
  unfold Ieee.Format.nearest
  split
  · exact word_true _
  · exact word_true _
theorem cosB_pos_nat : ∀ n : Nat, n < 65 → cosB (n : Int) ≤ 1065353216 := by decide +kernel
theorem sineB_sgn_nat : ∀ n : Nat, n < 256 → sineB (n : Int) ≤ 1065353216 ∨ (2147483648 ≤ sineB (n : Int) ∧ sineB (n : Int) ≤ 2147483648 + 1065353216) := by decide +kernel
theorem cosB_sgn (a : Int) : cosB a ≤ 1065353216 ∨ (2147483648 ≤ cosB a ∧ cosB a ≤ 2147483648 + 1065353216) := by
  unfold cosB
  have h0 := angB_lo (a + 64)
  have h1 := angB_hi (a + 64)
  generalize angB (a + 64) = n at *
  obtain ⟨m, rfl⟩ := Int.eq_ofNat_of_zero_le h0
  exact sineB_sgn_nat m (by omega)
theorem read_neg_same {x : Nat} (hx : x < 2139095040) {m : Nat} {e : Int} (h : Ieee.single.read x = .number false m e) : Ieee.single.read (2147483648 + x) = .number true m e := by
  unfold Ieee.Format.read at h ⊢
  have hw : Ieee.single.signWeight = 2147483648 := by decide
  have hbi : Ieee.single.binade = 8388608 := by decide
  have hir : Ieee.single.infRung = 2139095040 := by decide
  simp only [hw, hbi, hir] at h ⊢
  have e1 : x % 2147483648 = x := Nat.mod_eq_of_lt (by omega)
  have e2 : (2147483648 + x) % 2147483648 = x := by omega
  rw [e1] at h
  rw [e2]
  have e3 : ¬ (2147483648 ≤ x) := by omega
  have e4 : 2147483648 ≤ 2147483648 + x := by omega
  by_cases h1 : x < 8388608
  · simp_all
    omega
  · have h2 : x < 2139095040 := hx
    simp_all
    rw [if_neg (by omega)]
    have h5 : (x / 2147483648 + 1) % 2 = 1 := by omega
    rw [h5]
    rfl
theorem fall_num (x d : Int) (h0 : 0 < x) (h1 : x ≤ 64) : num32 (fallB x d) = true := by
  unfold fallB
  rw [if_pos h0]
  have hl : num32 (fmul (cosB x) (cosB d)) = true := by
    obtain ⟨n, rfl⟩ := Int.eq_ofNat_of_zero_le (by omega : 0 ≤ x)
    have ha := cosB_pos_nat n (by omega)
    generalize cosB (n : Int) = a at *
    rcases cosB_sgn d with hb | ⟨hb0, hb1⟩
    · exact num_of_isNum (.inl (Nat.lt_of_le_of_lt (mul_le_one (x := a) (y := cosB d) (by omega) hb) (by omega)))
    · obtain ⟨b, hb⟩ : ∃ b, cosB d = 2147483648 + b := ⟨cosB d - 2147483648, by omega⟩
      rw [hb]
      have hbl : b ≤ 1065353216 := by omega
      obtain ⟨m, i, hm, _⟩ := read_pos (x := a) (by omega)
      obtain ⟨k, j, hk, _⟩ := read_pos (x := b) (by omega)
      have hk' := read_neg_same (x := b) (by omega) hk
      have e1 : fmul a b = Ieee.single.write (.number (false ^^ false) (m * k) (-149 + (i : Int) + (-149 + (j : Int)))) := by
        have h : Ieee.single.mul a b = some (Ieee.single.write (.number (false ^^ false) (m * k) (-149 + (i : Int) + (-149 + (j : Int))))) := by
          unfold Ieee.Format.mul
          rw [hm, hk]; rfl
        unfold fmul; rw [h]; rfl
      have e2 : fmul a (2147483648 + b) = Ieee.single.write (.number (false ^^ true) (m * k) (-149 + (i : Int) + (-149 + (j : Int)))) := by
        have h : Ieee.single.mul a (2147483648 + b) = some (Ieee.single.write (.number (false ^^ true) (m * k) (-149 + (i : Int) + (-149 + (j : Int))))) := by
          unfold Ieee.Format.mul
          rw [hm, hk']; rfl
        unfold fmul; rw [h]; rfl
      have e3 : fmul a (2147483648 + b) = 2147483648 + fmul a b := by
        rw [e1, e2]
        exact nearest_true _ _
      have h2 := mul_le_one (x := a) (y := b) (by omega) hbl
      rw [e3]
      exact num_of_isNum (.inr ⟨by omega, by omega⟩)
  unfold litB
  split
  · exact hl
  · decide

theorem fmul_zero {a : Nat} (ha : a < 2139095040) : fmul a 0 = 0 := rnd_exact (mul_rnd ha (y := 0) (by decide)).2 (by decide) (Nat.two_pow_pos _) (by rw [rv_zero]; simp)
theorem zero_fmul {a : Nat} (ha : a < 2139095040) : fmul 0 a = 0 := rnd_exact (mul_rnd (x := 0) (by decide) ha).2 (by decide) (Nat.two_pow_pos _) (by rw [rv_zero]; simp)
theorem mul_negR {a b : Nat} (ha : a < 2139095040) (hb : b < 2139095040) : fmul a (2147483648 + b) = 2147483648 + fmul a b := by
  obtain ⟨m, i, hm, _⟩ := read_pos (x := a) ha
  obtain ⟨k, j, hk, _⟩ := read_pos (x := b) hb
  have hk' := read_neg_same (x := b) hb hk
  have e1 : fmul a b = Ieee.single.write (.number (false ^^ false) (m * k) (-149 + (i : Int) + (-149 + (j : Int)))) := by
    have h : Ieee.single.mul a b = some (Ieee.single.write (.number (false ^^ false) (m * k) (-149 + (i : Int) + (-149 + (j : Int))))) := by
      unfold Ieee.Format.mul
      rw [hm, hk]; rfl
    unfold fmul; rw [h]; rfl
  have e2 : fmul a (2147483648 + b) = Ieee.single.write (.number (false ^^ true) (m * k) (-149 + (i : Int) + (-149 + (j : Int)))) := by
    have h : Ieee.single.mul a (2147483648 + b) = some (Ieee.single.write (.number (false ^^ true) (m * k) (-149 + (i : Int) + (-149 + (j : Int))))) := by
      unfold Ieee.Format.mul
      rw [hm, hk']; rfl
    unfold fmul; rw [h]; rfl
  rw [e1, e2]
  exact nearest_true _ _

theorem litB_word {p : Nat} (h0 : 0 < p) (h1 : p < 2139095040) : litB p = p := by
  unfold litB
  rw [order_pos h1 (by decide), if_pos]
  rw [Nat.compare_eq_gt.2 h0]
theorem litB_zero : litB 0 = 0 := by decide +kernel
theorem litB_under {r : Nat} (h : r < 2139095040) : litB (2147483648 + r) = 0 := by
  unfold litB
  rw [order_num (.inr ⟨by omega, by omega⟩) (.inl (by decide)), if_neg]
  intro h1
  injection h1 with h1
  have h2 := Int.compare_eq_gt.1 h1
  have h3 := sv_neg_le r
  have h4 : sv 0 = 0 := rfl
  omega

theorem sine_step_nat : ∀ n : Nat, n < 256 → sineB (n : Int) = 0 ∨ (1019794704 ≤ sineB (n : Int) ∧ sineB (n : Int) ≤ 1065353216) ∨ (2147483648 ≤ sineB (n : Int) ∧ sineB (n : Int) ≤ 2147483648 + 1065353216) := by decide +kernel
theorem cos_step (a : Int) : cosB a = 0 ∨ (1019794704 ≤ cosB a ∧ cosB a ≤ 1065353216) ∨ (2147483648 ≤ cosB a ∧ cosB a ≤ 2147483648 + 1065353216) := by
  unfold cosB
  have h0 := angB_lo (a + 64)
  have h1 := angB_hi (a + 64)
  generalize angB (a + 64) = n at *
  obtain ⟨m, rfl⟩ := Int.eq_ofNat_of_zero_le h0
  exact sine_step_nat m (by omega)
theorem least_light : fmul 1019794704 1019794704 = 975015322 := by decide +kernel

/-- Light on a window is 0, or not next to it, and at most 1. -/
theorem fall_rng (x d : Int) (h0 : 0 < x) (h1 : x ≤ 64) : fallB x d = 0 ∨ (975015322 ≤ fallB x d ∧ fallB x d ≤ 1065353216) := by
  unfold fallB
  rw [if_pos h0]
  have ha := cos_step x
  have hc : cosB x ≤ 1065353216 := by
    obtain ⟨n, rfl⟩ := Int.eq_ofNat_of_zero_le (by omega : 0 ≤ x)
    exact cosB_pos_nat n (by omega)
  have hb := cos_step d
  generalize cosB x = a at *
  generalize cosB d = b at *
  rcases hb with rfl | ⟨b0, b1⟩ | ⟨b0, b1⟩
  · rw [fmul_zero (by omega), litB_zero]; exact .inl rfl
  · rcases ha with rfl | ⟨a0, a1⟩ | ⟨a0, a1⟩
    · rw [zero_fmul (by omega), litB_zero]; exact .inl rfl
    · have m1 := mul_mono (x := 1019794704) (X := a) (y := 1019794704) (Y := b) (by omega) (by omega) a0 b0
      have m2 := mul_le_one (x := a) (y := b) (by omega) b1
      rw [least_light] at m1
      rw [litB_word (by omega) (by omega)]
      exact .inr ⟨m1, by omega⟩
    · omega
  · obtain ⟨c, rfl⟩ : ∃ c, b = 2147483648 + c := ⟨b - 2147483648, by omega⟩
    have m2 := mul_le_one (x := a) (y := c) (by omega) (by omega)
    rw [mul_negR (by omega) (by omega), litB_under (by omega)]
    exact .inl rfl

theorem pos_of_lt {x : Nat} (h : x < 2139095040) : pos32 x = true := by
  obtain ⟨m, i, hr, _⟩ := read_pos h
  unfold pos32
  rw [hr]; rfl

end Go.Proofs.YtdbleddcnknmiaaGreatDoor

namespace Go.Proofs.YtdbleddcnknmiaaGreatDoor
open Go

/-- How far the shade reaches, what that is of the window, and what is shaded. -/
def ratB (x : Int) (f : Nat) : Nat := fdiv (sineB x) f
def depB (o dr : Nat) (x : Int) (f : Nat) : Nat := fadd (fmul o (ratB x f)) dr
def quoA (o dr gp tl : Nat) (x : Int) (f : Nat) : Nat := fdiv (fsub (depB o dr x f) gp) tl
def cutB (q : Nat) : Nat := if FloatKind.f32.format.order q 0 = some .gt then (if FloatKind.f32.format.order q 1065353216 = some .gt then 1065353216 else q) else 0
def shB (o dr gp tl : Nat) (x : Int) (f : Nat) : Nat := if f = 0 then 0 else cutB (quoA o dr gp tl x f)
/-- The light behind an awning. -/
def behB (f p : Nat) : Nat := fsub f (fmul f p)

theorem neg0_add {x : Nat} (hx : x < 2139095040) : floatBits .add .f32 2147483648 x = some x := by
  obtain ⟨m, i, hr, hm⟩ := read_pos hx
  have hz : Ieee.single.read 2147483648 = .number true 0 (-149) := by decide +kernel
  show Ieee.single.add 2147483648 x = _
  unfold Ieee.Format.add
  rw [hr, hz]
  have e0 : min (-149) (-149 + (i : Int)) = -149 := by omega
  have e2 : (-149 + (i : Int) - (-149 : Int)).toNat = i := by omega
  have e4 : Ieee.signed true 0 (-149 - (-149 : Int)).toNat = 0 := by decide
  simp only [Ieee.Datum.sum, Option.map_some, Ieee.Format.write, e0, e2, e4, signed_false, Int.zero_add, Int.natAbs_natCast]
  have e5 : (if ((m * 2 ^ i : Nat) : Int) = 0 then (true && false) else decide (((m * 2 ^ i : Nat) : Int) < 0)) = false := by
    split
    · rfl
    · exact decide_eq_false (by omega)
  rw [e5]
  have hR := nearest_rnd (m * 2 ^ i) (-149) 0 0 (by omega)
  rw [hm] at hR ⊢
  rw [rnd_exact hR (r := x) (by omega) (by decide) rfl]

/-- A sum of two numbers that are not less than 0, or -0. -/
theorem addz {x y X Y : Nat} (hX : X < 2139095040) (hY : Y < 2139095040) (hx : x ≤ X ∨ x = 2147483648) (hy : y ≤ Y ∨ y = 2147483648) :
    floatBits .add .f32 x y = some (fadd x y) ∧ (fadd x y ≤ fadd X Y ∨ fadd x y = 2147483648) := by
  rcases hx with hx | rfl
  · rcases hy with hy | rfl
    · exact ⟨(add_rnd (by omega) (by omega)).1, .inl (add_mono hX hY hx hy)⟩
    · have h := add_neg0 (x := x) (by omega)
      rw [fadd_get h]
      refine ⟨h, .inl ?_⟩
      have m := add_mono (x := x) (X := X) (y := 0) (Y := Y) hX hY hx (Nat.zero_le _)
      have e : fadd x 0 = x := rnd_exact (add_rnd (x := x) (y := 0) (by omega) (by decide)).2 (by omega) (by decide) (by rw [rv_zero]; omega)
      omega
  · rcases hy with hy | rfl
    · have h := neg0_add (x := y) (by omega)
      rw [fadd_get h]
      refine ⟨h, .inl ?_⟩
      have m := add_mono (x := 0) (X := X) (y := y) (Y := Y) hX hY (Nat.zero_le _) hy
      have e : fadd 0 y = y := rnd_exact (add_rnd (x := 0) (y := y) (by decide) (by omega)).2 (by omega) (by decide) (by rw [rv_zero]; omega)
      omega
    · have h : floatBits .add .f32 2147483648 2147483648 = some 2147483648 := by decide +kernel
      rw [fadd_get h]
      exact ⟨h, .inr rfl⟩

theorem div_ok {x y : Nat} (hx : num32 x = true) (hy0 : 0 < y) (hy : y < 2139095040) : floatBits .quo .f32 x y = some (fdiv x y) ∧ fin32 (fdiv x y) = true := by
  obtain ⟨s, m, e, hr⟩ := num32_get hx
  obtain ⟨n, j, hq, hn⟩ := read_pos hy
  have hn0 : n ≠ 0 := by
    intro h; rw [h, Nat.zero_mul] at hn; have := rv_pos hy0; omega
  have h : ∃ d : Ieee.Datum, d.isNaN = false ∧ Ieee.single.div x y = some (Ieee.single.write d) := by
    unfold Ieee.Format.div
    rw [hr, hq]
    simp only [Ieee.Datum.quotient, if_neg hn0, Option.map_some]
    exact ⟨_, rfl, rfl⟩
  obtain ⟨d, hd, h⟩ := h
  have e1 : fdiv x y = Ieee.single.write d := by unfold fdiv; rw [h]; rfl
  rw [e1]
  exact ⟨h, write_fin _ hd⟩

theorem sine_high_nat : ∀ n : Nat, n < 65 → sineB (n : Int) ≤ 1065353216 := by decide +kernel

theorem sv_small {x B : Nat} (h : x ≤ B ∨ x = 2147483648) (hB : B < 2147483648) : (sv x).natAbs ≤ rv B := by
  rcases h with h | rfl
  · rw [sv_pos (by omega)]
    have := rv_le h
    omega
  · have : sv 2147483648 = 0 := by decide +kernel
    rw [this]; exact Nat.zero_le _
theorem isNum_small {x B : Nat} (h : x ≤ B ∨ x = 2147483648) (hB : B < 2139095040) : isNum x := by
  rcases h with h | rfl
  · exact .inl (by omega)
  · exact .inr ⟨by decide, by decide⟩

theorem shade_facts {o dr gp tl : Nat} (ho : o ≤ 1090519040 ∨ o = 2147483648) (hd : dr ≤ 1073741824 ∨ dr = 2147483648) (hg : gp ≤ 1073741824 ∨ gp = 2147483648) (t0 : 1040187392 ≤ tl) (t1 : tl ≤ 1082130432)
    {x : Int} (x0 : 0 < x) (x1 : x ≤ 64) {f : Nat} (f0 : 975015322 ≤ f) (f1 : f ≤ 1065353216) :
    floatBits .quo .f32 (sineB x) f = some (ratB x f) ∧ floatBits .mul .f32 o (ratB x f) = some (fmul o (ratB x f)) ∧ floatBits .add .f32 (fmul o (ratB x f)) dr = some (depB o dr x f) ∧
    floatBits .sub .f32 (depB o dr x f) gp = some (fsub (depB o dr x f) gp) ∧ floatBits .quo .f32 (fsub (depB o dr x f) gp) tl = some (quoA o dr gp tl x f) ∧ fin32 (quoA o dr gp tl x f) = true := by
  have hs : sineB x ≤ 1065353216 := by
    obtain ⟨n, rfl⟩ := Int.eq_ofNat_of_zero_le (by omega : 0 ≤ x)
    exact sine_high_nat n (by omega)
  have r1 := div_rnd (x := sineB x) (y := f) (by omega) (by omega) (by omega)
  have r2 := div_mono (x := sineB x) (X := 1065353216) (y := f) (Y := 975015322) (by decide) (by omega) (by decide) hs f0
  have e1 : fdiv 1065353216 975015322 = 1154480907 := by decide +kernel
  rw [e1] at r2
  have hp : floatBits .mul .f32 o (ratB x f) = some (fmul o (ratB x f)) ∧ (fmul o (ratB x f) ≤ 1179646731 ∨ fmul o (ratB x f) = 2147483648) := by
    have hr : ratB x f ≤ 1154480907 := r2
    rcases ho with ho | rfl
    · have m := mul_mono (x := o) (X := 1090519040) (y := ratB x f) (Y := 1154480907) (by decide) (by decide) ho hr
      have e2 : fmul 1090519040 1154480907 = 1179646731 := by decide +kernel
      rw [e2] at m
      exact ⟨(mul_rnd (by omega) (by omega)).1, .inl m⟩
    · have h := (mul_neg0 (x := ratB x f) (by omega)).2
      rw [fmul_get h]
      exact ⟨h, .inr rfl⟩
  have ha := addz (X := 1179646731) (Y := 1073741824) (by decide) (by decide) hp.2 hd
  have e3 : fadd 1179646731 1073741824 = 1179648779 := by decide +kernel
  rw [e3] at ha
  have hdep : depB o dr x f ≤ 1179648779 ∨ depB o dr x f = 2147483648 := ha.2
  have hg' : gp ≤ 1179648779 ∨ gp = 2147483648 := hg.imp (fun h => by omega) id
  have hsub := sub_num (x := depB o dr x f) (y := gp) (B := 1179648779) (C := 1188037387) (isNum_small hdep (by decide)) (isNum_small hg' (by decide)) (sv_small hdep (by decide)) (sv_small hg' (by decide)) (by decide +kernel) (by decide)
  have hq := div_ok (x := fsub (depB o dr x f) gp) (y := tl) (num_of_isNum hsub.2) (by omega) (by omega)
  exact ⟨r1.1, hp.1, ha.1, hsub.1, hq.1, hq.2⟩

theorem cutB_le {q : Nat} (hq : q < 4294967296) : cutB q ≤ 1065353216 := by
  unfold cutB
  by_cases h0 : FloatKind.f32.format.order q 0 = some .gt
  · rw [if_pos h0]
    by_cases h1 : FloatKind.f32.format.order q 1065353216 = some .gt
    · rw [if_pos h1]; exact Nat.le_refl _
    · rw [if_neg h1]
      rcases word_cases q hq with c | c | c | c
      · rw [order_num c (.inl (by decide))] at h0 h1
        injection h0 with h0
        have k0 := Int.compare_eq_gt.1 h0
        have k1 : ¬ (sv q > sv 1065353216) := fun h => h1 (by rw [Int.compare_eq_gt.2 h])
        have e0 : sv 0 = 0 := rfl
        rw [e0] at k0
        rw [sv_pos (x := 1065353216) (by decide)] at k1
        rcases c with c | ⟨c0, c1⟩
        · rw [sv_pos (x := q) (by omega)] at k1
          rw [← rv_le_iff]
          omega
        · obtain ⟨r, rfl⟩ : ∃ r, q = 2147483648 + r := ⟨q - 2147483648, by omega⟩
          have := sv_neg_le r
          omega
      · subst c
        exact absurd (inf_order 1065353216 (.inl (by decide))).1 h1
      · subst c
        rw [(inf_order 0 (.inl (by decide))).2] at h0
        cases h0
      · rw [nan_order c] at h0
        cases h0
  · rw [if_neg h0]; decide

theorem quoA_lt {o dr gp tl : Nat} {x : Int} {f : Nat} (h : floatBits .quo .f32 (fsub (depB o dr x f) gp) tl = some (quoA o dr gp tl x f)) : quoA o dr gp tl x f < 4294967296 := by
  have := floatBits_wf h
  simpa [Lit.wf] using this

theorem beh_facts {f p : Nat} (f1 : f ≤ 1065353216) (p1 : p ≤ 1065353216) :
    floatBits .mul .f32 f p = some (fmul f p) ∧ floatBits .sub .f32 f (fmul f p) = some (behB f p) ∧ behB f p ≤ f := by
  have m := mul_le_one (x := f) (y := p) (by omega) p1
  refine ⟨(mul_rnd (by omega) (by omega)).1, (sub_rnd (by omega) m).1, ?_⟩
  exact rnd_le (sub_rnd (x := f) (y := fmul f p) (by omega) m).2 (by decide) (by omega)

end Go.Proofs.YtdbleddcnknmiaaGreatDoor

namespace Go.Proofs.YtdbleddcnknmiaaGreatDoor
open Go.ChangeShapes Go.WideShapes Go.ChangeAt Go.RowKit

end Go.Proofs.YtdbleddcnknmiaaGreatDoor

namespace Go.Proofs.YtdbleddcnknmiaaGreatDoor
open Go.RowKit

def inH (n : Int) : Bool := inB n 0 23

def inF (n : Int) : Bool := inB n 0 255

set_option maxHeartbeats 400000 in
theorem isHour_any (n : Int) (w : World) :
    Calls Tryz.prog 42 #[.int .i64 n] w fun e w' => e = .returned (.bool (inH n)) ∧ w = w' := by
  have e : inH n = (decide (0 ≤ n) && decide (n < 24)) := by
    unfold inH inB
    congr 1
    rw [Bool.eq_iff_iff, decide_eq_true_iff, decide_eq_true_iff]; omega
  rw [e]
  clear e
  by_cases h1 : 0 ≤ n
  · have h1' : decide (0 ≤ n) = true := decide_eq_true h1
    go_enter Tryz.func42, Tryz.ntmps42
    go_wp2
    go_ret
    rw [h1', Bool.true_and]
    exact ⟨rfl, rfl⟩
  · have h1' : decide (0 ≤ n) = false := decide_eq_false h1
    go_enter Tryz.func42, Tryz.ntmps42
    go_wp2
    go_ret
    exact ⟨rfl, rfl⟩

set_option maxHeartbeats 400000 in
theorem isFacing_any (n : Int) (w : World) :
    Calls Tryz.prog 29 #[.int .i64 n] w fun e w' => e = .returned (.bool (inF n)) ∧ w = w' := by
  have e : inF n = (decide (0 ≤ n) && decide (n < 256)) := by
    unfold inF inB
    congr 1
    rw [Bool.eq_iff_iff, decide_eq_true_iff, decide_eq_true_iff]; omega
  rw [e]
  clear e
  by_cases h1 : 0 ≤ n
  · have h1' : decide (0 ≤ n) = true := decide_eq_true h1
    go_enter Tryz.func29, Tryz.ntmps29
    go_wp2
    go_ret
    rw [h1', Bool.true_and]
    exact ⟨rfl, rfl⟩
  · have h1' : decide (0 ≤ n) = false := decide_eq_false h1
    go_enter Tryz.func29, Tryz.ntmps29
    go_wp2
    go_ret
    exact ⟨rfl, rfl⟩

/-- The code of a sun, and of what is asked of numbers. -/
def codeB (ok fine : Bool) : Int := if ok then (if fine then 0 else 2) else 1

set_option maxRecDepth 100000 in
set_option maxHeartbeats 1000000 in
theorem checkSun_any (hs ts : List Int) (hh : hs.length = 24) (ht : ts.length = 24) (fine : Bool) (w : World) :
    Calls Tryz.prog 79 #[.agg (sunC hs ts), .bool fine] w fun e w' => e = .returned (.int .i64 (codeB (okB hs ts) fine)) ∧ Below w.heap.size w w' := by
  have Hh := Lib.hid hh
  have Ht := Lib.hid ht
  clear hh ht
  generalize hok : okB hs ts = ok
  have Hok := Lib.hid hok
  clear hok
  cases ok <;> cases fine
  all_goals
    go_enter Tryz.func79, Tryz.ntmps79
    go_upto_region 1 with (fail)
    refine abs_code (fun W => Below w.heap.size w W ∧ W.heap[w.heap.size]? = some (.cells (sunC hs ts) 35 (0, 0))) ⟨(Below.refl _ _).alloc (Nat.le_refl _) _, heap_alloc_new _ _⟩ ?_
    rintro W ⟨hb, h0⟩
    have H0 := Lib.hid h0
    clear h0
    go_wp2_with (first | (refine wpList_load_part rfl 35 _ rfl w.heap.size 0 48 rfl 35 (sunC hs ts) (0, 0) _ H0.out Tryz.underlying35 rfl info_sun (sun_fits _ _ Hh.out Ht.out) (sunC hs ts) (sun_all _ _ Hh.out Ht.out) ?_) | (go_at_call 92; refine (ValidSun_any hs ts Hh.out Ht.out _).mono ?_; rw [Hok.out]; rintro e W1 ⟨rfl, hb1⟩; replace H0 := Lib.hid (below_row hb1 H0.out); replace hb := hb.trans (hb1.mono hb.size); clear hb1))
    go_ret
    exact ⟨rfl, hb⟩

/-- The height at an hour; the turn at an hour. -/
def atH (xs : List Int) (hour : Int) : Int := xs[hour.toNat]?.getD 0

set_option maxRecDepth 100000 in
set_option maxHeartbeats 400000 in
theorem upAt_any (hs ts : List Int) (hh : hs.length = 24) (hour : Int) (h0 : 0 ≤ hour) (h1 : hour < 24) (w : World) :
    Calls Tryz.prog 85 #[.agg (sunC hs ts), .int .i64 hour] w fun e w' => e = .returned (.bool (decide (0 < atH hs hour))) ∧ Below w.heap.size w w' := by
  obtain ⟨k, rfl⟩ := Int.eq_ofNat_of_zero_le h0
  have hk : k < 24 := by omega
  have hc := cell_sun_h (heap_alloc_new w (.cells (sunC hs ts) 35)) hh k hk
  have ea : atH hs (k : Int) = hs[k]?.getD 0 := by unfold atH; rw [Int.toNat_natCast]
  rw [ea]
  generalize hs[k]?.getD 0 = x at *
  clear ea hh
  go_enter Tryz.func85, Tryz.ntmps85
  go_wp2
  go_ret
  exact ⟨rfl, (Below.refl _ _).alloc (Nat.le_refl _) _⟩

end Go.Proofs.YtdbleddcnknmiaaGreatDoor

namespace Go.Proofs.YtdbleddcnknmiaaGreatDoor
open Go.ChangeShapes Go.WideShapes Go.ChangeAt Go.RowKit

theorem isHour_is (n : Int) (b : Bool) (h : inH n = b) (w : World) : Calls Tryz.prog 42 #[.int .i64 n] w fun e w' => e = .returned (.bool b) ∧ w = w' := by
  subst h; exact isHour_any n w

theorem l01Hour_is (n : Int) (b : Bool) (h : inH n = b) (w : World) : Calls Tryz.prog 39 #[.int .i64 n] w fun e w' => e = .returned (.bool b) ∧ w = w' := by
  subst h; exact l01Hour_any n w

theorem checkSun_is (hs ts : List Int) (hh : hs.length = 24) (ht : ts.length = 24) (fine : Bool) (c : Int) (h : codeB (okB hs ts) fine = c) (w : World) :
    Calls Tryz.prog 79 #[.agg (sunC hs ts), .bool fine] w fun e w' => e = .returned (.int .i64 c) ∧ Below w.heap.size w w' := by
  subst h; exact checkSun_any hs ts hh ht fine w



theorem inH_bd {n : Int} (h : inH n = true) : 0 ≤ n ∧ n < 24 := by
  have := inB_true h; omega

theorem codeB_ne {ok fine : Bool} (h : ¬ (ok = true ∧ fine = true)) : codeB ok fine ≠ 0 := by
  cases ok <;> cases fine <;> simp_all [codeB]

/-- What is asked of a sun and of other arguments is all right, or the code tells what is not. -/
def upV (hs ts : List Int) (hour : Int) : Bool := okB hs ts && inH hour && decide (0 < atH hs hour)

end Go.Proofs.YtdbleddcnknmiaaGreatDoor

namespace Go.Proofs.YtdbleddcnknmiaaGreatDoor
open Go.RowKit

theorem qfacts (a : Int) (h0 : 0 ≤ a) (h1 : a ≤ 64) :
    floatBits .quo .f32 (floatOfInt .f32 a) 1115684864 = some (qx a) ∧ floatBits .mul .f32 (qx a) (qx a) = some (qy a)
    ∧ floatBits .mul .f32 (qy a) 1033109504 = some (qyk a) ∧ floatBits .sub .f32 1059356672 (qyk a) = some (qp a)
    ∧ floatBits .mul .f32 (qy a) (qp a) = some (qyp a) ∧ floatBits .sub .f32 1070137344 (qyp a) = some (qq a)
    ∧ floatBits .mul .f32 (qx a) (qq a) = some (qs a) ∧ floatBits .sub .f32 0 (qs a) = some (qn a) := by
  have h := qOk_all a h0 h1
  simpa [qOk, Bool.and_eq_true, and_assoc] using h

set_option maxHeartbeats 400000 in
theorem firstSine_any (a : Int) (h0 : 0 ≤ a) (h1 : a ≤ 64) (w : World) :
    Calls Tryz.prog 106 #[.int .i16 a] w fun e w' => e = .returned (.float .f32 (qs a)) ∧ w = w' := by
  obtain ⟨e1, e2, e3, e4, e5, e6, e7, _⟩ := qfacts a h0 h1
  have r1 : ∀ t w, (binOp .quo t (.float .f32 (floatOfInt .f32 a)) (.float .f32 1115684864)).run Tryz.prog w = .ok (.float .f32 (qx a)) w := fun t w => run_float_arith w .quo t .f32 _ _ _ e1
  have r2 : ∀ t w, (binOp .mul t (.float .f32 (qx a)) (.float .f32 (qx a))).run Tryz.prog w = .ok (.float .f32 (qy a)) w := fun t w => run_float_arith w .mul t .f32 _ _ _ e2
  have r3 : ∀ t w, (binOp .mul t (.float .f32 (qy a)) (.float .f32 1033109504)).run Tryz.prog w = .ok (.float .f32 (qyk a)) w := fun t w => run_float_arith w .mul t .f32 _ _ _ e3
  have r4 : ∀ t w, (binOp .sub t (.float .f32 1059356672) (.float .f32 (qyk a))).run Tryz.prog w = .ok (.float .f32 (qp a)) w := fun t w => run_float_arith w .sub t .f32 _ _ _ e4
  have r5 : ∀ t w, (binOp .mul t (.float .f32 (qy a)) (.float .f32 (qp a))).run Tryz.prog w = .ok (.float .f32 (qyp a)) w := fun t w => run_float_arith w .mul t .f32 _ _ _ e5
  have r6 : ∀ t w, (binOp .sub t (.float .f32 1070137344) (.float .f32 (qyp a))).run Tryz.prog w = .ok (.float .f32 (qq a)) w := fun t w => run_float_arith w .sub t .f32 _ _ _ e6
  have r7 : ∀ t w, (binOp .mul t (.float .f32 (qx a)) (.float .f32 (qq a))).run Tryz.prog w = .ok (.float .f32 (qs a)) w := fun t w => run_float_arith w .mul t .f32 _ _ _ e7
  clear e1 e2 e3 e4 e5 e6 e7
  go_enter Tryz.func106, Tryz.ntmps106
  go_wp2_with (simp only [r1, r2, r3, r4, r5, r6, r7])
  go_ret
  exact ⟨rfl, rfl⟩


set_option maxHeartbeats 400000 in
theorem secondSine_any (a : Int) (h0 : 64 ≤ a) (h1 : a ≤ 128) (w : World) :
    Calls Tryz.prog 107 #[.int .i16 a] w fun e w' => e = .returned (.float .f32 (qs (128 - a))) ∧ w = w' := by
  go_enter Tryz.func107, Tryz.ntmps107
  go_wp2_with (go_at_call 106; refine (firstSine_any _ (by omega) (by omega) _).mono ?_; rintro e w' ⟨rfl, rfl⟩)
  go_ret
  exact ⟨rfl, rfl⟩

set_option maxHeartbeats 400000 in
theorem thirdSine_any (a : Int) (h0 : 128 ≤ a) (h1 : a ≤ 192) (w : World) :
    Calls Tryz.prog 108 #[.int .i16 a] w fun e w' => e = .returned (.float .f32 (qn (a - 128))) ∧ w = w' := by
  obtain ⟨_, _, _, _, _, _, _, e8⟩ := qfacts (a - 128) (by omega) (by omega)
  have r8 : ∀ t w, (binOp .sub t (.float .f32 0) (.float .f32 (qs (a - 128)))).run Tryz.prog w = .ok (.float .f32 (qn (a - 128))) w := fun t w => run_float_arith w .sub t .f32 _ _ _ e8
  clear e8
  go_enter Tryz.func108, Tryz.ntmps108
  go_wp2_with (go_at_call 106; refine (firstSine_any _ (by omega) (by omega) _).mono ?_; rintro e w' ⟨rfl, rfl⟩)
  go_ret
  exact ⟨rfl, rfl⟩

set_option maxHeartbeats 400000 in
theorem fourthSine_any (a : Int) (h0 : 192 ≤ a) (h1 : a ≤ 255) (w : World) :
    Calls Tryz.prog 109 #[.int .i16 a] w fun e w' => e = .returned (.float .f32 (qn (256 - a))) ∧ w = w' := by
  obtain ⟨_, _, _, _, _, _, _, e8⟩ := qfacts (256 - a) (by omega) (by omega)
  have r8 : ∀ t w, (binOp .sub t (.float .f32 0) (.float .f32 (qs (256 - a)))).run Tryz.prog w = .ok (.float .f32 (qn (256 - a))) w := fun t w => run_float_arith w .sub t .f32 _ _ _ e8
  clear e8
  go_enter Tryz.func109, Tryz.ntmps109
  go_wp2_with (go_at_call 106; refine (firstSine_any _ (by omega) (by omega) _).mono ?_; rintro e w' ⟨rfl, rfl⟩)
  go_ret
  exact ⟨rfl, rfl⟩

theorem ret_int {k : IntKind} {a b : Int} (h : a = b) : Ending.returned (.int k a) = .returned (.int k b) := by rw [h]
theorem ret_f32 {a b : Nat} (h : a = b) : Ending.returned (.float .f32 a) = .returned (.float .f32 b) := by rw [h]

theorem tmod_ang (a : Int) : a.tmod 256 % 256 = angB a := by
  unfold angB
  have h3 : a = 256 * a.tdiv 256 + a.tmod 256 := (Int.mul_tdiv_add_tmod a 256).symm
  omega
theorem tmod_ang2 (a : Int) : (a.tmod 256 + 256) % 256 = angB a := by
  have h := tmod_ang a
  omega

theorem tmod_bd (a : Int) : -256 < a.tmod 256 ∧ a.tmod 256 < 256 :=
  ⟨Int.lt_tmod_of_pos a (b := 256) (by decide), Int.tmod_lt_of_pos a (b := 256) (by decide)⟩

set_option maxHeartbeats 400000 in
theorem angleOf_any (a : Int) (w : World) :
    Calls Tryz.prog 98 #[.int .i64 a] w fun e w' => e = .returned (.int .i16 (angB a)) ∧ w = w' := by
  obtain ⟨h1, h2⟩ := tmod_bd a
  have h3 := angB_lo a
  have h4 := angB_hi a
  go_enter Tryz.func98, Tryz.ntmps98
  go_wp2
  go_ret
  exact ⟨ret_int (tmod_ang a), rfl⟩

set_option maxHeartbeats 400000 in
theorem l01Angle_any (a : Int) (w : World) :
    Calls Tryz.prog 95 #[.int .i64 a] w fun e w' => e = .returned (.int .i64 (angB a)) ∧ w = w' := by
  obtain ⟨h1, h2⟩ := tmod_bd a
  go_enter Tryz.func95, Tryz.ntmps95
  go_wp2
  go_ret
  exact ⟨ret_int (tmod_ang2 a), rfl⟩

theorem i16_in (n : Int) (h0 : -32768 ≤ n) (h1 : n ≤ 32767) : IntKind.i16.wrap n = n := by
  simp [IntKind.wrap, IntKind.signed, IntKind.bits]
  omega
theorem quart (a k : Int) (h0 : 0 ≤ k) (h3 : k ≤ 3) (hl : 64 * k ≤ a) (hh : a < 64 * k + 64) : IntKind.i16.wrap (a.tdiv 64) = k := by
  have h : a.tdiv 64 = k := by
    rw [Int.tdiv_eq_ediv_of_nonneg (by omega)]; omega
  rw [h]; exact i16_in k (by omega) (by omega)

set_option maxHeartbeats 400000 in
theorem sine_q1 (a : Int) (h0 : 0 ≤ a) (h1 : a < 64) (w : World) :
    Calls Tryz.prog 105 #[.int .i16 a] w fun e w' => e = .returned (.float .f32 (qs a)) ∧ Below w.heap.size w w' := by
  have hq := quart a 0 (by omega) (by omega) (by omega) (by omega)
  go_enter Tryz.func105, Tryz.ntmps105
  go_wp2_with (go_at_call 106; refine (firstSine_any _ (by omega) (by omega) _).mono ?_; rintro e w' ⟨rfl, rfl⟩)
  go_ret
  exact ⟨rfl, (Below.refl _ _).alloc (Nat.le_refl _) _⟩

set_option maxHeartbeats 400000 in
theorem sine_q2 (a : Int) (h0 : 64 ≤ a) (h1 : a < 128) (w : World) :
    Calls Tryz.prog 105 #[.int .i16 a] w fun e w' => e = .returned (.float .f32 (qs (128 - a))) ∧ Below w.heap.size w w' := by
  have hq := quart a 1 (by omega) (by omega) (by omega) (by omega)
  go_enter Tryz.func105, Tryz.ntmps105
  go_wp2_with (go_at_call 107; refine (secondSine_any _ (by omega) (by omega) _).mono ?_; rintro e w' ⟨rfl, rfl⟩)
  go_ret
  exact ⟨rfl, (Below.refl _ _).alloc (Nat.le_refl _) _⟩

set_option maxHeartbeats 400000 in
theorem sine_q3 (a : Int) (h0 : 128 ≤ a) (h1 : a < 192) (w : World) :
    Calls Tryz.prog 105 #[.int .i16 a] w fun e w' => e = .returned (.float .f32 (qn (a - 128))) ∧ Below w.heap.size w w' := by
  have hq := quart a 2 (by omega) (by omega) (by omega) (by omega)
  go_enter Tryz.func105, Tryz.ntmps105
  go_wp2_with (go_at_call 108; refine (thirdSine_any _ (by omega) (by omega) _).mono ?_; rintro e w' ⟨rfl, rfl⟩)
  go_ret
  exact ⟨rfl, (Below.refl _ _).alloc (Nat.le_refl _) _⟩

set_option maxHeartbeats 400000 in
theorem sine_q4 (a : Int) (h0 : 192 ≤ a) (h1 : a < 256) (w : World) :
    Calls Tryz.prog 105 #[.int .i16 a] w fun e w' => e = .returned (.float .f32 (qn (256 - a))) ∧ Below w.heap.size w w' := by
  have hq := quart a 3 (by omega) (by omega) (by omega) (by omega)
  go_enter Tryz.func105, Tryz.ntmps105
  go_wp2_with (go_at_call 109; refine (fourthSine_any _ (by omega) (by omega) _).mono ?_; rintro e w' ⟨rfl, rfl⟩)
  go_ret
  exact ⟨rfl, (Below.refl _ _).alloc (Nat.le_refl _) _⟩


theorem qn_0 : qn 0 = qs 0 := by decide +kernel

theorem sine_any (a : Int) (h0 : 0 ≤ a) (h1 : a ≤ 255) (w : World) :
    Calls Tryz.prog 105 #[.int .i16 a] w fun e w' => e = .returned (.float .f32 (sineB a)) ∧ Below w.heap.size w w' := by
  have key : ∀ x, sineB a = x → (Calls Tryz.prog 105 #[.int .i16 a] w fun e w' => e = .returned (.float .f32 x) ∧ Below w.heap.size w w') → Calls Tryz.prog 105 #[.int .i16 a] w fun e w' => e = .returned (.float .f32 (sineB a)) ∧ Below w.heap.size w w' := by
    intro x hx h
    rw [hx]; exact h
  by_cases c1 : a < 64
  · exact key _ (by unfold sineB; rw [if_pos (by omega)]) (sine_q1 a h0 c1 w)
  by_cases c2 : a < 128
  · refine key _ ?_ (sine_q2 a (by omega) c2 w)
    unfold sineB
    by_cases e : a = 64
    · subst e; rfl
    · rw [if_neg (by omega), if_pos (by omega)]
  by_cases c3 : a < 192
  · refine key _ ?_ (sine_q3 a (by omega) c3 w)
    unfold sineB
    by_cases e : a = 128
    · subst e; rw [if_neg (by omega), if_pos (by omega)]; exact qn_0.symm
    · rw [if_neg (by omega), if_neg (by omega), if_pos (by omega)]
  · refine key _ ?_ (sine_q4 a (by omega) (by omega) w)
    unfold sineB
    by_cases e : a = 192
    · subst e; rfl
    · rw [if_neg (by omega), if_neg (by omega), if_neg (by omega)]

set_option maxHeartbeats 400000 in
theorem cosine_any (a : Int) (h0 : -32768 ≤ a) (h1 : a ≤ 32767) (w : World) :
    Calls Tryz.prog 99 #[.int .i16 a] w fun e w' => e = .returned (.float .f32 (cosB a)) ∧ Below w.heap.size w w' := by
  have hl := angB_lo (a + 64)
  have hh := angB_hi (a + 64)
  go_enter Tryz.func99, Tryz.ntmps99
  go_wp2_with (first | (go_at_call 98; refine (angleOf_any _ _).mono ?_; rintro e w' ⟨rfl, rfl⟩) | (go_at_call 105; refine (sine_any _ (by omega) (by omega) _).mono ?_; rintro e w1 ⟨rfl, hb⟩))
  go_ret
  exact ⟨rfl, hb⟩

set_option maxHeartbeats 400000 in
theorem SineOf_any (a : Int) (w : World) :
    Calls Tryz.prog 102 #[.int .i64 a] w fun e w' => e = .returned (.float .f32 (sineB (angB a))) ∧ Below w.heap.size w w' := by
  have hl := angB_lo a
  have hh := angB_hi a
  go_enter Tryz.func102, Tryz.ntmps102
  go_wp2_with (first | (go_at_call 98; refine (angleOf_any _ _).mono ?_; rintro e w' ⟨rfl, rfl⟩) | (go_at_call 105; refine (sine_any _ (by omega) (by omega) _).mono ?_; rintro e w1 ⟨rfl, hb⟩))
  go_ret
  exact ⟨rfl, hb⟩

theorem cosB_ang (a : Int) : cosB (angB a) = cosB a := by
  unfold cosB angB
  congr 1
  omega

set_option maxHeartbeats 400000 in
theorem CosineOf_any (a : Int) (w : World) :
    Calls Tryz.prog 100 #[.int .i64 a] w fun e w' => e = .returned (.float .f32 (cosB a)) ∧ Below w.heap.size w w' := by
  have hl := angB_lo a
  have hh := angB_hi a
  have H := Lib.hid (cosB_ang a)
  go_enter Tryz.func100, Tryz.ntmps100
  go_wp2_with (first | (go_at_call 98; refine (angleOf_any _ _).mono ?_; rintro e w' ⟨rfl, rfl⟩) | (go_at_call 99; refine (cosine_any _ (by omega) (by omega) _).mono ?_; rintro e w1 ⟨rfl, hb⟩))
  go_ret
  exact ⟨ret_f32 H.out, hb⟩

/-! ### The model's functions -/
set_option maxHeartbeats 400000 in
theorem l01Quarter_any (a : Int) (h0 : 0 ≤ a) (h1 : a ≤ 64) (w : World) :
    Calls Tryz.prog 104 #[.int .i64 a] w fun e w' => e = .returned (.float .f32 (qs a)) ∧ w = w' := by
  obtain ⟨e1, e2, e3, e4, e5, e6, e7, _⟩ := qfacts a h0 h1
  have r1 : ∀ t w, (binOp .quo t (.float .f32 (floatOfInt .f32 a)) (.float .f32 1115684864)).run Tryz.prog w = .ok (.float .f32 (qx a)) w := fun t w => run_float_arith w .quo t .f32 _ _ _ e1
  have r2 : ∀ t w, (binOp .mul t (.float .f32 (qx a)) (.float .f32 (qx a))).run Tryz.prog w = .ok (.float .f32 (qy a)) w := fun t w => run_float_arith w .mul t .f32 _ _ _ e2
  have r3 : ∀ t w, (binOp .mul t (.float .f32 (qy a)) (.float .f32 1033109504)).run Tryz.prog w = .ok (.float .f32 (qyk a)) w := fun t w => run_float_arith w .mul t .f32 _ _ _ e3
  have r4 : ∀ t w, (binOp .sub t (.float .f32 1059356672) (.float .f32 (qyk a))).run Tryz.prog w = .ok (.float .f32 (qp a)) w := fun t w => run_float_arith w .sub t .f32 _ _ _ e4
  have r5 : ∀ t w, (binOp .mul t (.float .f32 (qy a)) (.float .f32 (qp a))).run Tryz.prog w = .ok (.float .f32 (qyp a)) w := fun t w => run_float_arith w .mul t .f32 _ _ _ e5
  have r6 : ∀ t w, (binOp .sub t (.float .f32 1070137344) (.float .f32 (qyp a))).run Tryz.prog w = .ok (.float .f32 (qq a)) w := fun t w => run_float_arith w .sub t .f32 _ _ _ e6
  have r7 : ∀ t w, (binOp .mul t (.float .f32 (qx a)) (.float .f32 (qq a))).run Tryz.prog w = .ok (.float .f32 (qs a)) w := fun t w => run_float_arith w .mul t .f32 _ _ _ e7
  clear e1 e2 e3 e4 e5 e6 e7
  go_enter Tryz.func104, Tryz.ntmps104
  go_wp2
  go_ret
  exact ⟨rfl, rfl⟩

set_option maxHeartbeats 400000 in
theorem l01Sine_any (a : Int) (w : World) :
    Calls Tryz.prog 94 #[.int .i64 a] w fun e w' => e = .returned (.float .f32 (sineB (angB a))) ∧ w = w' := by
  have hl := angB_lo a
  have hh := angB_hi a
  have hs : ∀ x, (∀ t w, (binOp .sub t (.float .f32 0) (.float .f32 (qs x))).run Tryz.prog w = .ok (.float .f32 (qn x)) w) ∨ ¬ (0 ≤ x ∧ x ≤ 64) := by
    intro x
    by_cases h : 0 ≤ x ∧ x ≤ 64
    · obtain ⟨_, _, _, _, _, _, _, e8⟩ := qfacts x h.1 h.2
      exact .inl fun t w => run_float_arith w .sub t .f32 _ _ _ e8
    · exact .inr h
  generalize hn : angB a = n at *
  have H := Lib.hid hn
  clear hn
  unfold sineB
  by_cases c1 : n ≤ 64
  · rw [if_pos c1]
    clear hs
    go_enter Tryz.func94, Tryz.ntmps94
    go_wp2_with (first | (go_at_call 95; refine (l01Angle_any _ _).mono ?_; rintro e w' ⟨rfl, rfl⟩; rw [H.out]) | (go_at_call 104; refine (l01Quarter_any _ (by omega) (by omega) _).mono ?_; rintro e w1 ⟨rfl, rfl⟩))
    go_ret
    exact ⟨rfl, rfl⟩
  rw [if_neg c1]
  by_cases c2 : n ≤ 128
  · rw [if_pos c2]
    clear hs
    go_enter Tryz.func94, Tryz.ntmps94
    go_wp2_with (first | (go_at_call 95; refine (l01Angle_any _ _).mono ?_; rintro e w' ⟨rfl, rfl⟩; rw [H.out]) | (go_at_call 104; refine (l01Quarter_any _ (by omega) (by omega) _).mono ?_; rintro e w1 ⟨rfl, rfl⟩))
    go_ret
    exact ⟨rfl, rfl⟩
  rw [if_neg c2]
  by_cases c3 : n ≤ 192
  · rw [if_pos c3]
    have r := (hs (n - 128)).resolve_right (by omega)
    clear hs
    go_enter Tryz.func94, Tryz.ntmps94
    go_wp2_with (first | (go_at_call 95; refine (l01Angle_any _ _).mono ?_; rintro e w' ⟨rfl, rfl⟩; rw [H.out]) | (go_at_call 104; refine (l01Quarter_any _ (by omega) (by omega) _).mono ?_; rintro e w1 ⟨rfl, rfl⟩))
    go_ret
    exact ⟨rfl, rfl⟩
  · rw [if_neg c3]
    have r := (hs (256 - n)).resolve_right (by omega)
    clear hs
    go_enter Tryz.func94, Tryz.ntmps94
    go_wp2_with (first | (go_at_call 95; refine (l01Angle_any _ _).mono ?_; rintro e w' ⟨rfl, rfl⟩; rw [H.out]) | (go_at_call 104; refine (l01Quarter_any _ (by omega) (by omega) _).mono ?_; rintro e w1 ⟨rfl, rfl⟩))
    go_ret
    exact ⟨rfl, rfl⟩

theorem cos_ang2 (a : Int) : angB (angB a + 64) = angB (a + 64) := by unfold angB; omega

set_option maxHeartbeats 400000 in
theorem l01Cosine_any (a : Int) (w : World) :
    Calls Tryz.prog 81 #[.int .i64 a] w fun e w' => e = .returned (.float .f32 (cosB a)) ∧ w = w' := by
  have hl := angB_lo a
  have hh := angB_hi a
  have H := Lib.hid (cos_ang2 a)
  go_enter Tryz.func81, Tryz.ntmps81
  go_wp2_with (first | (go_at_call 95; refine (l01Angle_any _ _).mono ?_; rintro e w' ⟨rfl, rfl⟩) | (go_at_call 94; refine (l01Sine_any _ _).mono ?_; rintro e w1 ⟨rfl, rfl⟩))
  go_ret
  exact ⟨ret_f32 (by unfold cosB; rw [H.out]), rfl⟩

end Go.Proofs.YtdbleddcnknmiaaGreatDoor

namespace Go.Proofs.YtdbleddcnknmiaaGreatDoor
open Go.RowKit

theorem div_zero_pos : floatBits .quo .f64 4607182418800017408 0 = some 9218868437227405312 := by decide +kernel

theorem div_zero_neg : floatBits .quo .f64 4607182418800017408 9223372036854775808 = some 18442240474082181120 := by decide +kernel

set_option maxHeartbeats 400000 in
theorem same_zero_pos (w : World) :
    Calls Tryz.prog 33 #[.float .f64 0, .float .f64 0] w fun e w' => e = .returned (.bool true) ∧ w = w' := by
  have r : ∀ t w, (binOp .quo t (.float .f64 4607182418800017408) (.float .f64 0)).run Tryz.prog w = .ok (.float .f64 9218868437227405312) w := fun t w => run_float_arith w .quo t .f64 _ _ _ div_zero_pos
  have o1 : FloatKind.f64.format.order 0 0 = some .eq := by decide +kernel
  have o2 : FloatKind.f64.format.order 9218868437227405312 0 = some .gt := by decide +kernel
  go_enter Tryz.func33, Tryz.ntmps33
  go_wp2
  go_ret
  exact ⟨rfl, rfl⟩

set_option maxHeartbeats 400000 in
theorem same_zero_neg (w : World) :
    Calls Tryz.prog 33 #[.float .f64 9223372036854775808, .float .f64 9223372036854775808] w fun e w' => e = .returned (.bool true) ∧ w = w' := by
  have r : ∀ t w, (binOp .quo t (.float .f64 4607182418800017408) (.float .f64 9223372036854775808)).run Tryz.prog w = .ok (.float .f64 18442240474082181120) w := fun t w => run_float_arith w .quo t .f64 _ _ _ div_zero_neg
  have o1 : FloatKind.f64.format.order 9223372036854775808 0 = some .eq := by decide +kernel
  have o3 : FloatKind.f64.format.order 9223372036854775808 9223372036854775808 = some .eq := by decide +kernel
  have o2 : FloatKind.f64.format.order 18442240474082181120 0 = some .lt := by decide +kernel
  go_enter Tryz.func33, Tryz.ntmps33
  go_wp2
  go_ret
  exact ⟨rfl, rfl⟩

set_option maxHeartbeats 400000 in
theorem same_else (r : Nat) (hr : FloatKind.f64.format.order r r = some .eq) (h0 : (FloatKind.f64.format.order r 0 == some .eq) = false) (w : World) :
    Calls Tryz.prog 33 #[.float .f64 r, .float .f64 r] w fun e w' => e = .returned (.bool true) ∧ w = w' := by
  go_enter Tryz.func33, Tryz.ntmps33
  go_wp2
  go_ret
  exact ⟨rfl, rfl⟩

theorem same_fin (r : Nat) (hlt : r < 18446744073709551616) (hr : FloatKind.f64.format.order r r = some .eq) (w : World) :
    Calls Tryz.prog 33 #[.float .f64 r, .float .f64 r] w fun e w' => e = .returned (.bool true) ∧ w = w' := by
  by_cases h0 : FloatKind.f64.format.order r 0 = some .eq
  · rcases zero_of_order r hlt h0 with rfl | rfl
    · exact same_zero_pos w
    · exact same_zero_neg w
  · exact same_else r hr (beq_eq_false_iff_ne.2 h0) w

theorem same_wide (x : Nat) (h : fin32 x = true) (w : World) :
    Calls Tryz.prog 33 #[.float .f64 (wide x), .float .f64 (wide x)] w fun e w' => e = .returned (.bool true) ∧ w = w' := by
  obtain ⟨_, h1, h2⟩ := wide_ok x h
  exact same_fin _ h1 h2 w

theorem run_wide (x : Nat) (h : fin32 x = true) (w : World) : (convert 23 73 (.float .f32 x)).run Tryz.prog w = .ok (.float .f64 (wide x)) w :=
  run_convert_float_float w 23 73 .f32 .f64 x _ (by rw [Tryz.underlying23]; rfl) Tryz.underlying73 (wide_ok x h).1

theorem bcell {W w1 : World} (hb : Below W.heap.size W w1) : (∀ b o, b < W.heap.size → w1.cell? ⟨b, o, none⟩ = W.cell? ⟨b, o, none⟩) ∧ (∀ b o, b < W.heap.size → w1.frozen? ⟨b, o, none⟩ = W.frozen? ⟨b, o, none⟩) :=
  ⟨fun b o h => hb.cell (p := ⟨b, o, none⟩) h, fun b o h => hb.frozen (p := ⟨b, o, none⟩) h⟩

end Go.Proofs.YtdbleddcnknmiaaGreatDoor

namespace Go.Proofs.YtdbleddcnknmiaaGreatDoor
open Go.ChangeShapes Go.WideShapes Go.ChangeAt Go.RowKit

theorem okB_h {hs ts : List Int} (hh : hs.length = 24) (ht : ts.length = 24) (h : okB hs ts = true) (hour : Int) (h0 : 0 ≤ hour) (h1 : hour < 24) : -64 ≤ atH hs hour ∧ atH hs hour ≤ 64 :=
  inB_true ((okB_iff hs ts hh ht).1 h hour.toNat (by omega)).1

theorem okB_t {hs ts : List Int} (hh : hs.length = 24) (ht : ts.length = 24) (h : okB hs ts = true) (hour : Int) (h0 : 0 ≤ hour) (h1 : hour < 24) : 0 ≤ atH ts hour ∧ atH ts hour ≤ 255 :=
  inB_true ((okB_iff hs ts hh ht).1 h hour.toNat (by omega)).2

end Go.Proofs.YtdbleddcnknmiaaGreatDoor
