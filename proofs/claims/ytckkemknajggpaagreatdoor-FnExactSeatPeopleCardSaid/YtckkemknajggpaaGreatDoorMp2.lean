/-
  EtA, Round, RoundL, Sun, Hours, Eq, Held, EtB, EtC, EtD, EtH, LtA, LtB, GbP, SbP, RwA, RwC, RwD, ListLaw, SbM, SbQ, GbS.
-/
import Derived.RangeFuncNested
import Derived.RangeFuncBound
import Derived.RangeFuncCalls
import Derived.RangeFuncLeaves
import Derived.RangeFuncFrom
import Derived.RangeFuncWrites
import Derived.Shelf.Abstract
import Derived.Shelf.RegionOpen
import Derived.OwnWalkIn
import Derived.TacticsInMore
import Derived.LoopNIn
import Derived.LoopIn
import Derived.Sort.AtCallIn
import Derived.RangeFuncBox
import Derived.Test.YtckkemknajggpaaGreatDoorRoomP
import Derived.Test.YtckkemknajggpaaGreatDoorTileA
import Derived.Test.YtckkemknajggpaaGreatDoorMp1
import Derived.Deep.RegionHeld3
import Derived.OrdersIn
import Derived.StillTail
import Derived.StillTailTactics
import Derived.Test.YtckkemknajggpaaGreatDoorRow
import Derived.Test.YtckkemknajggpaaGreatDoorRows
import Derived.WalkKit
import Derived.WalkSpells
import Derived.WalkLawsBesides
import Derived.Lib.Hide
import Derived.Deep.Cut
import Derived.Deep.DeepCutAuto
import Derived.Laws.StructEq
import Derived.Test.YtckkemknajggpaaGreatDoorLightA
import Derived.Maps.AppendAt
import Derived.OwnWalk
import Derived.Test.YtckkemknajggpaaGreatDoorRoomV
import Derived.Test.YtckkemknajggpaaGreatDoorRoomS
import Derived.Test.YtckkemknajggpaaGreatDoorLightS
import Derived.Great.BuildSlice
import Derived.Test.YtckkemknajggpaaGreatDoorSameN
import Derived.Test.YtckkemknajggpaaGreatDoorGlareA
import Derived.Test.YtckkemknajggpaaGreatDoorRoomW
import Derived.Test.YtckkemknajggpaaGreatDoorSuit
import Derived.Test.YtckkemknajggpaaGreatDoorBox
import Derived.Test.YtckkemknajggpaaGreatDoorRoomK
import Derived.Test.YtckkemknajggpaaGreatDoorRoomL
import Derived.Test.YtckkemknajggpaaGreatDoorPlace
import Derived.Laws.AppendOwn
import Derived.Test.YtckkemknajggpaaGreatDoorSgn
import Derived.Test.YtckkemknajggpaaGreatDoorGlareS

namespace Go.Proofs.YtckkemknajggpaaGreatDoor
open Go.RowKit Go.Shelf

attribute [local go_sem] Oper.semAt_some

/-- A tile of a room. -/
abbrev Tt (W H : Nat) := { t : Int × Int // inRoom (W : Int) (H : Int) t }

def tk (W H : Nat) (hW : 0 < W) (hH : 0 < H) (k : Nat) : Tt W H := ⟨(((k % W : Nat) : Int), ((k / W % H : Nat) : Int)), by
  have h1 := Nat.mod_lt k hW
  have h2 := Nat.mod_lt (k / W) hH
  exact ⟨by show (0 : Int) ≤ ((k % W : Nat) : Int); omega, by show ((k % W : Nat) : Int) < (W : Int); omega, by show (0 : Int) ≤ ((k / W % H : Nat) : Int); omega, by show ((k / W % H : Nat) : Int) < (H : Int); omega⟩⟩

def tks (W H : Nat) (hW : 0 < W) (hH : 0 < H) (k : Nat) : List (Tt W H) := (List.range k).map (tk W H hW hH)

theorem tks_succ (W H : Nat) (hW : 0 < W) (hH : 0 < H) (k : Nat) : tks W H hW hH (k + 1) = tks W H hW hH k ++ [tk W H hW hH k] := by simp [tks, List.range_succ]
@[simp] theorem tks_length (W H : Nat) (hW : 0 < W) (hH : 0 < H) (k : Nat) : (tks W H hW hH k).length = k := by simp [tks]

theorem tk_at (W H : Nat) (hW : 0 < W) (hH : 0 < H) {x y : Nat} (hx : x < W) (hy : y < H) : (tk W H hW hH (y * W + x)).1 = ((x : Int), (y : Int)) := by
  have e1 : (y * W + x) % W = x := by rw [Nat.mul_comm, Nat.mul_add_mod]; exact Nat.mod_eq_of_lt hx
  have e2 : (y * W + x) / W = y := by rw [Nat.mul_comm, Nat.mul_add_div hW, Nat.div_eq_of_lt hx, Nat.add_zero]
  have e3 : y % H = y := Nat.mod_eq_of_lt hy
  simp [tk, e1, e2, e3]

/-- One block stays as it is. -/
def KeepsAt (g : Nat) (A B : World) : Prop := ∀ o, A.heap[g]? = some o → B.heap[g]? = some o

theorem keepsAt_t {g : Nat} {A B C : World} (h : KeepsAt g A B) (k : KeepsAt g B C) : KeepsAt g A C := fun o ho => k o (h o ho)

theorem keepsAt_b {g : Nat} {w : World} (hg : g < w.heap.size) (W : World) (l : Nat) (o o' : Obj) (hl : w.heap.size ≤ l) (_ : W.heap[l]? = some o) (_ : o.isCells = false) (_ : o.isWalk = false) : KeepsAt g W (W.putObj l o') := by
  intro x hx
  rw [World.putObj_heap_other (by omega)]; exact hx

theorem room_cell0 {V : World} {g : Nat} {wd hg : Int} {sv : Value} {T : TypeId} {fr : Nat × Nat} (h : V.heap[g]? = some (.cells (roomC wd hg sv) T fr)) : V.cell? ⟨g, 0, none⟩ = some (.int .i8 wd) := by rw [cell_of_row _ _ _ _ _ _ h]; rfl

theorem room_cell1 {V : World} {g : Nat} {wd hg : Int} {sv : Value} {T : TypeId} {fr : Nat × Nat} (h : V.heap[g]? = some (.cells (roomC wd hg sv) T fr)) : V.cell? ⟨g, 1, none⟩ = some (.int .i8 hg) := by rw [cell_of_row _ _ _ _ _ _ h]; rfl

theorem i8_small (n : Int) (h0 : -128 ≤ n) (h1 : n ≤ 127) : IntKind.i8.wrap n = n := by
  rw [IntWalk.i8_in _ (by omega)]

end Go.Proofs.YtckkemknajggpaaGreatDoor

namespace Go.Proofs.YtckkemknajggpaaGreatDoor
open Go Go.RowKit

section

variable {P : Program}

theorem op_round {l n : Nat} {o : Oper} {a : Act} {w : World} {K : Act → World → Prop} {Q : Exit → Act → World → Prop} (hd : ∀ c, o.op ≠ .defer c) (h : o.wp P a w K Q) :
    o.wpIn (Fence.wide.inRound l) n P a w K Q := by
  refine ⟨fun _ _ => trivial, ?_⟩
  rw [Oper.semAt_eq _ _ _ hd]
  unfold Oper.wp at h
  generalize (execOp a.eval o).run P w = r at *
  cases r with
  | ok x w' =>
    cases x <;> simp only [Oper.upon, Oper.uponIn] at h ⊢
    case value => exact h
    case skip => exact h
    case defer => exact h
    case enter f args => exact ⟨fun h => (by cases h), CallsIn.inRound l (callsIn_wide.2 (h.mono fun e w' he => by cases e <;> exact he))⟩
    case row row args => exact ⟨fun h => (by cases h), fun c cs _ => let ⟨v, w', r, s⟩ := h c cs; ⟨v, w', r, stepsIn_wide.2 s⟩⟩
  | halt x w' => cases x <;> simp only [Oper.upon, Oper.uponIn] at h ⊢ <;> exact h


theorem any_round {l n : Nat} {md : Region.Mode} {ops : Array Oper} {Q : Exit → Act → World → Prop} (hd : ∀ (i : Nat) (o : Oper), ops[i]? = some o → ∀ c, o.op ≠ .defer c) (hlo : ¬ LetsOut Q) :
    ∀ (fuel : Nat) (listed : Array Bool) (a : Act) (w : World), wpAny P md ops Q fuel listed a w → wpAnyIn (Fence.wide.inRound l) n P md ops Q fuel listed a w
  | 0, _, _, _, h => h
  | fuel + 1, listed, a, w, h => by
    refine ⟨h.1, fun i hi => ?_⟩
    have h1 := h.2 i hi
    unfold wpOp at h1
    unfold wpOpIn
    cases ho : ops[i]? with
    | none => simp only [ho] at h1; exact any_round hd hlo fuel _ _ _ h1
    | some o =>
      simp only [ho] at h1 ⊢
      split
      · rename_i hw
        rw [if_pos hw] at h1
        have h2 := h1.resolve_right (fun h => hlo h.2)
        exact Oper.wpIn_mono (fun a w h => any_round hd hlo fuel _ a w h) (op_round (hd i o ho) h2)
      · rename_i hw
        rw [if_neg hw] at h1
        exact ⟨fun _ _ => trivial, any_round hd hlo fuel _ _ _ h1⟩

/-- A region that draws its order, in a round: from the law for a region under a held condition. -/
theorem region_round {l n id : Nat} {ops : Array Oper} {Q : Exit → Act → World → Prop} {S : World → Prop} {a : Act} {w : World} (hm : P.follows .mixedOrders = true)
    (hd : ∀ (i : Nat) (o : Oper), ops[i]? = some o → ∀ c, o.op ≠ .defer c) (hlo : ¬ LetsOut Q) (hS : S w.drew)
    (h : S w.drew → wpAnyH P .any ops Q S ops.size (Array.replicate ops.size false) a w.drew) : (Code.region id ops true).wpIn (Fence.wide.inRound l) n P Q a w :=
  wpIn_region_any hm (any_round hd hlo _ _ _ _ (wpAny_of_held _ _ _ _ (h hS)))

/-- Reads before one store, in a round. -/
theorem still_tail_round {l n id k : Nat} {Q : Exit → Act → World → Prop} {a : Act} {w : World} {os : List Oper} (hm : P.follows .mixedOrders = true) (hB : Region.lexTailB .any os.toArray k = true)
    (hd : ∀ (i : Nat) (o : Oper), os.toArray[i]? = some o → ∀ c, o.op ≠ .defer c) (hlo : ¬ LetsOut Q)
    (h : wpStill P os.toArray w.drew (fun a' => wpList P os.toArray Q (os.drop k) a' w.drew) (os.take k) a) : (Code.region id os.toArray true).wpIn (Fence.wide.inRound l) n P Q a w := by
  refine wpIn_region_any hm (any_round hd hlo _ _ _ _ ?_)
  simp only [Region.lexTailB, Bool.and_eq_true, decide_eq_true_eq] at hB
  obtain ⟨⟨⟨⟨hsel, hk⟩, hs⟩, hc⟩, hlex⟩ := hB
  have hk' : k < os.length := by simpa using hk
  have htl : (os.take k).length = k := by simp; omega
  have hdl : (os.drop k).length = os.toArray.size - k := by simp
  have inv0 : HeadInv .any os.toArray k (Array.replicate os.toArray.size false) :=
    ⟨by simp, fun j oj _ hl => (by rw [getD_replicate_false] at hl; cases hl), fun t _ ht => getD_in (by simpa using ht) (getD_replicate_false _ _)⟩
  have H := wpAnyL_lex (md := .any) (g := os.toArray.size - k) hsel hs hc hk (os.take k) 0 _ a (fun j hj => by
    have hj' : j < k := by rw [htl] at hj; exact hj
    simp [hj']) (by simpa using htl) inv0 (by rw [htl]; exact hlex) h
  have H2 := wpAny_of_head (Q' := Q) (g := os.toArray.size - k) (fun listed a' hL => by
    have h3 := wpAny_of_seq (md := .any) (Q' := Q) (os.drop k) k listed a' w.drew (fun j => by simp [List.getElem?_drop]) (by rw [hdl]; exact hL.1) hL.2
    rwa [hdl] at h3) _ _ _ H
  rw [htl, show k + (os.toArray.size - k) = os.toArray.size by omega] at H2
  exact H2

theorem no_defer {ops : List Oper} (h : ops.all (fun o => match o.op with | .defer _ => false | _ => true) = true) : ∀ (i : Nat) (o : Oper), ops.toArray[i]? = some o → ∀ c, o.op ≠ .defer c := by
  intro i o ho c hc
  have hm : o ∈ ops := List.mem_iff_getElem?.2 ⟨i, by simpa using ho⟩
  have := List.all_eq_true.1 h o hm
  rw [hc] at this
  cases this

end

end Go.Proofs.YtckkemknajggpaaGreatDoor

namespace Go.Proofs.YtckkemknajggpaaGreatDoor
open Go Go.RowKit

theorem list_roundL {P : Program} {l n : Nat} {ops : Array Oper} {Q : Exit → Act → World → Prop} (hlo : ¬ LetsOut Q) :
    ∀ (os : List Oper) (_ : ∀ o ∈ os, ∀ c, o.op ≠ .defer c) (a : Act) (w : World), wpList P ops Q os a w → wpListIn (Fence.wide.inRound l) n P ops Q os a w
  | [], _, _, _, h => h
  | o :: os, hd, a, w, h => by
    unfold wpList at h
    unfold wpListIn
    split
    · rename_i hw
      rw [if_pos hw] at h
      have h2 := h.resolve_right (fun h => hlo h.2)
      exact Oper.wpIn_mono (fun a w h => list_roundL hlo os (fun o ho => hd o (List.mem_cons_of_mem _ ho)) a w h) (op_round (hd o List.mem_cons_self) h2)
    · rename_i hw
      rw [if_neg hw] at h
      exact ⟨fun _ _ => trivial, list_roundL hlo os (fun o ho => hd o (List.mem_cons_of_mem _ ho)) _ w h⟩

/-- A region that draws no order, in a round: from the law outside. -/
theorem region_plain_round {P : Program} {l n id : Nat} {os : List Oper} {Q : Exit → Act → World → Prop} {a : Act} {w : World} (hd : os.all (fun o => match o.op with | .defer _ => false | _ => true) = true) (hlo : ¬ LetsOut Q)
    (h : wpList P os.toArray Q os a w) : (Code.region id os.toArray false).wpIn (Fence.wide.inRound l) n P Q a w :=
  wpIn_region_lit (list_roundL hlo os (fun o ho c hc => by
    have := List.all_eq_true.1 hd o ho
    rw [hc] at this
    cases this) a w h)

theorem wp_onlyL {P : Program} {c : Code} {K : Act → World → Prop} {Q : Exit → Act → World → Prop} {a : Act} {w : World} (h : c.wp P (Exit.then K (fun _ _ _ => False)) a w) : c.wp P (Exit.then K Q) a w :=
  Code.wp_mono (fun e a w h => by cases e <;> first | exact h | exact h.elim) h

end Go.Proofs.YtckkemknajggpaaGreatDoor

namespace Go.Proofs.YtckkemknajggpaaGreatDoor
open Go.RowKit

/-- Numbers of 16 bits as cells. -/
def i16s (xs : List Int) : Array Value := (xs.map (Value.int .i16)).toArray
@[simp] theorem i16s_size (xs : List Int) : (i16s xs).size = xs.length := by simp [i16s]

theorem i16s_get (xs : List Int) (k : Nat) (h : k < xs.length) : (i16s xs)[k]? = some (.int .i16 (xs[k]?.getD 0)) := by
  simp [i16s, h]

theorem i16s_one (xs : List Int) : ∀ v ∈ i16s xs, v.oneCell' = true := by
  intro v hv
  simp only [i16s, List.mem_toArray, List.mem_map] at hv
  obtain ⟨x, _, rfl⟩ := hv
  rfl

theorem i16s_set (xs : List Int) (k : Nat) (n : Int) : (i16s xs).setIfInBounds k (.int .i16 n) = i16s (xs.set k n) := by
  apply Array.ext'
  simp [i16s, List.map_set]

theorem copy_step (xs : List Int) (k : Nat) (hx : xs.length = 24) (hk : k < 24) :
    (xs.take k ++ List.replicate (24 - k) 0).set k (xs[k]?.getD 0) = xs.take (k + 1) ++ List.replicate (24 - (k + 1)) 0 := by
  apply List.ext_getElem?
  intro j
  simp only [List.getElem?_set, List.getElem?_append, List.length_take, List.getElem?_take, List.getElem?_replicate, List.length_append, List.length_replicate]
  by_cases h1 : k = j
  · subst h1
    simp [show k < 24 from hk, hx, show min k 24 + (24 - k) = 24 by omega, show min (k+1) 24 = k + 1 by omega]
  · rw [if_neg h1]
    by_cases h2 : j < k
    · simp [hx, show j < min k 24 by omega, show j < min (k+1) 24 by omega, show j < k + 1 by omega, h2]
    · simp only [hx, show ¬ j < min k 24 by omega, if_false, show ¬ j < min (k+1) 24 by omega]
      congr 1
      simp
      omega

theorem cell_of_i16s {w : World} {g : Nat} {xs : List Int} {t : TypeId} {fr : Nat × Nat} (hg : w.heap[g]? = some (.cells (i16s xs) t fr)) (k : Nat) (h : k < xs.length) :
    w.cell? ⟨g, k, none⟩ = some (.int .i16 (xs[k]?.getD 0)) := by
  rw [cell_of_row w g k _ t fr hg, i16s_get xs k h]

theorem zeros24 : (#[.int .i16 0, .int .i16 0, .int .i16 0, .int .i16 0, .int .i16 0, .int .i16 0, .int .i16 0, .int .i16 0, .int .i16 0, .int .i16 0, .int .i16 0, .int .i16 0, .int .i16 0, .int .i16 0, .int .i16 0, .int .i16 0, .int .i16 0, .int .i16 0, .int .i16 0, .int .i16 0, .int .i16 0, .int .i16 0, .int .i16 0, .int .i16 0] : Array Value) = i16s (List.replicate 24 0) := rfl

theorem i16s_all (xs : List Int) (n : Nat) (h : xs.length = n) : (i16s xs).extract 0 (0 + n) = i16s xs := by
  have e : n = (i16s xs).size := by simp [h]
  rw [Nat.zero_add, e, Array.extract_size]

theorem laid_all (cs vs : Array Value) (h : cs.size = vs.size) : laid cs vs 0 = vs := by
  apply Array.ext'
  simp [laid]
  rw [← h]; simp

theorem heap_alloc (w : World) (o : Obj) (i : Nat) : (w.alloc o).heap[i]? = if i = w.heap.size then some o else w.heap[i]? := by
  show (w.heap.push o)[i]? = _
  exact Array.getElem?_push


/-- A sun as a value: 24 heights, 24 turns. -/
def sunC (hs ts : List Int) : Array Value := i16s (hs ++ ts)

theorem sunC_size (hs ts : List Int) (h : hs.length = 24) (t : ts.length = 24) : (sunC hs ts).size = 48 := by simp [sunC, h, t]

theorem sun_fits (hs ts : List Int) (h : hs.length = 24) (t : ts.length = 24) : 0 + 48 ≤ (sunC hs ts).size := by rw [sunC_size _ _ h t]; decide

theorem sun_all (hs ts : List Int) (h : hs.length = 24) (t : ts.length = 24) : (sunC hs ts).extract 0 (0 + 48) = sunC hs ts := i16s_all _ 48 (by rw [List.length_append, h, t])

theorem sunC_fst (hs ts : List Int) (h : hs.length = 24) : (sunC hs ts).extract 0 (0 + 24) = i16s hs := by
  apply Array.ext'
  simp [sunC, i16s, ← h]

theorem sunC_snd (hs ts : List Int) (h : hs.length = 24) (t : ts.length = 24) : (sunC hs ts).extract 24 (24 + 24) = i16s ts := by
  apply Array.ext'
  have e : 24 = (List.map (Value.int .i16) ts).length := by simp [t]
  simp only [sunC, i16s, List.map_append, List.extract_toArray, List.extract_eq_take_drop]
  rw [List.drop_append_of_le_length (by simp [h]), List.drop_of_length_le (by simp [h]), List.nil_append, List.take_of_length_le (by simp [t])]

theorem laid_fst (hs ts us : List Int) (h : hs.length = 24) (u : us.length = 24) : laid (sunC hs ts) (i16s us) 0 = sunC us ts := by
  apply Array.ext'
  simp [laid, sunC, i16s, u, h]

theorem laid_snd (hs ts us : List Int) (h : hs.length = 24) (t : ts.length = 24) (u : us.length = 24) : laid (sunC hs ts) (i16s us) 24 = sunC hs us := by
  apply Array.ext'
  simp [laid, sunC, i16s, u, h, t]

def zer : List Int := List.replicate 24 0

theorem zer_length : zer.length = 24 := rfl

theorem abs_code {P : Program} {c : Code} {Q : Exit → Act → World → Prop} {a : Act} {w : World} (R : World → Prop) (hw : R w) (h : ∀ W, R W → Code.wp P c Q a W) : Code.wp P c Q a w := h w hw

end Go.Proofs.YtckkemknajggpaaGreatDoor

namespace Go.Proofs.YtckkemknajggpaaGreatDoor
open Go.RowKit Go.Shelf

/-- An hour of a day. -/
abbrev Hr := { h : Int // 0 ≤ h ∧ h < 24 }

def hr (k : Nat) : Hr := ⟨(k % 24 : Nat), by omega⟩

theorem hr_val (k : Nat) (h : k < 24) : (hr k).1 = (k : Int) := by simp [hr, Nat.mod_eq_of_lt h]

def hrs (k : Nat) : List Hr := (List.range k).map hr

theorem hrs_succ (k : Nat) : hrs (k + 1) = hrs k ++ [hr k] := by simp [hrs, List.range_succ]
@[simp] theorem hrs_length (k : Nat) : (hrs k).length = k := by simp [hrs]

end Go.Proofs.YtckkemknajggpaaGreatDoor

namespace Go.Proofs.YtckkemknajggpaaGreatDoor
open Go Go.RowKit

set_option maxRecDepth 100000 in
theorem size_i16 (w : World) : (sizeOf 159).run Tryz.prog w = .ok 1 w := by kernel_rfl

set_option maxRecDepth 100000 in
theorem agg_i16 (w : World) : (isAgg 159).run Tryz.prog w = .ok false w := by kernel_rfl

theorem part_i16 (xs : List Int) (i : Nat) (h : i < xs.length) (w : World) : (part 159 (i16s xs) i).run Tryz.prog w = .ok (.int .i16 (xs[i]?.getD 0)) w := by
  unfold part
  rw [Sem.run_bind, agg_i16]
  simp only [Result.andThen_ok, Bool.false_eq_true, if_false, i16s_get xs i h]
  rfl



theorem eq_loop (d : Nat) (xs ys : List Int) (w : World) : ∀ (is : List Nat), (∀ i ∈ is, i < xs.length ∧ i < ys.length) →
    (forIn is ((none, ()) : Option Bool × Unit) (fun i _ => do
      if (!(← Op.equalIn (d + 1) 159 (← part 159 (i16s xs) (i * 1)) (← part 159 (i16s ys) (i * 1)))) = true then pure (ForInStep.done (some false, ()))
      else pure (ForInStep.yield (none, ())))).run Tryz.prog w = .ok (if is.all (fun i => xs[i]?.getD 0 == ys[i]?.getD 0) then (none, ()) else (some false, ())) w
  | [], _ => rfl
  | i :: is, h => by
    have hi := h i (by simp)
    have ih := eq_loop d xs ys w is (fun j hj => h j (by simp [hj]))
    rw [List.forIn_cons]
    simp only [Nat.mul_one] at ih ⊢
    simp only [Sem.run_bind, part_i16 xs i hi.1, part_i16 ys i hi.2, Result.andThen_ok, run_equalIn_int w d 159 .i16 .i16 _ _ Tryz.underlying159]
    cases hc : (xs[i]?.getD 0 == ys[i]?.getD 0)
    · simp [hc]
    · simp only [Bool.not_true, Bool.false_eq_true, if_false, Sem.run_pure, Result.andThen_ok, List.all_cons, hc, Bool.true_and]
      exact ih

theorem all_eq (xs ys : List Int) (n : Nat) (hx : xs.length = n) (hy : ys.length = n) : (List.range' 0 n).all (fun i => xs[i]?.getD 0 == ys[i]?.getD 0) = (xs == ys) := by
  rw [Bool.eq_iff_iff]
  simp only [List.all_eq_true, beq_iff_eq]
  constructor
  · intro h
    apply List.ext_getElem?
    intro i
    by_cases hi : i < n
    · have h1 := h i (by simp [List.mem_range']; omega)
      rw [List.getElem?_eq_getElem (by omega), List.getElem?_eq_getElem (by omega)] at h1 ⊢
      simpa using h1
    · rw [List.getElem?_eq_none (by omega), List.getElem?_eq_none (by omega)]
  · intro h i _
    rw [h]






theorem fold_and (a b : Bool) (w : World) : (if (!a) = true then Sem.run Tryz.prog (pure false) w else ((Sem.run Tryz.prog (pure b) w).andThen fun r w' => Sem.run Tryz.prog (if (!r) = true then pure false else pure true) w')) = .ok (a && b) w := by
  cases a <;> cases b <;> rfl

end Go.Proofs.YtckkemknajggpaaGreatDoor

namespace Go.Proofs.YtckkemknajggpaaGreatDoor
open Go.RowKit Go.Shelf

attribute [local go_sem] Oper.semAt_some

theorem heap_kept {W W' : World} {row : Option Nat} {b : Nat} {cs : Array Value} {t : TypeId} {fr : Nat × Nat} (h : W.heap[b]? = some (.cells cs t fr)) (hg : W.grownBy W' row)
    (hr : ∀ r, row = some r → ∃ o : Obj, W.heap[r]? = some o ∧ o.isCells = false) : W'.heap[b]? = some (.cells cs t fr) := by
  have hlt := (Array.getElem?_eq_some_iff.1 h).1
  rw [← h]
  refine hg.block b hlt fun e => ?_
  obtain ⟨o, ho, hc⟩ := hr b e.symm
  rw [h] at ho
  cases ho
  cases hc

/-- A number between two bounds. -/
def clampI (lo hi y : Int) : Int := if hi < (if lo > y then lo else y) then hi else (if lo > y then lo else y)

/-- The list whose first numbers are held. -/
def clampTo (lo hi : Int) (xs : List Int) (k : Nat) : List Int := (xs.take k).map (clampI lo hi) ++ xs.drop k

def Good (pre : List Hr) : Prop := pre = hrs pre.length

theorem good_snoc {pre : List Hr} {x : Hr} (h : Good (pre ++ [x])) (hl : pre.length < 24) : Good pre ∧ x.1 = (pre.length : Int) := by
  unfold Good at h
  rw [List.length_append, List.length_singleton, hrs_succ] at h
  have h1 := List.append_inj_left h (by simp)
  have h2 := List.append_inj_right h (by simp)
  refine ⟨h1, ?_⟩
  injection h2 with h3
  rw [h3, hr_val _ hl]

theorem good_all : Good (hrs 24) := by unfold Good; rw [hrs_length]

theorem clampTo_get (lo hi : Int) (xs : List Int) (k : Nat) (hx : xs.length = 24) (hk : k < 24) : (clampTo lo hi xs k)[k]?.getD 0 = xs[k]?.getD 0 := by
  unfold clampTo
  rw [List.getElem?_append_right (by simp; omega), List.getElem?_drop]
  congr 2
  simp; omega

theorem clampTo_step (lo hi : Int) (xs : List Int) (k : Nat) (hx : xs.length = 24) (hk : k < 24) :
    (clampTo lo hi xs k).set k (clampI lo hi (xs[k]?.getD 0)) = clampTo lo hi xs (k + 1) := by
  apply List.ext_getElem?
  intro j
  unfold clampTo
  simp only [List.getElem?_set, List.getElem?_append, List.length_map, List.length_take, List.getElem?_map, List.getElem?_take, List.getElem?_drop, List.length_append, List.length_drop, hx]
  by_cases h1 : k = j
  · subst h1
    rw [if_pos rfl, if_pos (by omega), if_pos (by omega), if_pos (by omega), List.getElem?_eq_getElem (by omega)]
    rfl
  · rw [if_neg h1]
    by_cases h2 : j < k
    · rw [if_pos (by omega), if_pos (by omega), if_pos (by omega), if_pos (by omega)]
    · rw [if_neg (by omega), if_neg (by omega)]
      congr 1
      omega

theorem clampTo_all (lo hi : Int) (xs : List Int) (hx : xs.length = 24) : clampTo lo hi xs 24 = xs.map (clampI lo hi) := by
  unfold clampTo
  rw [List.take_of_length_le (by omega), List.drop_of_length_le (by omega), List.append_nil]

theorem clampTo_none (lo hi : Int) (xs : List Int) : clampTo lo hi xs 0 = xs := rfl







theorem arrU : Tryz.prog.follows .mixedOrders = true := by kernel_rfl

end Go.Proofs.YtckkemknajggpaaGreatDoor

namespace Go.Proofs.YtckkemknajggpaaGreatDoor
open Go.RowKit Go.Shelf

attribute [local go_sem] Oper.semAt_some

theorem heap_keptWE {W W' : World} {row : Option Nat} {b : Nat} {cs : Array Value} {t : TypeId} {fr : Nat × Nat} (h : W.heap[b]? = some (.cells cs t fr)) (hg : W.grownBy W' row)
    (hr : ∀ r, row = some r → ∃ o : Obj, W.heap[r]? = some o ∧ o.isCells = false) : W'.heap[b]? = some (.cells cs t fr) := by
  have hlt := (Array.getElem?_eq_some_iff.1 h).1
  rw [← h]
  refine hg.block b hlt fun e => ?_
  obtain ⟨o, ho, hc⟩ := hr b e.symm
  rw [h] at ho
  cases ho
  cases hc

theorem keeps_of_belowWE {W W1 : World} (hb : Below W.heap.size W W1) : KeepsOthers W W1 := ⟨hb.size, fun b _ ho _ => (hb.block b (Array.getElem?_eq_some_iff.1 ho).1).trans ho⟩

theorem laid_allwE (cs vs : Array Value) (h : cs.size = vs.size) : laid cs vs 0 = vs := by
  apply Array.ext'
  simp [laid]
  rw [← h]; simp

theorem grown_of_belowE {w w' : World} (h : Below w.heap.size w w') (row : Option Nat) : w.grownBy w' row := ⟨h.os, h.tape, h.output, h.size, fun k hk _ => h.block k hk⟩

theorem run_store_floatE (P : Program) (w : World) (a : Addr) (k : FloatKind) (b : Nat) (m : Mode) : (store a (.float k b) m).run P w = stored P w a (.float k b) m := run_store P w a _ m rfl

attribute [local go_sem] run_store_floatE

def mpC (xs : List Nat) : Array Value := (xs.map (Value.float .f32)).toArray

theorem mpC_size (xs : List Nat) : (mpC xs).size = xs.length := by simp [mpC]

theorem mpC_set (xs : List Nat) (k : Nat) (n : Nat) : (mpC xs).setIfInBounds k (.float .f32 n) = mpC (xs.set k n) := by
  apply Array.ext'
  simp [mpC, List.map_set]

theorem mpC_cell {V : World} {g : Nat} {xs : List Nat} {t : TypeId} {fr : Nat × Nat} (hg : V.heap[g]? = some (.cells (mpC xs) t fr)) (k : Nat) (h : k < xs.length) : V.cell? ⟨g, k, none⟩ = some (.float .f32 (xs[k]?.getD 0)) := by
  rw [cell_of_row V _ _ _ _ _ hg]
  simp [mpC, h]

theorem mpC_all (xs : List Nat) (n : Nat) (h : xs.length = n) : (mpC xs).extract 0 (0 + n) = mpC xs := by
  rw [Nat.zero_add, ← h, ← mpC_size, Array.extract_size]

theorem mpC_one (xs : List Nat) : ∀ v ∈ mpC xs, v.oneCell' = true := by
  intro v hv
  simp only [mpC, List.mem_toArray, List.mem_map] at hv
  obtain ⟨x, _, rfl⟩ := hv
  rfl





def zM : List Nat := List.replicate 100 0

theorem zM_len : zM.length = 100 := by simp [zM]

/-- The map of a room, as far as its tiles have been looked at. -/
def mpK (g : Int × Int → Nat) (W H k : Nat) : List Nat := (List.range 100).map (fun i => if i % 10 < W ∧ i / 10 < H ∧ i / 10 * W + i % 10 < k then g (((i % 10 : Nat) : Int), ((i / 10 : Nat) : Int)) else 0)

theorem mpK_len (g : Int × Int → Nat) (W H k : Nat) : (mpK g W H k).length = 100 := by simp [mpK]

theorem mpK_zero (g : Int × Int → Nat) (W H : Nat) : mpK g W H 0 = zM := by
  apply List.ext_getElem
  · simp [mpK, zM]
  · intro i h1 h2
    simp only [mpK, zM, List.getElem_map, List.getElem_range, List.getElem_replicate]
    rw [if_neg (fun h => Nat.not_lt_zero _ h.2.2)]

theorem mpK_step (g : Int × Int → Nat) (W H : Nat) (hW : 0 < W) (hW1 : W ≤ 10) {x y : Nat} (hx : x < W) (hy : y < H) : (mpK g W H (y * W + x)).set (y * 10 + x) (g ((x : Int), (y : Int))) = mpK g W H (y * W + x + 1) := by
  apply List.ext_getElem
  · simp [mpK]
  · intro i h1 h2
    have hi : i < 100 := by simpa [mpK] using h2
    rw [List.getElem_set]
    simp only [mpK, List.getElem_map, List.getElem_range]
    by_cases e : y * 10 + x = i
    · subst e
      have e1 : (y * 10 + x) % 10 = x := by omega
      have e2 : (y * 10 + x) / 10 = y := by omega
      rw [if_pos rfl, e1, e2, if_pos ⟨hx, hy, by omega⟩]
    · rw [if_neg e]
      by_cases hc : i % 10 < W ∧ i / 10 < H
      · have hne : i / 10 * W + i % 10 ≠ y * W + x := by
          intro h
          have a1 : (i / 10 * W + i % 10) % W = i % 10 := by rw [Nat.mul_comm, Nat.mul_add_mod]; exact Nat.mod_eq_of_lt hc.1
          have a2 : (y * W + x) % W = x := by rw [Nat.mul_comm, Nat.mul_add_mod]; exact Nat.mod_eq_of_lt hx
          have a3 : (i / 10 * W + i % 10) / W = i / 10 := by rw [Nat.mul_comm, Nat.mul_add_div hW, Nat.div_eq_of_lt hc.1, Nat.add_zero]
          have a4 : (y * W + x) / W = y := by rw [Nat.mul_comm, Nat.mul_add_div hW, Nat.div_eq_of_lt hx, Nat.add_zero]
          rw [h] at a1 a3
          omega
        by_cases hk : i / 10 * W + i % 10 < y * W + x
        · rw [if_pos ⟨hc.1, hc.2, hk⟩, if_pos ⟨hc.1, hc.2, by omega⟩]
        · rw [if_neg (fun h => hk h.2.2), if_neg (fun h => by have := h.2.2; omega)]
      · rw [if_neg (fun h => hc ⟨h.1, h.2.1⟩), if_neg (fun h => hc ⟨h.1, h.2.1⟩)]

def GoodT (W H : Nat) (hW : 0 < W) (hH : 0 < H) (pre : List (Tt W H)) : Prop := pre = tks W H hW hH pre.length

theorem goodT_snoc {W H : Nat} {hW : 0 < W} {hH : 0 < H} {pre : List (Tt W H)} {x : Tt W H} (h : GoodT W H hW hH (pre ++ [x])) : GoodT W H hW hH pre ∧ x = tk W H hW hH pre.length := by
  unfold GoodT at h
  rw [List.length_append, List.length_singleton, tks_succ] at h
  have := List.append_inj h (by simp)
  exact ⟨this.1, by simpa using this.2⟩

theorem goodT_all (W H : Nat) (hW : 0 < W) (hH : 0 < H) (k : Nat) : GoodT W H hW hH (tks W H hW hH k) := by
  unfold GoodT
  rw [tks_length]

/-- What the k-th tile is. -/
theorem tk_split (W H : Nat) (hW : 0 < W) (hH : 0 < H) {k : Nat} (hk : k < W * H) : ∃ x y : Nat, x < W ∧ y < H ∧ k = y * W + x ∧ (tk W H hW hH k).1 = ((x : Int), (y : Int)) := by
  refine ⟨k % W, k / W, Nat.mod_lt k hW, Nat.div_lt_of_lt_mul hk, ?_, ?_⟩
  · rw [Nat.mul_comm]; exact (Nat.div_add_mod k W).symm
  · have := tk_at W H hW hH (Nat.mod_lt k hW) (Nat.div_lt_of_lt_mul hk)
    rw [Nat.mul_comm (k / W) W, Nat.div_add_mod] at this
    exact this

end Go.Proofs.YtckkemknajggpaaGreatDoor

namespace Go.Proofs.YtckkemknajggpaaGreatDoor
open Go.RowKit Go.Shelf

attribute [local go_sem] Oper.semAt_some

/-- The cells of the first tiles of a room that is W wide. -/
def tC (W k : Nat) : List Value := (List.range k).flatMap (fun i => [.int .i8 ((i % W : Nat) : Int), .int .i8 ((i / W : Nat) : Int)])

theorem tC_succ (W : Nat) (hW : 0 < W) {x y : Nat} (hx : x < W) : tC W (y * W + x + 1) = tC W (y * W + x) ++ [.int .i8 (x : Int), .int .i8 (y : Int)] := by
  have e1 : (y * W + x) % W = x := by rw [Nat.mul_comm, Nat.mul_add_mod]; exact Nat.mod_eq_of_lt hx
  have e2 : (y * W + x) / W = y := by rw [Nat.mul_comm, Nat.mul_add_div hW, Nat.div_eq_of_lt hx, Nat.add_zero]
  unfold tC
  rw [List.range_succ, List.flatMap_append, List.flatMap_cons, List.flatMap_nil, List.append_nil, e1, e2]

theorem infoTE : (Tryz.prog.info? 63).map (fun i => (i.zero, i.size, i.bytes)) = some (some (.agg #[.int .i8 0, .int .i8 0]), 2, 2) := by kernel_rfl

theorem owns_bE {W w1 : World} {base s k : Nat} {e : TypeId} {v : Value} {xs : List Value} (h : W.ownsRow base e s v k xs) (hb : Below W.heap.size W w1) : w1.ownsRow base e s v k xs :=
  h.kept (row := none) ⟨hb.os, hb.tape, hb.output, hb.size, fun k hk _ => hb.block k hk⟩ (by cases v.ownBlock <;> simp)

theorem cells_newE (w : World) (cs : Array Value) (t : TypeId) : ∀ j u, cs.toList[j]? = some u → (w.alloc (.cells cs t)).cell? ((⟨w.heap.size, 0, none⟩ : Addr).add j) = some u := by
  intro j u hj
  have e : (⟨w.heap.size, 0, none⟩ : Addr).add j = ⟨w.heap.size, j, none⟩ := by simp [Addr.add]; exact fun h => h.symm
  rw [e, cell_of_row _ _ _ _ _ _ (heap_alloc_new _ _)]
  simpa using hj

end Go.Proofs.YtckkemknajggpaaGreatDoor

namespace Go.Proofs.YtckkemknajggpaaGreatDoor
open Go.ChangeShapes Go.WideShapes Go.ChangeAt Go.RowKit Go.Deep Go.Joins

attribute [local go_sem] run_store_floatE



theorem zbelE (V : World) (o : Obj) (cs : Array Value) : Below V.heap.size V ((V.alloc o).setRow V.heap.size cs) := below_setRow ((Below.refl _ _).alloc (Nat.le_refl _) _) (Nat.le_refl _) _

end Go.Proofs.YtckkemknajggpaaGreatDoor

namespace Go.Proofs.YtckkemknajggpaaGreatDoor
open Go.RowKit Go.Shelf

attribute [local go_sem] Oper.semAt_some run_store_floatE

def sumM (g : Nat → Nat) (k : Nat) : Nat := (List.range k).foldl (fun s i => fadd s (g i)) 0

theorem sumM_succ (g : Nat → Nat) (k : Nat) : sumM g (k + 1) = fadd (sumM g k) (g k) := by simp [sumM, List.range_succ]

def capM (k : Nat) : Nat := floatOfInt .f32 ((12 * k : Nat) : Int)

theorem capM_dec : ∀ k : Nat, k < 101 → capM k < 2139095040 ∧ fadd (capM k) (floatOfInt .f32 (12 : Int)) = capM (k + 1) := by decide +kernel

theorem cap12 : floatOfInt .f32 (12 : Int) < 2139095040 := by decide +kernel

theorem sumM_step {s x k : Nat} (hs : s ≤ capM k) (hk : k < 100) (hx : x ≤ floatOfInt .f32 (12 : Int)) : floatBits .add .f32 s x = some (fadd s x) ∧ fadd s x ≤ capM (k + 1) := by
  obtain ⟨c1, c2⟩ := capM_dec k (by omega)
  have h12 := cap12
  exact ⟨(add_rnd (by omega) (by omega)).1, by rw [← c2]; exact add_mono c1 h12 hs hx⟩

theorem sumM_cap (g : Nat → Nat) : ∀ k, k ≤ 100 → (∀ j, j < k → g j ≤ floatOfInt .f32 (12 : Int)) → sumM g k ≤ capM k
  | 0, _, _ => by show (0 : Nat) ≤ _; exact Nat.zero_le _
  | k + 1, hk, h => by
    rw [sumM_succ]
    exact (sumM_step (sumM_cap g k (by omega) (fun j hj => h j (by omega))) (by omega) (h k (by omega))).2

def meanM (s n : Nat) : Nat := fdiv s (floatOfInt .f32 ((n : Nat) : Int))

theorem meanM_ok {s k n : Nat} (hs : s ≤ capM k) (hk : k ≤ 100) (h0 : 0 < n) (h1 : n ≤ 100) : floatBits .quo .f32 s (floatOfInt .f32 ((n : Nat) : Int)) = some (meanM s n) ∧ fin32 (meanM s n) = true := by
  obtain ⟨c1, _⟩ := capM_dec k (by omega)
  obtain ⟨m, rfl⟩ : ∃ m, n = m + 1 := ⟨n - 1, by omega⟩
  obtain ⟨d1, d2⟩ := whole_nat m (by omega)
  have e : ((m + 1 : Nat) : Int) = (m : Int) + 1 := by omega
  unfold meanM
  rw [e]
  refine ⟨(div_rnd (by omega) d1 (by omega)).1, fin_of_lt (Nat.lt_of_le_of_lt (div_mono (x := s) (X := capM k) (Y := 1065353216) c1 d1 (by decide) hs d2) ?_)⟩
  have h : ∀ k : Nat, k < 101 → fdiv (capM k) 1065353216 < 2139095040 := by decide +kernel
  exact h k (by omega)

theorem mpK_get (g : Int × Int → Nat) (W H : Nat) {x y : Nat} (hW1 : W ≤ 10) (hH1 : H ≤ 10) (hx : x < W) (hy : y < H) : (mpK g W H (W * H))[y * 10 + x]?.getD 0 = g ((x : Int), (y : Int)) := by
  have e1 : (y * 10 + x) % 10 = x := by omega
  have e2 : (y * 10 + x) / 10 = y := by omega
  have hk : y * W + x < W * H := by
    have h2 : (y + 1) * W ≤ H * W := Nat.mul_le_mul_right W (by omega)
    rw [Nat.add_mul, Nat.one_mul] at h2
    rw [Nat.mul_comm W H]
    omega
  unfold mpK
  rw [List.getElem?_map, List.getElem?_range (by omega : y * 10 + x < 100)]
  simp only [Option.map_some, Option.getD_some, e1, e2]
  rw [if_pos ⟨hx, hy, hk⟩]

end Go.Proofs.YtckkemknajggpaaGreatDoor

namespace Go.Proofs.YtckkemknajggpaaGreatDoor
open Go.RowKit Go.Shelf

attribute [local go_sem] Oper.semAt_some run_store_floatE

def u16s (xs : List Int) : Array Value := (xs.map (Value.int .u16)).toArray

theorem u16s_size (xs : List Int) : (u16s xs).size = xs.length := by simp [u16s]

theorem u16s_cell {V : World} {g : Nat} {xs : List Int} {t : TypeId} {fr : Nat × Nat} (hg : V.heap[g]? = some (.cells (u16s xs) t fr)) (k : Nat) (h : k < xs.length) : V.cell? ⟨g, k, none⟩ = some (.int .u16 (xs[k]?.getD 0)) := by
  rw [cell_of_row V _ _ _ _ _ hg]
  simp [u16s, h]

theorem u16s_set (xs : List Int) (k : Nat) (n : Int) : (u16s xs).setIfInBounds k (.int .u16 n) = u16s (xs.set k n) := by
  apply Array.ext'
  simp [u16s, List.map_set]

theorem u16s_one (xs : List Int) : ∀ v ∈ u16s xs, v.oneCell' = true := by
  intro v hv
  simp only [u16s, List.mem_toArray, List.mem_map] at hv
  obtain ⟨x, _, rfl⟩ := hv
  rfl

theorem u16s_all (xs : List Int) (n : Nat) (h : xs.length = n) : (u16s xs).extract 0 (0 + n) = u16s xs := by
  rw [Nat.zero_add, ← h, ← u16s_size, Array.extract_size]



def zU : List Int := [0, 0, 0, 0, 0, 0, 0, 0, 0, 0]

theorem zU_len : zU.length = 10 := rfl

/-- The bits of lit tiles, as far as they have been looked at. -/
def litN (P : Nat → Bool) (W : Nat) : Nat → List Int
  | 0 => zU
  | k + 1 => if P k then (litN P W k).set (k / W) (bits .or .u16 ((litN P W k)[k / W]?.getD 0) ((2 : Int) ^ (k % W))) else litN P W k

theorem litN_len (P : Nat → Bool) (W : Nat) : ∀ k, (litN P W k).length = 10
  | 0 => rfl
  | k + 1 => by
    rw [litN]
    split
    · rw [List.length_set]; exact litN_len P W k
    · exact litN_len P W k

theorem litN_at {P : Nat → Bool} {W x y : Nat} (hW : 0 < W) (hx : x < W) : litN P W (y * W + x + 1) = if P (y * W + x) then (litN P W (y * W + x)).set y (bits .or .u16 ((litN P W (y * W + x))[y]?.getD 0) ((2 : Int) ^ x)) else litN P W (y * W + x) := by
  have e1 : (y * W + x) % W = x := by rw [Nat.mul_comm, Nat.mul_add_mod]; exact Nat.mod_eq_of_lt hx
  have e2 : (y * W + x) / W = y := by rw [Nat.mul_comm, Nat.mul_add_div hW, Nat.div_eq_of_lt hx, Nat.add_zero]
  rw [litN, e1, e2]

/-- Whether a light is enough. -/
def enB (least x : Nat) : Bool := FloatKind.f32.format.order x least == some .gt || FloatKind.f32.format.order x least == some .eq

theorem pow16 {x : Nat} (h : x < 10) : IntKind.u16.wrap ((2 : Int) ^ x) = (2 : Int) ^ x := by
  have h2 : ∀ x : Nat, x < 10 → IntKind.u16.wrap ((2 : Int) ^ x) = (2 : Int) ^ x := by decide +kernel
  exact h2 x h

end Go.Proofs.YtckkemknajggpaaGreatDoor

namespace Go.Proofs.YtckkemknajggpaaGreatDoor
open Go.ChangeShapes Go.WideShapes Go.ChangeAt Go.RowKit Go.Deep Go.Joins

attribute [local go_sem] run_store_floatE

theorem fin_iffT {b : Nat} : (FloatKind.f32.format.order b b = some .eq ∧ fin32 b = true) ∨ (FloatKind.f32.format.order b b = none ∧ fin32 b = false) := by
  unfold fin32
  show ((Ieee.single.read b).order (Ieee.single.read b) = some .eq ∧ _) ∨ _
  generalize hd : Ieee.single.read b = d
  have e : FloatKind.f32.format.order b b = d.order d := by show (Ieee.single.read b).order (Ieee.single.read b) = _; rw [hd]
  rw [e]
  cases d with
  | number s m e => left; simp [Ieee.Datum.order, Ieee.Datum.isNaN]
  | infinity s => left; simp [Ieee.Datum.order, Ieee.Datum.isNaN]
  | nan s f => right; exact ⟨rfl, rfl⟩

theorem wpList_buildTT {P : Program} {ops : Array Oper} {rest : List Oper} {o : Oper} {a : Act} {w : World} {Q : Exit → Act → World → Prop} (hg : o.guard = none) (t : TypeId) (parts : Array (Nat × Operand)) (ho : o.op = .build t parts)
    (d : Option Tmp) (hd : o.dst = d) (l : List (Nat × Value)) (hp : parts.toList.map (fun x => (x.1, a.eval x.2)) = l) (cells : Array Value) (hf : P.built t l = some cells)
    (h : wpList P ops Q rest (a.put d (.agg cells)) w) : wpList P ops Q (o :: rest) a w := by
  refine wpList_buildTo hg t parts ho d hd cells ?_ h
  rw [Array.toList_map, ← hf, ← hp]

end Go.Proofs.YtckkemknajggpaaGreatDoor

namespace Go.Proofs.YtckkemknajggpaaGreatDoor
open Go.RowKit

attribute [local go_sem] run_store_f

/-- The glare of a desk; that of a desk of a list. -/
def dkG (wd hg : Int) (ws : List Wn) (x : Dk) : Nat := litW wd hg (x.1, x.2.1) (glW wd hg x.1 x.2.1 x.2.2) ws

def gdN (wd hg : Int) (ws : List Wn) (ds : List Dk) (k : Nat) : Nat :=
  match ds[k]? with
  | some x => dkG wd hg ws x
  | none => 0

/-- The bits of the desks with too much glare, as far as they have been looked at. -/
def gbN (d : Nat → Nat) (bd : Nat) : Nat → Int
  | 0 => 0
  | k + 1 => if FloatKind.f32.format.order (d k) bd == some .gt then bits .or .u16 (gbN d bd k) ((2 : Int) ^ k) else gbN d bd k

theorem gbN_hit {d : Nat → Nat} {bd k : Nat} (h : (FloatKind.f32.format.order (d k) bd == some .gt) = true) : gbN d bd (k + 1) = bits .or .u16 (gbN d bd k) ((2 : Int) ^ k) := by
  rw [gbN, if_pos h]

theorem gbN_miss {d : Nat → Nat} {bd k : Nat} (h : (FloatKind.f32.format.order (d k) bd == some .gt) = false) : gbN d bd (k + 1) = gbN d bd k := by
  rw [gbN, if_neg (by rw [h]; decide)]

/-- A desk's place is one of a room. -/
theorem fitD_get {wd hg : Int} {x : Dk} (h : fitD wd hg x = true) : inRoom wd hg (x.1, x.2.1) ∧ 0 ≤ x.2.2 ∧ x.2.2 ≤ 3 := by
  unfold fitD isD inI at h
  rw [Bool.and_eq_true, Bool.and_eq_true, decide_eq_true_iff, decide_eq_true_iff] at h
  exact ⟨isT_get h.1, h.2.1, h.2.2⟩

theorem glareDk_any (wd hg : Int) (sv : Value) (ws : List Wn) (ok : RmOk wd hg ws) (hwf : ∀ x ∈ ws, WnWf x) (x : Dk) (hx : fitD wd hg x = true) (w : World) (hws : WinsAt w sv ws) :
    Calls Tryz.prog 70 #[.agg (roomC wd hg sv), .agg (dkC x)] w fun e w' => e = .returned (.float .f32 (dkG wd hg ws x)) ∧ Below w.heap.size w w' := by
  obtain ⟨h1, h2, h3⟩ := fitD_get hx
  exact glareAt_any wd hg sv ws ok hwf x.1 x.2.1 x.2.2 h1 h2 h3 w hws

theorem gbZ (V : World) (o : Obj) (cs : Array Value) : Below V.heap.size V ((V.alloc o).setRow V.heap.size cs) := below_setRow ((Below.refl _ _).alloc (Nat.le_refl _) _) (Nat.le_refl _) _

/-- The code that a list of desks and a bound are refused with. -/
def codeG (ok num all : Bool) (n : Nat) : Int := if !ok then 1 else if !(num && all) then 2 else if 8 < n then 3 else 0

end Go.Proofs.YtckkemknajggpaaGreatDoor

namespace Go.Proofs.YtckkemknajggpaaGreatDoor
open Go.RowKit Go.Deep

attribute [local go_sem] run_store_f

/-- The bits of the first persons for whom something holds. -/
def pbN (f : Nat → Bool) : Nat → Int
  | 0 => 0
  | k + 1 => if f k then bits .or .u16 (pbN f k) ((2 : Int) ^ k) else pbN f k

theorem pbN_hit {f : Nat → Bool} {k : Nat} (h : f k = true) : pbN f (k + 1) = bits .or .u16 (pbN f k) ((2 : Int) ^ k) := by rw [pbN, if_pos h]

theorem pbN_miss {f : Nat → Bool} {k : Nat} (h : f k = false) : pbN f (k + 1) = pbN f k := by rw [pbN, if_neg (by rw [h]; decide)]

/-- Whom so much light and so much glare suit, in a list. -/
def suL (li gr : Nat) (ps : List Pn) (k : Nat) : Bool :=
  match ps[k]? with
  | some x => suB li gr x.1 x.2.1 x.2.2
  | none => false

theorem sbZ (V : World) (o : Obj) (cs : Array Value) : Below V.heap.size V ((V.alloc o).setRow V.heap.size cs) := below_setRow ((Below.refl _ _).alloc (Nat.le_refl _) _) (Nat.le_refl _) _

theorem pn_cells {x : Pn} {W : World} {b : Nat} {T : TypeId} {fr : Nat × Nat} (h : W.heap[b]? = some (.cells (pnC x) T fr)) :
    W.cell? ⟨b, 0, none⟩ = some (.float .f32 x.1) ∧ W.cell? ⟨b, 1, none⟩ = some (.float .f32 x.2.1) ∧ W.cell? ⟨b, 2, none⟩ = some (.float .f32 x.2.2) := pers_cells h

theorem pow16S {k : Nat} (h : k < 10) : IntKind.u16.wrap ((2 : Int) ^ k) = (2 : Int) ^ k := by
  have : ∀ k : Nat, k < 10 → IntKind.u16.wrap ((2 : Int) ^ k) = (2 : Int) ^ k := by decide
  exact this k h

set_option maxRecDepth 100000 in
set_option maxHeartbeats 8000000 in
theorem suited_any (wd hg : Int) (sv pv : Value) (ws : List Wn) (ok : RmOk wd hg ws) (hwf : ∀ x ∈ ws, WnWf x) (a1 a2 a3 : Int) (ha : inRoom wd hg (a1, a2)) (l0 : 0 ≤ a3) (l3 : a3 ≤ 3) (ps : List Pn) (hlen : ps.length ≤ 8) (w : World) (hws : WinsAt w sv ws) (hps : PnsAt w pv ps) :
    Calls Tryz.prog 50 #[.agg (roomC wd hg sv), .agg (deskC a1 a2 a3), pv] w fun e w' => e = .returned (.int .u16 (pbN (suL (litW wd hg (a1, a2) (fun _ => true) ws) (litW wd hg (a1, a2) (glW wd hg a1 a2 a3) ws) ps) ps.length)) ∧ Below w.heap.size w w' := by
  have HL := Lib.hid (fun W (h : WinsAt W sv ws) => lightAt_any wd hg sv ws ok hwf a1 a2 ha W h)
  have HG := Lib.hid (fun W (h : WinsAt W sv ws) => glareAt_any wd hg sv ws ok hwf a1 a2 a3 ha l0 l3 W h)
  have HV := Lib.hid hws
  have HP0 := Lib.hid hps
  obtain ⟨pa, pc, rfl, -, -, -⟩ := hps
  generalize litW wd hg (a1, a2) (fun _ => true) ws = li at *
  generalize litW wd hg (a1, a2) (glW wd hg a1 a2 a3) ws = gr at *
  clear ok hwf ha l0 l3 hws
  generalize hnn : ps.length = n at *
  have HN := Lib.hid hnn
  clear hnn
  go_enter Tryz.func50, Tryz.ntmps50
  go_upto_region 1 with (fail)
  refine abs_world (fun W => W.heap[w.heap.size]? = some (.cells (roomC wd hg sv) 36 (0, 0)) ∧ W.heap[w.heap.size + 1]? = some (.cells (deskC a1 a2 a3) 65 (0, 0)) ∧ Below w.heap.size w W) (box2 w (.cells (roomC wd hg sv) 36) (.cells (deskC a1 a2 a3) 65)) ?_
  rintro W ⟨h0, h1, hb⟩
  generalize w.heap.size + 1 = b1 at *
  have H0 := Lib.hid h0
  have H1 := Lib.hid h1
  replace HV := Lib.hid (wins_below HV.out hb)
  clear h0 h1
  refine wp_region_held_drew (S := (fun V => Below W.heap.size W V)) (by kernel_rfl) ((Below.refl _ _).drew) (fun hHeld => ?_)
  refine take_op (i := 0) (d := 12) (v := .agg (roomC wd hg sv)) rfl rfl (by kernel_rfl) (by kernel_rfl) (by kernel_rfl) (fun _ _ _ h => h) (yields_row (by rfl) 36 (.tmp 3) (by rfl) w.heap.size 0 3 (by rfl) 36 (roomC wd hg sv) (0, 0) _ (fun _ h => below_row h H0.out) Tryz.underlying36 rfl info_room (room_fits _ _ _) (roomC wd hg sv) (room_all _ _ _)) hHeld ?_
  simp only [List.setIfInBounds_toArray, List.set_cons_zero, List.set_cons_succ]
  refine take_op (i := 1) (d := 13) (v := ?_) rfl rfl (by kernel_rfl) (by kernel_rfl) (by kernel_rfl) (fun _ _ _ h => h) (Or.inl ⟨by rfl, ?hy1u1⟩) hHeld ?rest1u1
  case hy1u1 =>
    intro w' hS'
    go_simp
    try with_reducible rfl
  simp only [List.setIfInBounds_toArray, List.set_cons_zero, List.set_cons_succ]
  refine take_op (i := 2) (d := 14) (v := .agg (tileC a1 a2)) rfl rfl (by kernel_rfl) (by kernel_rfl) (by kernel_rfl) (fun _ _ _ h => h) (yields_row (by rfl) 63 (.tmp 13) (by rfl) b1 0 2 (by rfl) 65 (deskC a1 a2 a3) (0, 0) _ (fun _ h => below_row h H1.out) Tryz.underlying63 rfl info_tile (desk_fits2 _ _ _) (tileC a1 a2) (desk_tile _ _ _)) hHeld ?_
  simp only [List.setIfInBounds_toArray, List.set_cons_zero, List.set_cons_succ]
  refine take_op (i := 4) (d := 16) (v := .agg (roomC wd hg sv)) rfl rfl (by kernel_rfl) (by kernel_rfl) (by kernel_rfl) (fun _ _ _ h => h) (yields_row (by rfl) 36 (.tmp 3) (by rfl) w.heap.size 0 3 (by rfl) 36 (roomC wd hg sv) (0, 0) _ (fun _ h => below_row h H0.out) Tryz.underlying36 rfl info_room (room_fits _ _ _) (roomC wd hg sv) (room_all _ _ _)) hHeld ?_
  simp only [List.setIfInBounds_toArray, List.set_cons_zero, List.set_cons_succ]
  refine take_op (i := 5) (d := 17) (v := .agg (deskC a1 a2 a3)) rfl rfl (by kernel_rfl) (by kernel_rfl) (by kernel_rfl) (fun _ _ _ h => h) (yields_row (by rfl) 65 (.tmp 4) (by rfl) b1 0 3 (by rfl) 65 (deskC a1 a2 a3) (0, 0) _ (fun _ h => below_row h H1.out) Tryz.underlying65 rfl info_desk (desk_fits _ _ _) (deskC a1 a2 a3) (desk_all _ _ _)) hHeld ?_
  simp only [List.setIfInBounds_toArray, List.set_cons_zero, List.set_cons_succ]
  refine wpAnyH_ready (rs := [3]) (by kernel_rfl) (by simp) ?_
  refine AllReadyH.cons rfl (fun K hK => ?_) AllReadyH.nil
  go_simp
  refine (HL.out _ (wins_below HV.out hHeld)).mono ?_
  rintro e W1 ⟨rfl, hb1⟩
  refine hK.out _ _ (hHeld.trans (hb1.mono hHeld.size)) (fun hHeld2 => ?_)
  clear hK K
  replace hHeld := hHeld2
  clear hHeld2
  clear hb1
  refine wpAnyH_ready (rs := [6]) (by kernel_rfl) (by simp) ?_
  refine AllReadyH.cons rfl (fun K hK => ?_) AllReadyH.nil
  go_simp
  refine (HG.out _ (wins_below HV.out hHeld)).mono ?_
  rintro e W2 ⟨rfl, hb2⟩
  refine hK.out _ _ (hHeld.trans (hb2.mono hHeld.size)) (fun hHeld2 => ?_)
  clear hK K
  replace hHeld := hHeld2
  clear hHeld2
  clear hb2
  refine take_op (i := 7) (d := 7) (v := ?_) rfl rfl (by kernel_rfl) (by kernel_rfl) (by kernel_rfl) (fun _ _ _ h => h) (Or.inl ⟨by rfl, ?hy7u2⟩) hHeld ?rest7u2
  case hy7u2 =>
    intro w' hS'
    go_simp
    try with_reducible rfl
  simp only [List.setIfInBounds_toArray, List.set_cons_zero, List.set_cons_succ]
  refine take_op (i := 8) (d := 8) (v := ?_) rfl rfl (by kernel_rfl) (by kernel_rfl) (by kernel_rfl) (fun _ _ _ h => h) (Or.inl ⟨by rfl, ?hy8u3⟩) hHeld ?rest8u3
  case hy8u3 =>
    intro w' hS'
    go_simp
    try with_reducible rfl
  simp only [List.setIfInBounds_toArray, List.set_cons_zero, List.set_cons_succ]
  refine wpAnyH_done (by kernel_rfl) ?_ _
  replace H0 := Lib.hid (below_row hHeld H0.out)
  replace H1 := Lib.hid (below_row hHeld H1.out)
  replace HV := Lib.hid (wins_below HV.out hHeld)
  replace hb := hb.trans (hHeld.mono hb.size)
  clear hHeld
  clear H0 H1 HV HL HG
  go_upto_region 4 with (fail)
  go_loopw [9, 21] (fun a i wr => ∃ k : Nat, k ≤ n ∧ i = .int .i64 (k : Int) ∧ a = .int .u16 (pbN (suL li gr ps) k) ∧ Below w.heap.size w wr) (fun _ i _ => n - (intOf i).toNat)
  case atStart => exact ⟨0, Nat.zero_le _, rfl, rfl, hb⟩
  case round =>
    clear hb
    obtain ⟨k, hk, rfl, rfl, hbx⟩ := hrel
    by_cases hlt : k < n
    · have hx : ps[k]? = some (ps[k]'(by rw [HN.out]; exact hlt)) := List.getElem?_eq_getElem _
      obtain ⟨g, o, rfl, hc⟩ := pn_at (pns_below HP0.out hbx) hx
      have HCl := Lib.hid hc
      have HSU : Hid (suL li gr ps k = suB li gr (ps[k]'(by rw [HN.out]; exact hlt)).1 (ps[k]'(by rw [HN.out]; exact hlt)).2.1 (ps[k]'(by rw [HN.out]; exact hlt)).2.2) := Lib.hid (by unfold suL; rw [hx])
      generalize (ps[k]'(by rw [HN.out]; exact hlt)) = x at *
      have z1 : (k : Int) < (n : Int) := by omega
      have z2 : (0 : Int) ≤ (k : Int) := by omega
      have z3 : IntKind.i64.wrap (k : Int) = (k : Int) := by rw [IntWalk.i64_in _ (by omega)]
      have hpw := pow16S (show k < 10 by omega)
      have hpw2 : (2 : Int) ^ k % 65536 = (2 : Int) ^ k := hpw
      clear hc hx
      go_upto_region 6 with (first | (refine wpList_load_cells rfl 72 _ rfl g (o + k * 3) 3 rfl _ Tryz.underlying72 rfl info_pers (pnC x) rfl HCl.out ?_) | (refine wpList_store_part rfl 72 _ _ rfl _ 0 (pnC x) rfl rfl 72 _ (heap_alloc_new _ _) info_pers (Nat.le_refl _) (pn_one _) ?_; rw [laid_allr _ _ (by rfl)]))
      refine abs_world (fun X => X.heap[wr.heap.size]? = some (.cells (pnC x) 72 (0, 0)) ∧ Below w.heap.size w X) ⟨setRow_heap _ _ _ _ _ _ (heap_alloc_new _ _), hbx.trans ((sbZ _ _ _).mono hbx.size)⟩ ?_
      clear hbx
      generalize wr.heap.size = pb at *
      rintro X ⟨h1x, hbx⟩
      obtain ⟨p0, p1, p2⟩ := pn_cells h1x
      clear h1x
      rcases h0 : FloatKind.f32.format.order li x.1 with _ | (_ | _ | _)
      · have HFk : Hid (suL li gr ps k = false) := Lib.hid (by rw [HSU.out]; unfold suB ge0 le0; rw [h0]; simp)
        have HE := Lib.hid (pbN_miss HFk.out)
        clear HSU HFk
        generalize pbN (suL li gr ps) k = ac at *
        go_wp2
        go_roundw
        case rel => exact ⟨k + 1, by omega, by go_num, by rw [HE.out], hbx⟩
        case measure => simp [intOf]; omega
      · have HFk : Hid (suL li gr ps k = false) := Lib.hid (by rw [HSU.out]; unfold suB ge0 le0; rw [h0]; simp)
        have HE := Lib.hid (pbN_miss HFk.out)
        clear HSU HFk
        generalize pbN (suL li gr ps) k = ac at *
        go_wp2
        go_roundw
        case rel => exact ⟨k + 1, by omega, by go_num, by rw [HE.out], hbx⟩
        case measure => simp [intOf]; omega
      · rcases h1 : FloatKind.f32.format.order li x.2.1 with _ | (_ | _ | _)
        · have HFk : Hid (suL li gr ps k = false) := Lib.hid (by rw [HSU.out]; unfold suB ge0 le0; rw [h0]; rw [h1]; simp)
          have HE := Lib.hid (pbN_miss HFk.out)
          clear HSU HFk
          generalize pbN (suL li gr ps) k = ac at *
          go_wp2
          go_roundw
          case rel => exact ⟨k + 1, by omega, by go_num, by rw [HE.out], hbx⟩
          case measure => simp [intOf]; omega
        · rcases h2 : FloatKind.f32.format.order gr x.2.2 with _ | (_ | _ | _)
          · have HFk : Hid (suL li gr ps k = false) := Lib.hid (by rw [HSU.out]; unfold suB ge0 le0; rw [h0]; rw [h1]; rw [h2]; simp)
            have HE := Lib.hid (pbN_miss HFk.out)
            clear HSU HFk
            generalize pbN (suL li gr ps) k = ac at *
            go_wp2
            go_roundw
            case rel => exact ⟨k + 1, by omega, by go_num, by rw [HE.out], hbx⟩
            case measure => simp [intOf]; omega
          · have HFk : Hid (suL li gr ps k = true) := Lib.hid (by rw [HSU.out]; unfold suB ge0 le0; rw [h0]; rw [h1]; rw [h2]; simp)
            have HE := Lib.hid (pbN_hit HFk.out)
            clear HSU HFk
            generalize pbN (suL li gr ps) k = ac at *
            go_wp2
            go_roundw
            case rel => exact ⟨k + 1, by omega, by go_num, by rw [HE.out], hbx⟩
            case measure => simp [intOf]; omega
          · have HFk : Hid (suL li gr ps k = true) := Lib.hid (by rw [HSU.out]; unfold suB ge0 le0; rw [h0]; rw [h1]; rw [h2]; simp)
            have HE := Lib.hid (pbN_hit HFk.out)
            clear HSU HFk
            generalize pbN (suL li gr ps) k = ac at *
            go_wp2
            go_roundw
            case rel => exact ⟨k + 1, by omega, by go_num, by rw [HE.out], hbx⟩
            case measure => simp [intOf]; omega
          · have HFk : Hid (suL li gr ps k = false) := Lib.hid (by rw [HSU.out]; unfold suB ge0 le0; rw [h0]; rw [h1]; rw [h2]; simp)
            have HE := Lib.hid (pbN_miss HFk.out)
            clear HSU HFk
            generalize pbN (suL li gr ps) k = ac at *
            go_wp2
            go_roundw
            case rel => exact ⟨k + 1, by omega, by go_num, by rw [HE.out], hbx⟩
            case measure => simp [intOf]; omega
        · rcases h2 : FloatKind.f32.format.order gr x.2.2 with _ | (_ | _ | _)
          · have HFk : Hid (suL li gr ps k = false) := Lib.hid (by rw [HSU.out]; unfold suB ge0 le0; rw [h0]; rw [h1]; rw [h2]; simp)
            have HE := Lib.hid (pbN_miss HFk.out)
            clear HSU HFk
            generalize pbN (suL li gr ps) k = ac at *
            go_wp2
            go_roundw
            case rel => exact ⟨k + 1, by omega, by go_num, by rw [HE.out], hbx⟩
            case measure => simp [intOf]; omega
          · have HFk : Hid (suL li gr ps k = true) := Lib.hid (by rw [HSU.out]; unfold suB ge0 le0; rw [h0]; rw [h1]; rw [h2]; simp)
            have HE := Lib.hid (pbN_hit HFk.out)
            clear HSU HFk
            generalize pbN (suL li gr ps) k = ac at *
            go_wp2
            go_roundw
            case rel => exact ⟨k + 1, by omega, by go_num, by rw [HE.out], hbx⟩
            case measure => simp [intOf]; omega
          · have HFk : Hid (suL li gr ps k = true) := Lib.hid (by rw [HSU.out]; unfold suB ge0 le0; rw [h0]; rw [h1]; rw [h2]; simp)
            have HE := Lib.hid (pbN_hit HFk.out)
            clear HSU HFk
            generalize pbN (suL li gr ps) k = ac at *
            go_wp2
            go_roundw
            case rel => exact ⟨k + 1, by omega, by go_num, by rw [HE.out], hbx⟩
            case measure => simp [intOf]; omega
          · have HFk : Hid (suL li gr ps k = false) := Lib.hid (by rw [HSU.out]; unfold suB ge0 le0; rw [h0]; rw [h1]; rw [h2]; simp)
            have HE := Lib.hid (pbN_miss HFk.out)
            clear HSU HFk
            generalize pbN (suL li gr ps) k = ac at *
            go_wp2
            go_roundw
            case rel => exact ⟨k + 1, by omega, by go_num, by rw [HE.out], hbx⟩
            case measure => simp [intOf]; omega
        · have HFk : Hid (suL li gr ps k = false) := Lib.hid (by rw [HSU.out]; unfold suB ge0 le0; rw [h0]; rw [h1]; simp)
          have HE := Lib.hid (pbN_miss HFk.out)
          clear HSU HFk
          generalize pbN (suL li gr ps) k = ac at *
          go_wp2
          go_roundw
          case rel => exact ⟨k + 1, by omega, by go_num, by rw [HE.out], hbx⟩
          case measure => simp [intOf]; omega
      · rcases h1 : FloatKind.f32.format.order li x.2.1 with _ | (_ | _ | _)
        · have HFk : Hid (suL li gr ps k = false) := Lib.hid (by rw [HSU.out]; unfold suB ge0 le0; rw [h0]; rw [h1]; simp)
          have HE := Lib.hid (pbN_miss HFk.out)
          clear HSU HFk
          generalize pbN (suL li gr ps) k = ac at *
          go_wp2
          go_roundw
          case rel => exact ⟨k + 1, by omega, by go_num, by rw [HE.out], hbx⟩
          case measure => simp [intOf]; omega
        · rcases h2 : FloatKind.f32.format.order gr x.2.2 with _ | (_ | _ | _)
          · have HFk : Hid (suL li gr ps k = false) := Lib.hid (by rw [HSU.out]; unfold suB ge0 le0; rw [h0]; rw [h1]; rw [h2]; simp)
            have HE := Lib.hid (pbN_miss HFk.out)
            clear HSU HFk
            generalize pbN (suL li gr ps) k = ac at *
            go_wp2
            go_roundw
            case rel => exact ⟨k + 1, by omega, by go_num, by rw [HE.out], hbx⟩
            case measure => simp [intOf]; omega
          · have HFk : Hid (suL li gr ps k = true) := Lib.hid (by rw [HSU.out]; unfold suB ge0 le0; rw [h0]; rw [h1]; rw [h2]; simp)
            have HE := Lib.hid (pbN_hit HFk.out)
            clear HSU HFk
            generalize pbN (suL li gr ps) k = ac at *
            go_wp2
            go_roundw
            case rel => exact ⟨k + 1, by omega, by go_num, by rw [HE.out], hbx⟩
            case measure => simp [intOf]; omega
          · have HFk : Hid (suL li gr ps k = true) := Lib.hid (by rw [HSU.out]; unfold suB ge0 le0; rw [h0]; rw [h1]; rw [h2]; simp)
            have HE := Lib.hid (pbN_hit HFk.out)
            clear HSU HFk
            generalize pbN (suL li gr ps) k = ac at *
            go_wp2
            go_roundw
            case rel => exact ⟨k + 1, by omega, by go_num, by rw [HE.out], hbx⟩
            case measure => simp [intOf]; omega
          · have HFk : Hid (suL li gr ps k = false) := Lib.hid (by rw [HSU.out]; unfold suB ge0 le0; rw [h0]; rw [h1]; rw [h2]; simp)
            have HE := Lib.hid (pbN_miss HFk.out)
            clear HSU HFk
            generalize pbN (suL li gr ps) k = ac at *
            go_wp2
            go_roundw
            case rel => exact ⟨k + 1, by omega, by go_num, by rw [HE.out], hbx⟩
            case measure => simp [intOf]; omega
        · rcases h2 : FloatKind.f32.format.order gr x.2.2 with _ | (_ | _ | _)
          · have HFk : Hid (suL li gr ps k = false) := Lib.hid (by rw [HSU.out]; unfold suB ge0 le0; rw [h0]; rw [h1]; rw [h2]; simp)
            have HE := Lib.hid (pbN_miss HFk.out)
            clear HSU HFk
            generalize pbN (suL li gr ps) k = ac at *
            go_wp2
            go_roundw
            case rel => exact ⟨k + 1, by omega, by go_num, by rw [HE.out], hbx⟩
            case measure => simp [intOf]; omega
          · have HFk : Hid (suL li gr ps k = true) := Lib.hid (by rw [HSU.out]; unfold suB ge0 le0; rw [h0]; rw [h1]; rw [h2]; simp)
            have HE := Lib.hid (pbN_hit HFk.out)
            clear HSU HFk
            generalize pbN (suL li gr ps) k = ac at *
            go_wp2
            go_roundw
            case rel => exact ⟨k + 1, by omega, by go_num, by rw [HE.out], hbx⟩
            case measure => simp [intOf]; omega
          · have HFk : Hid (suL li gr ps k = true) := Lib.hid (by rw [HSU.out]; unfold suB ge0 le0; rw [h0]; rw [h1]; rw [h2]; simp)
            have HE := Lib.hid (pbN_hit HFk.out)
            clear HSU HFk
            generalize pbN (suL li gr ps) k = ac at *
            go_wp2
            go_roundw
            case rel => exact ⟨k + 1, by omega, by go_num, by rw [HE.out], hbx⟩
            case measure => simp [intOf]; omega
          · have HFk : Hid (suL li gr ps k = false) := Lib.hid (by rw [HSU.out]; unfold suB ge0 le0; rw [h0]; rw [h1]; rw [h2]; simp)
            have HE := Lib.hid (pbN_miss HFk.out)
            clear HSU HFk
            generalize pbN (suL li gr ps) k = ac at *
            go_wp2
            go_roundw
            case rel => exact ⟨k + 1, by omega, by go_num, by rw [HE.out], hbx⟩
            case measure => simp [intOf]; omega
        · have HFk : Hid (suL li gr ps k = false) := Lib.hid (by rw [HSU.out]; unfold suB ge0 le0; rw [h0]; rw [h1]; simp)
          have HE := Lib.hid (pbN_miss HFk.out)
          clear HSU HFk
          generalize pbN (suL li gr ps) k = ac at *
          go_wp2
          go_roundw
          case rel => exact ⟨k + 1, by omega, by go_num, by rw [HE.out], hbx⟩
          case measure => simp [intOf]; omega
    · obtain rfl : k = n := by omega
      go_wp2
      go_ret
      exact ⟨rfl, hbx⟩

end Go.Proofs.YtckkemknajggpaaGreatDoor

namespace Go.Proofs.YtckkemknajggpaaGreatDoor
open Go.RowKit

attribute [local go_sem] run_store_f

theorem wpList_buildRR {P : Program} {ops : Array Oper} {rest : List Oper} {o : Oper} {a : Act} {w : World} {Q : Exit → Act → World → Prop} (hg : o.guard = none) (t : TypeId) (parts : Array (Nat × Operand)) (ho : o.op = .build t parts)
    (d : Option Tmp) (hd : o.dst = d) (l : List (Nat × Value)) (hp : parts.toList.map (fun x => (x.1, a.eval x.2)) = l) (cells : Array Value) (hf : P.built t l = some cells)
    (h : wpList P ops Q rest (a.put d (.agg cells)) w) : wpList P ops Q (o :: rest) a w := by
  refine wpList_buildTo hg t parts ho d hd cells ?_ h
  rw [Array.toList_map, ← hf, ← hp]

theorem built_room (a b : Int) (v : Option Addr) (n c : Nat) : Tryz.prog.built 36 [(0, .int .i8 a), (1, .int .i8 b), (2, .slice v n c)] = some (roomC a b (.slice v n c)) := by kernel_rfl

theorem built_room0 : Tryz.prog.built 36 [] = some (roomC 0 0 (.slice none 0 0)) := by kernel_rfl

theorem room_oneS (wd hg : Int) (a : Option Addr) (n c : Nat) : ∀ u ∈ roomC wd hg (.slice a n c), u.oneCell' = true := by
  intro u hu
  simp only [roomC, List.mem_toArray, List.mem_cons, List.not_mem_nil, or_false] at hu
  rcases hu with rfl | rfl | rfl <;> rfl

theorem rwZ (V : World) (o : Obj) (cs : Array Value) : Below V.heap.size V ((V.alloc o).setRow V.heap.size cs) := below_setRow ((Below.refl _ _).alloc (Nat.le_refl _) _) (Nat.le_refl _) _

end Go.Proofs.YtckkemknajggpaaGreatDoor

namespace Go.Proofs.YtckkemknajggpaaGreatDoor
open Go.ChangeShapes Go.WideShapes Go.ChangeAt Go.RowKit Go.Deep Go.Joins

attribute [local go_sem] run_store_f

/-- Windows that lie at the head of a block of the call's own. -/
def OwnV (w : World) (b : Nat) (v : Value) (ws : List Wn) : Prop :=
  ∃ g cap cur, v = .slice (some ⟨g, 0, none⟩) ws.length cap ∧ b ≤ g ∧ w.heap[g]? = some (.cells cur 91 (0, 0)) ∧ ws.length ≤ cap ∧ cap ≤ maxLen ∧ ws.length * 3 ≤ cur.size ∧ ∀ k x, ws[k]? = some x → cur.extract (k * 3) (k * 3 + 3) = winC x

theorem ownV_below {w w' : World} {b B : Nat} {v : Value} {ws : List Wn} (h : OwnV w b v ws) (hb : Below w.heap.size w w') (hB : B ≤ b) : OwnV w' B v ws := by
  obtain ⟨g, cap, cur, h1, h2, h3, h4, h5, h6, h7⟩ := h
  exact ⟨g, cap, cur, h1, by omega, below_row hb h3, h4, h5, h6, h7⟩

theorem ownV_at {w : World} {b : Nat} {v : Value} {ws : List Wn} (h : OwnV w b v ws) : WinsAt w v ws := by
  obtain ⟨g, cap, cur, rfl, h2, h3, h4, h5, h6, h7⟩ := h
  refine ⟨_, _, rfl, h4, h5, fun k x hx => ⟨g, 0, rfl, ?_, ?_, ?_⟩⟩
  all_goals
    have hk : k < ws.length := (List.getElem?_eq_some_iff.1 hx).1
    have he := h7 k x hx
    rw [cell_of_row w _ _ _ _ _ h3]
  · have : (cur.extract (k * 3) (k * 3 + 3))[0]? = some (.int .i8 x.1) := by rw [he]; rfl
    rw [Array.getElem?_extract] at this
    split at this
    · simpa using this
    · cases this
  · have : (cur.extract (k * 3) (k * 3 + 3))[1]? = some (.int .i8 x.2.1) := by rw [he]; rfl
    rw [Array.getElem?_extract] at this
    split at this
    · simpa using this
    · cases this
  · have : (cur.extract (k * 3) (k * 3 + 3))[2]? = some (.float .f32 x.2.2) := by rw [he]; rfl
    rw [Array.getElem?_extract] at this
    split at this
    · simpa using this
    · cases this

theorem cur_one {ws : List Wn} {cur : Array Value} (hs : cur.size = ws.length * 3) (h : ∀ k x, ws[k]? = some x → cur.extract (k * 3) (k * 3 + 3) = winC x) : ∀ u ∈ cur.toList, u.oneCell' = true := by
  intro u hu
  obtain ⟨j, hj⟩ := List.mem_iff_getElem?.1 hu
  rw [Array.getElem?_toList] at hj
  have hjl := (Array.getElem?_eq_some_iff.1 hj).1
  have hk : j / 3 < ws.length := by omega
  have hx : ws[j / 3]? = some (ws[j / 3]'hk) := List.getElem?_eq_getElem _
  have he := h _ _ hx
  have hm : (cur.extract (j / 3 * 3) (j / 3 * 3 + 3))[j % 3]? = some u := by
    rw [Array.getElem?_extract, if_pos (by omega)]
    rw [show j / 3 * 3 + j % 3 = j from by omega]
    exact hj
  rw [he] at hm
  exact win_one _ u (Array.mem_of_getElem? hm)

theorem run_store_rowR {P : Program} (w : World) (g : Nat) (t : TypeId) (vs old : Array Value) (hg : w.heap[g]? = some (.cells old t (0, 0))) (hs : old.size = vs.size) (h1 : ∀ v ∈ vs, v.oneCell' = true) :
    (storeCells ⟨g, 0, none⟩ vs.toList).run P w = .ok () (w.setRow g vs) := by
  have hst := run_storeCells_at P g 0 t vs.toList 0 old w hg (by simp; omega) (fun v hv => h1 v (by simpa using hv))
  have hl := laid_allr old vs hs
  unfold laid at hl
  simp only [Nat.add_zero] at hst
  rw [hst]
  simp at hl ⊢
  rw [hl]

theorem infoW3 : (Tryz.prog.info? 91).map (fun i => (i.zero, i.size, i.bytes)) = some (some (.agg #[.int .i8 0, .int .i8 0, .float .f32 0]), 3, 8) := by kernel_rfl

end Go.Proofs.YtckkemknajggpaaGreatDoor

namespace Go.Proofs.YtckkemknajggpaaGreatDoor
open Go.ChangeShapes Go.WideShapes Go.ChangeAt Go.RowKit Go.Deep Go.Joins

theorem run_store_flR (P : Program) (w : World) (a : Addr) (k : FloatKind) (b : Nat) (m : Mode) : (store a (.float k b) m).run P w = stored P w a (.float k b) m := run_store P w a _ m rfl

attribute [local go_sem] run_store_f run_store_flR

theorem mark_num_natR : ∀ n : Nat, n < 601 → floatOfInt .f32 (n : Int) < 2139095040 := by decide +kernel

theorem mark_orderR (j : Int) (h0 : 0 ≤ j) (h1 : j ≤ 600) : FloatKind.f32.format.order (floatOfInt .f32 j) (floatOfInt .f32 j) = some .eq := by
  obtain ⟨n, rfl⟩ := Int.eq_ofNat_of_zero_le h0
  have h := mark_num_natR n (by omega)
  rw [order_num (.inl h) (.inl h)]
  simp

theorem cell_kR {W : World} {g k : Nat} {cur : Array Value} {T : TypeId} {x : Value} (hg : W.heap[g]? = some (.cells cur T (0, 0))) (hk : cur[k]? = some x) : W.cell? ⟨g, k, none⟩ = some x := by
  rw [cell_of_row W _ _ _ _ _ hg]; exact hk

theorem sgo {cur : Array Value} {i j : Nat} {v : Value} (h : i ≠ j) : (cur.setIfInBounds i v)[j]? = cur[j]? := by rw [Array.getElem?_setIfInBounds, if_neg h]

theorem sgs {cur : Array Value} {i : Nat} {v : Value} (h : i < cur.size) : (cur.setIfInBounds i v)[i]? = some v := by rw [Array.getElem?_setIfInBounds, if_pos rfl, if_pos h]

/-- Marks in the first windows of a row. -/
def Mk3 (cur : Array Value) (n : Nat) : Prop := ∀ j, j < n → cur[j * 3]? = some (.int .i8 (IntKind.i8.wrap (1 + 3 * (j : Int)))) ∧ cur[j * 3 + 1]? = some (.int .i8 (IntKind.i8.wrap (1 + 3 * (j : Int) + 1))) ∧ cur[j * 3 + 2]? = some (.float .f32 (floatOfInt .f32 (1 + 3 * (j : Int) + 1 + 1)))

/-- All rows but one are as they were. -/
def KeptBut (w wr : World) (v : Value) : Prop := ∀ j cs T fr, w.heap[j]? = some (.cells cs T fr) → Value.ownBlock v ≠ some j → wr.heap[j]? = some (.cells cs T fr)

theorem keptBut_refl (w : World) (v : Value) : KeptBut w w v := fun _ _ _ _ h _ => h

theorem keptBut_trans {w w1 w2 : World} {v : Value} (h1 : KeptBut w w1 v) (h2 : KeptBut w1 w2 v) : KeptBut w w2 v := fun j cs T fr h hn => h2 j cs T fr (h1 j cs T fr h hn) hn

theorem keptBut_below {w w1 : World} {v : Value} (h : Below w.heap.size w w1) : KeptBut w w1 v := fun _ _ _ _ hr _ => below_row h hr

theorem keptBut_set {w : World} {g i : Nat} {n c : Nat} (x : Value) : KeptBut w (w.setCell ⟨g, i, none⟩ x) (.slice (some ⟨g, 0, none⟩) n c) := fun j cs T fr h hn => by
  rw [heap_setCell_other _ _ _ _ (by intro e; exact hn (by rw [e]; rfl))]
  exact h

def MkW (w : World) (b g n cap : Nat) (wr : World) : Prop := Below b w wr ∧ KeptBut w wr (.slice (some ⟨g, 0, none⟩) n cap) ∧ ∃ cur : Array Value, wr.heap[g]? = some (.cells cur 91 (0, 0)) ∧ n * 3 ≤ cur.size ∧ Mk3 cur n

set_option maxRecDepth 100000 in
set_option maxHeartbeats 4000000 in
theorem markWinS_any (b g n cap : Nat) (hn : n ≤ 1048576) (cur0 : Array Value) (w : World) (hg : w.heap[g]? = some (.cells cur0 91 (0, 0))) (hs : n * 3 ≤ cur0.size) (hbg : b ≤ g) :
    Calls Tryz.prog 34 #[.slice (some ⟨g, 0, none⟩) n cap, .int .i64 1] w fun e w' => e = .returned (.int .i64 (1 + 3 * (n : Int))) ∧ MkW w b g n cap w' := by
  have HG0 := Lib.hid hg
  clear hg
  go_enter Tryz.func34, Tryz.ntmps34
  go_wp2
  go_loopw [1, 5] (fun q i wr => ∃ (k : Nat) (q' : Int), k ≤ n ∧ i = .int .i64 k ∧ q' = 1 + 3 * (k : Int) ∧ q = .int .i64 q' ∧ Below b w wr ∧ KeptBut w wr (.slice (some ⟨g, 0, none⟩) n cap) ∧ ∃ cur : Array Value, wr.heap[g]? = some (.cells cur 91 (0, 0)) ∧ n * 3 ≤ cur.size ∧ Mk3 cur k) (fun _ i _ => n - (intOf i).toNat)
  case atStart => exact ⟨0, 1, Nat.zero_le _, rfl, rfl, rfl, Below.refl _ _, keptBut_refl _ _, cur0, HG0.out, hs, fun j h => by omega⟩
  case round =>
    clear HG0 hs
    obtain ⟨k, q, hk, rfl, hq, rfl, hb, hot, cur, hg, hs, hp⟩ := hrel
    have Hp := Lib.hid hp
    have HG := Lib.hid hg
    have Hot := Lib.hid hot
    have HB := Lib.hid hb
    have HQ := Lib.hid hq
    by_cases hlt : k < n
    · have z0 : (0 : Int) ≤ (k : Int) := by omega
      have z1 : (k : Int) < (n : Int) := by omega
      have hks : k * 3 + 3 ≤ cur.size := by omega
      have hw1 : IntKind.i64.wrap (q + 1) = q + 1 := by rw [IntWalk.i64_in _ (by omega)]
      have hw2 : IntKind.i64.wrap (q + 1 + 1) = q + 1 + 1 := by rw [IntWalk.i64_in _ (by omega)]
      have hw3 : IntKind.i64.wrap (q + 1 + 1 + 1) = q + 1 + 1 + 1 := by rw [IntWalk.i64_in _ (by omega)]
      clear hp hg hot hb hq
      obtain ⟨hin, q1, q2⟩ : k * 3 < cur.size ∧ wr.cell? ⟨g, k * 3, none⟩ = some (cur[k * 3]'(by first | omega | (simp; omega))) ∧ wr.frozen? ⟨g, k * 3, none⟩ = false := ⟨by first | omega | (simp; omega), cell_kR HG.out (Array.getElem?_eq_getElem _), frozen_of_row wr g (k * 3) _ _ HG.out⟩
      clear hin
      go_upto_region 6 with (fail)
      refine abs_world (fun X => X.heap[g]? = some (.cells (cur.setIfInBounds (k * 3) (.int .i8 (IntKind.i8.wrap q))) 91 (0, 0)) ∧ KeptBut w X (.slice (some ⟨g, 0, none⟩) n cap) ∧ Below b w X) ⟨heap_setCell_same _ _ _ _ _ _ HG.out, keptBut_trans Hot.out (keptBut_set _), HB.out.setCell (p := ⟨g, k * 3, none⟩) hbg _⟩ ?_
      clear HG Hot HB q1 q2
      rintro X1 ⟨hgx, hotx, hbx⟩
      have HG := Lib.hid hgx
      have Hot := Lib.hid hotx
      have HB := Lib.hid hbx
      clear hgx hotx hbx
      obtain ⟨hin, q1, q2⟩ : k * 3 + 1 < (cur.setIfInBounds (k * 3) (.int .i8 (IntKind.i8.wrap q))).size ∧ X1.cell? ⟨g, k * 3 + 1, none⟩ = some ((cur.setIfInBounds (k * 3) (.int .i8 (IntKind.i8.wrap q)))[k * 3 + 1]'(by first | omega | (simp; omega))) ∧ X1.frozen? ⟨g, k * 3 + 1, none⟩ = false := ⟨by first | omega | (simp; omega), cell_kR HG.out (Array.getElem?_eq_getElem _), frozen_of_row X1 g (k * 3 + 1) _ _ HG.out⟩
      clear hin
      go_upto_region 8 with (fail)
      refine abs_world (fun X => X.heap[g]? = some (.cells ((cur.setIfInBounds (k * 3) (.int .i8 (IntKind.i8.wrap q))).setIfInBounds (k * 3 + 1) (.int .i8 (IntKind.i8.wrap (q + 1)))) 91 (0, 0)) ∧ KeptBut w X (.slice (some ⟨g, 0, none⟩) n cap) ∧ Below b w X) ⟨heap_setCell_same _ _ _ _ _ _ HG.out, keptBut_trans Hot.out (keptBut_set _), HB.out.setCell (p := ⟨g, k * 3 + 1, none⟩) hbg _⟩ ?_
      clear HG Hot HB q1 q2
      rintro X2 ⟨hgx, hotx, hbx⟩
      have HG := Lib.hid hgx
      have Hot := Lib.hid hotx
      have HB := Lib.hid hbx
      clear hgx hotx hbx
      obtain ⟨hin, q1, q2⟩ : k * 3 + 2 < ((cur.setIfInBounds (k * 3) (.int .i8 (IntKind.i8.wrap q))).setIfInBounds (k * 3 + 1) (.int .i8 (IntKind.i8.wrap (q + 1)))).size ∧ X2.cell? ⟨g, k * 3 + 2, none⟩ = some (((cur.setIfInBounds (k * 3) (.int .i8 (IntKind.i8.wrap q))).setIfInBounds (k * 3 + 1) (.int .i8 (IntKind.i8.wrap (q + 1))))[k * 3 + 2]'(by first | omega | (simp; omega))) ∧ X2.frozen? ⟨g, k * 3 + 2, none⟩ = false := ⟨by first | omega | (simp; omega), cell_kR HG.out (Array.getElem?_eq_getElem _), frozen_of_row X2 g (k * 3 + 2) _ _ HG.out⟩
      clear hin
      go_upto_region 9 with (fail)
      refine abs_world (fun X => X.heap[g]? = some (.cells (((cur.setIfInBounds (k * 3) (.int .i8 (IntKind.i8.wrap q))).setIfInBounds (k * 3 + 1) (.int .i8 (IntKind.i8.wrap (q + 1)))).setIfInBounds (k * 3 + 2) (.float .f32 (floatOfInt .f32 (q + 1 + 1)))) 91 (0, 0)) ∧ KeptBut w X (.slice (some ⟨g, 0, none⟩) n cap) ∧ Below b w X) ⟨heap_setCell_same _ _ _ _ _ _ HG.out, keptBut_trans Hot.out (keptBut_set _), HB.out.setCell (p := ⟨g, k * 3 + 2, none⟩) hbg _⟩ ?_
      clear HG Hot HB q1 q2
      rintro X3 ⟨hgx, hotx, hbx⟩
      have HG := Lib.hid hgx
      have Hot := Lib.hid hotx
      have HB := Lib.hid hbx
      clear hgx hotx hbx
      go_wp2
      go_roundw
      case rel =>
        have hq := HQ.out
        refine ⟨k + 1, q + 1 + 1 + 1, by omega, by go_num, by omega, by first | trivial | rfl, HB.out, Hot.out, _, HG.out, by simp; omega, fun j hj => ?_⟩
        by_cases e : j = k
        · subst e
          rw [← hq]
          refine ⟨?_, ?_, ?_⟩
          · rw [sgo (by omega), sgo (by omega), sgs (by omega)]
          · rw [sgo (by omega), sgs (by simp; omega)]
          · rw [sgs (by simp; omega)]
        · obtain ⟨a1, a2, a3⟩ := Hp.out j (by omega)
          refine ⟨?_, ?_, ?_⟩
          · rw [sgo (by omega), sgo (by omega), sgo (by omega)]; exact a1
          · rw [sgo (by omega), sgo (by omega), sgo (by omega)]; exact a2
          · rw [sgo (by omega), sgo (by omega), sgo (by omega)]; exact a3
      case measure => simp [intOf]; omega
    · obtain rfl : k = n := by omega
      clear hp hg hot hb hq
      go_wp2
      go_ret
      exact ⟨by rw [HQ.out]; rfl, HB.out, Hot.out, cur, HG.out, hs, Hp.out⟩

set_option maxRecDepth 100000 in
set_option maxHeartbeats 4000000 in
theorem markWinS_nil (w : World) : Calls Tryz.prog 34 #[.slice none 0 0, .int .i64 1] w fun e w' => e = .returned (.int .i64 1) ∧ w = w' := by
  go_enter Tryz.func34, Tryz.ntmps34
  go_wp2
  go_loopw [1, 5] (fun q i wr => q = .int .i64 1 ∧ i = .int .i64 0 ∧ wr = w) (fun _ _ _ => 0)
  case atStart => exact ⟨rfl, rfl, rfl⟩
  case round =>
    obtain ⟨rfl, rfl, rfl⟩ := hrel
    go_wp2
    go_ret
    exact ⟨rfl, rfl⟩

/-- Windows of the call's own, or none. -/
def OwnQ (w : World) (lo : Nat) (v : Value) (ws : List Wn) : Prop := (v = .slice none 0 0 ∧ ws = []) ∨ OwnV w lo v ws

/-- Marked windows, or none. -/
def MarkedQ (w : World) (v : Value) (n : Nat) : Prop := (v = .slice none 0 0 ∧ n = 0) ∨ ∃ g cap cur, v = .slice (some ⟨g, 0, none⟩) n cap ∧ w.heap[g]? = some (.cells cur 91 (0, 0)) ∧ Mk3 cur n

theorem ownQ_rng {w : World} {lo : Nat} {v : Value} {ws : List Wn} (h : OwnQ w lo v ws) : ∀ j, Value.ownBlock v = some j → lo ≤ j ∧ j < w.heap.size := by
  intro j hj
  rcases h with ⟨rfl, _⟩ | ⟨g, cap, cur, rfl, h2, h3, _⟩
  · cases hj
  · have : g = j := by simpa [Value.ownBlock] using hj
    subst this
    exact ⟨h2, row_lt h3⟩

theorem ownQ_at {w : World} {lo : Nat} {v : Value} {ws : List Wn} (h : OwnQ w lo v ws) : WinsAt w v ws := by
  rcases h with ⟨rfl, rfl⟩ | h
  · exact ⟨none, 0, rfl, Nat.le_refl _, by unfold maxLen; omega, fun i x hx => by simp at hx⟩
  · exact ownV_at h

theorem ownQ_below {w w' : World} {lo : Nat} {v : Value} {ws : List Wn} (h : OwnQ w lo v ws) (hb : Below w.heap.size w w') : OwnQ w' lo v ws := by
  rcases h with h | h
  · exact .inl h
  · exact .inr (ownV_below h hb (Nat.le_refl _))

theorem ownQ_keep {w w' : World} {lo : Nat} {v v' : Value} {ws : List Wn} (h : OwnQ w lo v ws) (hk : KeptBut w w' v') (hn : ∀ j, Value.ownBlock v = some j → Value.ownBlock v' ≠ some j) : OwnQ w' lo v ws := by
  rcases h with h | ⟨g, cap, cur, rfl, h2, h3, h4⟩
  · exact .inl h
  · exact .inr ⟨g, cap, cur, rfl, h2, hk g cur _ _ h3 (hn g rfl), h4⟩

theorem ownQ_ofW {w : World} {lo : Nat} {v : Value} {ws : List Wn} (h : OwnW w lo v ws) : OwnQ w lo v ws := by
  obtain ⟨g, cur, rfl, h2, h3, h4, h5, h6⟩ := h
  exact .inr ⟨g, ws.length, cur, rfl, h2, h3, Nat.le_refl _, by unfold maxLen; omega, by omega, h6⟩

theorem markedQ_keep {w w' : World} {v v' : Value} {n : Nat} (h : MarkedQ w v n) (hk : KeptBut w w' v') (hn : ∀ j, Value.ownBlock v = some j → Value.ownBlock v' ≠ some j) : MarkedQ w' v n := by
  rcases h with h | ⟨g, cap, cur, rfl, h3, h4⟩
  · exact .inl h
  · exact .inr ⟨g, cap, cur, rfl, hk g cur _ _ h3 (hn g rfl), h4⟩

theorem markedQ_below {w w' : World} {v : Value} {n : Nat} (h : MarkedQ w v n) (hb : Below w.heap.size w w') : MarkedQ w' v n := markedQ_keep (v' := .slice none 0 0) h (keptBut_below hb) (fun j _ h => by cases h)

set_option maxRecDepth 100000 in
set_option maxHeartbeats 4000000 in
theorem markRoomQ (wd hg : Int) (b : Nat) (v : Value) (ws : List Wn) (hlen : ws.length ≤ 1048576) (w : World) (h : OwnQ w b v ws) :
    Calls Tryz.prog 16 #[.agg (roomC wd hg v), .int .i64 1] w fun e w' => e = .returned (.int .i64 (1 + 3 * (ws.length : Int))) ∧ MarkedQ w' v ws.length ∧ KeptBut w w' v ∧ (b ≤ w.heap.size → Below b w w') := by
  rcases h with ⟨rfl, rfl⟩ | ⟨g, cap, cur, rfl, h2, h3, h4, h5, h6, h7⟩
  · go_enter Tryz.func16, Tryz.ntmps16
    go_upto_region 1 with (fail)
    refine abs_world (fun W => W.heap[w.heap.size]? = some (.cells (roomC wd hg (.slice none 0 0)) 36 (0, 0)) ∧ Below w.heap.size w W) ⟨heap_alloc_new _ _, (Below.refl _ _).alloc (Nat.le_refl _) _⟩ ?_
    rintro W ⟨h0, hb⟩
    obtain ⟨-, -, r2⟩ := room_cells h0
    clear h0
    go_wp2_with (go_at_call 34; refine (markWinS_nil _).mono ?_; rintro e w1 ⟨rfl, rfl⟩)
    go_ret
    exact ⟨rfl, .inl ⟨rfl, rfl⟩, keptBut_below hb, fun h => hb.mono h⟩
  · generalize ws.length = n at *
    have hgl := row_lt h3
    have HM := Lib.hid (fun W (h : W.heap[g]? = some (.cells cur 91 (0, 0))) => markWinS_any b g n cap hlen cur W h h6 h2)
    have HR := Lib.hid h3
    clear h3 h7
    go_enter Tryz.func16, Tryz.ntmps16
    go_upto_region 1 with (fail)
    refine abs_world (fun W => W.heap[w.heap.size]? = some (.cells (roomC wd hg (.slice (some ⟨g, 0, none⟩) n cap)) 36 (0, 0)) ∧ Below w.heap.size w W) ⟨heap_alloc_new _ _, (Below.refl _ _).alloc (Nat.le_refl _) _⟩ ?_
    rintro W ⟨h0, hb⟩
    obtain ⟨-, -, r2⟩ := room_cells h0
    have HMW := Lib.hid (HM.out W (below_row hb HR.out))
    clear h0 HM
    go_wp2_with (go_at_call 34; refine HMW.out.mono ?_; rintro e W1 ⟨rfl, hb1, hkb, cur', hg', hs', hm'⟩)
    go_ret
    exact ⟨rfl, .inr ⟨g, cap, cur', rfl, hg', hm'⟩, keptBut_trans (keptBut_below hb) hkb, fun h => (hb.mono h).trans hb1⟩

end Go.Proofs.YtckkemknajggpaaGreatDoor

namespace Go.Proofs.YtckkemknajggpaaGreatDoor
open Go.RowKit

/-- The block of a list lies below B, or from B on. -/
def Under (v : Value) (B : Nat) : Prop := ∀ g n c, v = .slice (some ⟨g, 0, none⟩) n c → g < B

def Above (v : Value) (B : Nat) : Prop := ∀ g n c, v = .slice (some ⟨g, 0, none⟩) n c → B ≤ g

theorem under_of {α : Type} {w : World} {b : Nat} {E : TypeId} {mk : α → Value} {v : Value} {xs : List α} (h : Own w b E mk v xs) : Under v w.heap.size := by
  obtain ⟨a, c, rfl, _, _, h4⟩ := h
  intro g n c' e
  injection e with e1 e2 e3
  rcases h4 with ⟨ea, _⟩ | ⟨g', cur, ea, _, hc, _⟩
  · rw [ea] at e1; cases e1
  · rw [ea] at e1
    injection e1 with e1
    injection e1 with e1
    subst e1
    exact row_lt hc

theorem above_of {α : Type} {w : World} {b : Nat} {E : TypeId} {mk : α → Value} {v : Value} {xs : List α} (h : Own w b E mk v xs) : Above v b := by
  obtain ⟨a, c, rfl, _, _, h4⟩ := h
  intro g n c' e
  injection e with e1 e2 e3
  rcases h4 with ⟨ea, _⟩ | ⟨g', cur, ea, hb, hc, _⟩
  · rw [ea] at e1; cases e1
  · rw [ea] at e1
    injection e1 with e1
    injection e1 with e1
    subst e1
    exact hb

theorem under_mono {v : Value} {B C : Nat} (h : Under v B) (hBC : B ≤ C) : Under v C := fun g n c e => Nat.lt_of_lt_of_le (h g n c e) hBC

/-- A list is as it was, when another one has been written into. -/
theorem own_marked {α : Type} {w w' : World} {b B : Nat} {E : TypeId} {mk : α → Value} {v v1 : Value} {xs : List α} {m : Int} {n : Nat} {e : Ending} {E1 : TypeId} (h : Own w b E mk v xs) (hu : Under v B) (ha : Above v1 B) (hm : Marked w E1 B v1 m n e w') : Own w' b E mk v xs := by
  obtain ⟨a, c, rfl, h2, h3, h4⟩ := h
  refine ⟨a, c, rfl, h2, h3, h4.imp id ?_⟩
  rintro ⟨g, cur, rfl, hg, hc, hk⟩
  refine ⟨g, cur, rfl, hg, hm.2.2.2 g _ hc ?_, hk⟩
  intro g' n' c' e'
  have h5 := hu g _ _ rfl
  have h6 := ha g' _ _ e'
  omega

theorem row_marked {w w' : World} {B g : Nat} {v1 : Value} {m : Int} {n : Nat} {e : Ending} {E1 : TypeId} {o : Obj} (h : w.heap[g]? = some o) (hg : g < B) (ha : Above v1 B) (hm : Marked w E1 B v1 m n e w') : w'.heap[g]? = some o := by
  refine hm.2.2.2 g o h ?_
  intro g' n' c' e'
  have h6 := ha g' _ _ e'
  omega

/-- A list and a code, the list being the call's own. -/
def RetList (xs : List Int) (c : Int) (w : World) (e : Ending) (w' : World) : Prop := (∃ v, e = .returned (.tuple #[v, .int .i64 c]) ∧ Own w' w.heap.size 2 (Value.int .i64) v xs) ∧ Below w.heap.size w w'

end Go.Proofs.YtckkemknajggpaaGreatDoor

namespace Go.Proofs.YtckkemknajggpaaGreatDoor
open Go.ChangeShapes Go.WideShapes Go.ChangeAt Go.RowKit Go.Deep Go.Joins

attribute [local go_sem] run_store_f run_store_flR

set_option maxRecDepth 100000 in
set_option maxHeartbeats 4000000 in
theorem markDkS_any (b g n cap : Nat) (hn : n ≤ 1048576) (k0 : Int) (l0 : 0 ≤ k0) (l1 : k0 ≤ 40000000) (cur0 : Array Value) (w : World) (hg : w.heap[g]? = some (.cells cur0 65 (0, 0))) (hs : n * 3 ≤ cur0.size) (hbg : b ≤ g) :
    Calls Tryz.prog 17 #[.slice (some ⟨g, 0, none⟩) n cap, .int .i64 k0] w fun e w' => e = .returned (.int .i64 (k0 + 3 * (n : Int))) ∧ Below b w w' ∧ KeptBut w w' (.slice (some ⟨g, 0, none⟩) n cap) := by
  have HG0 := Lib.hid hg
  clear hg
  go_enter Tryz.func17, Tryz.ntmps17
  go_wp2
  go_loopw [1, 5] (fun q i wr => ∃ (k : Nat) (q' : Int), k ≤ n ∧ i = .int .i64 k ∧ q' = k0 + 3 * (k : Int) ∧ q = .int .i64 q' ∧ Below b w wr ∧ KeptBut w wr (.slice (some ⟨g, 0, none⟩) n cap) ∧ ∃ cur : Array Value, wr.heap[g]? = some (.cells cur 65 (0, 0)) ∧ n * 3 ≤ cur.size) (fun _ i _ => n - (intOf i).toNat)
  case atStart => exact ⟨0, k0, Nat.zero_le _, rfl, by simp, rfl, Below.refl _ _, keptBut_refl _ _, cur0, HG0.out, hs⟩
  case round =>
    clear HG0 hs
    obtain ⟨k, q, hk, rfl, hq, rfl, hb, hot, cur, hg, hs⟩ := hrel
    have HG := Lib.hid hg
    have Hot := Lib.hid hot
    have HB := Lib.hid hb
    have HQ := Lib.hid hq
    by_cases hlt : k < n
    · have z0 : (0 : Int) ≤ (k : Int) := by omega
      have z1 : (k : Int) < (n : Int) := by omega
      have hks : k * 3 + 3 ≤ cur.size := by omega
      have hw1 : IntKind.i64.wrap (q + 1) = q + 1 := by rw [IntWalk.i64_in _ (by omega)]
      have hw2 : IntKind.i64.wrap (q + 1 + 1) = q + 1 + 1 := by rw [IntWalk.i64_in _ (by omega)]
      have hw3 : IntKind.i64.wrap (q + 1 + 1 + 1) = q + 1 + 1 + 1 := by rw [IntWalk.i64_in _ (by omega)]
      clear hg hot hb hq
      obtain ⟨hin, q1, q2⟩ : k * 3 < cur.size ∧ wr.cell? ⟨g, k * 3, none⟩ = some (cur[k * 3]'(by first | omega | (simp; omega))) ∧ wr.frozen? ⟨g, k * 3, none⟩ = false := ⟨by first | omega | (simp; omega), cell_kR HG.out (Array.getElem?_eq_getElem _), frozen_of_row wr g (k * 3) _ _ HG.out⟩
      clear hin
      go_upto_region 6 with (fail)
      refine abs_world (fun X => X.heap[g]? = some (.cells (cur.setIfInBounds (k * 3) (.int .i8 (IntKind.i8.wrap q))) 65 (0, 0)) ∧ KeptBut w X (.slice (some ⟨g, 0, none⟩) n cap) ∧ Below b w X) ⟨heap_setCell_same _ _ _ _ _ _ HG.out, keptBut_trans Hot.out (keptBut_set _), HB.out.setCell (p := ⟨g, k * 3, none⟩) hbg _⟩ ?_
      clear HG Hot HB q1 q2
      rintro X1 ⟨hgx, hotx, hbx⟩
      have HG := Lib.hid hgx
      have Hot := Lib.hid hotx
      have HB := Lib.hid hbx
      clear hgx hotx hbx
      obtain ⟨hin, q1, q2⟩ : k * 3 + 1 < (cur.setIfInBounds (k * 3) (.int .i8 (IntKind.i8.wrap q))).size ∧ X1.cell? ⟨g, k * 3 + 1, none⟩ = some ((cur.setIfInBounds (k * 3) (.int .i8 (IntKind.i8.wrap q)))[k * 3 + 1]'(by first | omega | (simp; omega))) ∧ X1.frozen? ⟨g, k * 3 + 1, none⟩ = false := ⟨by first | omega | (simp; omega), cell_kR HG.out (Array.getElem?_eq_getElem _), frozen_of_row X1 g (k * 3 + 1) _ _ HG.out⟩
      clear hin
      go_upto_region 8 with (fail)
      refine abs_world (fun X => X.heap[g]? = some (.cells ((cur.setIfInBounds (k * 3) (.int .i8 (IntKind.i8.wrap q))).setIfInBounds (k * 3 + 1) (.int .i8 (IntKind.i8.wrap (q + 1)))) 65 (0, 0)) ∧ KeptBut w X (.slice (some ⟨g, 0, none⟩) n cap) ∧ Below b w X) ⟨heap_setCell_same _ _ _ _ _ _ HG.out, keptBut_trans Hot.out (keptBut_set _), HB.out.setCell (p := ⟨g, k * 3 + 1, none⟩) hbg _⟩ ?_
      clear HG Hot HB q1 q2
      rintro X2 ⟨hgx, hotx, hbx⟩
      have HG := Lib.hid hgx
      have Hot := Lib.hid hotx
      have HB := Lib.hid hbx
      clear hgx hotx hbx
      obtain ⟨hin, q1, q2⟩ : k * 3 + 2 < ((cur.setIfInBounds (k * 3) (.int .i8 (IntKind.i8.wrap q))).setIfInBounds (k * 3 + 1) (.int .i8 (IntKind.i8.wrap (q + 1)))).size ∧ X2.cell? ⟨g, k * 3 + 2, none⟩ = some (((cur.setIfInBounds (k * 3) (.int .i8 (IntKind.i8.wrap q))).setIfInBounds (k * 3 + 1) (.int .i8 (IntKind.i8.wrap (q + 1))))[k * 3 + 2]'(by first | omega | (simp; omega))) ∧ X2.frozen? ⟨g, k * 3 + 2, none⟩ = false := ⟨by first | omega | (simp; omega), cell_kR HG.out (Array.getElem?_eq_getElem _), frozen_of_row X2 g (k * 3 + 2) _ _ HG.out⟩
      clear hin
      go_upto_region 9 with (fail)
      refine abs_world (fun X => X.heap[g]? = some (.cells (((cur.setIfInBounds (k * 3) (.int .i8 (IntKind.i8.wrap q))).setIfInBounds (k * 3 + 1) (.int .i8 (IntKind.i8.wrap (q + 1)))).setIfInBounds (k * 3 + 2) (.int .i8 (IntKind.i8.wrap (q + 1 + 1)))) 65 (0, 0)) ∧ KeptBut w X (.slice (some ⟨g, 0, none⟩) n cap) ∧ Below b w X) ⟨heap_setCell_same _ _ _ _ _ _ HG.out, keptBut_trans Hot.out (keptBut_set _), HB.out.setCell (p := ⟨g, k * 3 + 2, none⟩) hbg _⟩ ?_
      clear HG Hot HB q1 q2
      rintro X3 ⟨hgx, hotx, hbx⟩
      have HG := Lib.hid hgx
      have Hot := Lib.hid hotx
      have HB := Lib.hid hbx
      clear hgx hotx hbx
      go_wp2
      go_roundw
      case rel =>
        have hq := HQ.out
        exact ⟨k + 1, q + 1 + 1 + 1, by omega, by go_num, by omega, by first | trivial | rfl, HB.out, Hot.out, _, HG.out, by simp; omega⟩
      case measure => simp [intOf]; omega
    · obtain rfl : k = n := by omega
      clear hg hot hb hq
      go_wp2
      go_ret
      exact ⟨by rw [HQ.out]; rfl, HB.out, Hot.out⟩

set_option maxRecDepth 100000 in
set_option maxHeartbeats 4000000 in
theorem markPnS_any (b g n cap : Nat) (hn : n ≤ 1048576) (k0 : Int) (l0 : 0 ≤ k0) (l1 : k0 ≤ 40000000) (cur0 : Array Value) (w : World) (hg : w.heap[g]? = some (.cells cur0 72 (0, 0))) (hs : n * 3 ≤ cur0.size) (hbg : b ≤ g) :
    Calls Tryz.prog 18 #[.slice (some ⟨g, 0, none⟩) n cap, .int .i64 k0] w fun e w' => e = .returned (.int .i64 (k0 + 3 * (n : Int))) ∧ Below b w w' ∧ KeptBut w w' (.slice (some ⟨g, 0, none⟩) n cap) := by
  have HG0 := Lib.hid hg
  clear hg
  go_enter Tryz.func18, Tryz.ntmps18
  go_wp2
  go_loopw [1, 5] (fun q i wr => ∃ (k : Nat) (q' : Int), k ≤ n ∧ i = .int .i64 k ∧ q' = k0 + 3 * (k : Int) ∧ q = .int .i64 q' ∧ Below b w wr ∧ KeptBut w wr (.slice (some ⟨g, 0, none⟩) n cap) ∧ ∃ cur : Array Value, wr.heap[g]? = some (.cells cur 72 (0, 0)) ∧ n * 3 ≤ cur.size) (fun _ i _ => n - (intOf i).toNat)
  case atStart => exact ⟨0, k0, Nat.zero_le _, rfl, by simp, rfl, Below.refl _ _, keptBut_refl _ _, cur0, HG0.out, hs⟩
  case round =>
    clear HG0 hs
    obtain ⟨k, q, hk, rfl, hq, rfl, hb, hot, cur, hg, hs⟩ := hrel
    have HG := Lib.hid hg
    have Hot := Lib.hid hot
    have HB := Lib.hid hb
    have HQ := Lib.hid hq
    by_cases hlt : k < n
    · have z0 : (0 : Int) ≤ (k : Int) := by omega
      have z1 : (k : Int) < (n : Int) := by omega
      have hks : k * 3 + 3 ≤ cur.size := by omega
      have hw1 : IntKind.i64.wrap (q + 1) = q + 1 := by rw [IntWalk.i64_in _ (by omega)]
      have hw2 : IntKind.i64.wrap (q + 1 + 1) = q + 1 + 1 := by rw [IntWalk.i64_in _ (by omega)]
      have hw3 : IntKind.i64.wrap (q + 1 + 1 + 1) = q + 1 + 1 + 1 := by rw [IntWalk.i64_in _ (by omega)]
      clear hg hot hb hq
      obtain ⟨hin, q1, q2⟩ : k * 3 < cur.size ∧ wr.cell? ⟨g, k * 3, none⟩ = some (cur[k * 3]'(by first | omega | (simp; omega))) ∧ wr.frozen? ⟨g, k * 3, none⟩ = false := ⟨by first | omega | (simp; omega), cell_kR HG.out (Array.getElem?_eq_getElem _), frozen_of_row wr g (k * 3) _ _ HG.out⟩
      clear hin
      go_upto_region 6 with (fail)
      refine abs_world (fun X => X.heap[g]? = some (.cells (cur.setIfInBounds (k * 3) (.float .f32 (floatOfInt .f32 q))) 72 (0, 0)) ∧ KeptBut w X (.slice (some ⟨g, 0, none⟩) n cap) ∧ Below b w X) ⟨heap_setCell_same _ _ _ _ _ _ HG.out, keptBut_trans Hot.out (keptBut_set _), HB.out.setCell (p := ⟨g, k * 3, none⟩) hbg _⟩ ?_
      clear HG Hot HB q1 q2
      rintro X1 ⟨hgx, hotx, hbx⟩
      have HG := Lib.hid hgx
      have Hot := Lib.hid hotx
      have HB := Lib.hid hbx
      clear hgx hotx hbx
      obtain ⟨hin, q1, q2⟩ : k * 3 + 1 < (cur.setIfInBounds (k * 3) (.float .f32 (floatOfInt .f32 q))).size ∧ X1.cell? ⟨g, k * 3 + 1, none⟩ = some ((cur.setIfInBounds (k * 3) (.float .f32 (floatOfInt .f32 q)))[k * 3 + 1]'(by first | omega | (simp; omega))) ∧ X1.frozen? ⟨g, k * 3 + 1, none⟩ = false := ⟨by first | omega | (simp; omega), cell_kR HG.out (Array.getElem?_eq_getElem _), frozen_of_row X1 g (k * 3 + 1) _ _ HG.out⟩
      clear hin
      go_upto_region 8 with (fail)
      refine abs_world (fun X => X.heap[g]? = some (.cells ((cur.setIfInBounds (k * 3) (.float .f32 (floatOfInt .f32 q))).setIfInBounds (k * 3 + 1) (.float .f32 (floatOfInt .f32 (q + 1)))) 72 (0, 0)) ∧ KeptBut w X (.slice (some ⟨g, 0, none⟩) n cap) ∧ Below b w X) ⟨heap_setCell_same _ _ _ _ _ _ HG.out, keptBut_trans Hot.out (keptBut_set _), HB.out.setCell (p := ⟨g, k * 3 + 1, none⟩) hbg _⟩ ?_
      clear HG Hot HB q1 q2
      rintro X2 ⟨hgx, hotx, hbx⟩
      have HG := Lib.hid hgx
      have Hot := Lib.hid hotx
      have HB := Lib.hid hbx
      clear hgx hotx hbx
      obtain ⟨hin, q1, q2⟩ : k * 3 + 2 < ((cur.setIfInBounds (k * 3) (.float .f32 (floatOfInt .f32 q))).setIfInBounds (k * 3 + 1) (.float .f32 (floatOfInt .f32 (q + 1)))).size ∧ X2.cell? ⟨g, k * 3 + 2, none⟩ = some (((cur.setIfInBounds (k * 3) (.float .f32 (floatOfInt .f32 q))).setIfInBounds (k * 3 + 1) (.float .f32 (floatOfInt .f32 (q + 1))))[k * 3 + 2]'(by first | omega | (simp; omega))) ∧ X2.frozen? ⟨g, k * 3 + 2, none⟩ = false := ⟨by first | omega | (simp; omega), cell_kR HG.out (Array.getElem?_eq_getElem _), frozen_of_row X2 g (k * 3 + 2) _ _ HG.out⟩
      clear hin
      go_upto_region 9 with (fail)
      refine abs_world (fun X => X.heap[g]? = some (.cells (((cur.setIfInBounds (k * 3) (.float .f32 (floatOfInt .f32 q))).setIfInBounds (k * 3 + 1) (.float .f32 (floatOfInt .f32 (q + 1)))).setIfInBounds (k * 3 + 2) (.float .f32 (floatOfInt .f32 (q + 1 + 1)))) 72 (0, 0)) ∧ KeptBut w X (.slice (some ⟨g, 0, none⟩) n cap) ∧ Below b w X) ⟨heap_setCell_same _ _ _ _ _ _ HG.out, keptBut_trans Hot.out (keptBut_set _), HB.out.setCell (p := ⟨g, k * 3 + 2, none⟩) hbg _⟩ ?_
      clear HG Hot HB q1 q2
      rintro X3 ⟨hgx, hotx, hbx⟩
      have HG := Lib.hid hgx
      have Hot := Lib.hid hotx
      have HB := Lib.hid hbx
      clear hgx hotx hbx
      go_wp2
      go_roundw
      case rel =>
        have hq := HQ.out
        exact ⟨k + 1, q + 1 + 1 + 1, by omega, by go_num, by omega, by first | trivial | rfl, HB.out, Hot.out, _, HG.out, by simp; omega⟩
      case measure => simp [intOf]; omega
    · obtain rfl : k = n := by omega
      clear hg hot hb hq
      go_wp2
      go_ret
      exact ⟨by rw [HQ.out]; rfl, HB.out, Hot.out⟩

def marksU (k : Int) (n : Nat) : List Int := (List.range n).map (fun i : Nat => IntKind.u16.wrap (k + (i : Int)))

theorem marksU_len (k : Int) (n : Nat) : (marksU k n).length = n := by simp [marksU]

theorem marksU_get (k : Int) (n i : Nat) (h : i < n) : (marksU k n)[i]? = some (IntKind.u16.wrap (k + (i : Int))) := by simp [marksU, h]

/-- What writing into a list does: it holds other elements, and all else is as it was. -/
def MarkedU (w : World) (E : TypeId) (b : Nat) (v : Value) (m : Int) (n : Nat) (e : Ending) (w' : World) : Prop :=
  e = .returned (.int .i64 (m + n)) ∧ Own w' b E (Value.int .u16) v (marksU m n) ∧ Below b w w' ∧ ∀ k o, w.heap[k]? = some o → (∀ g n c, v = .slice (some ⟨g, 0, none⟩) n c → k ≠ g) → w'.heap[k]? = some o

theorem keptBut_ofU {w w' : World} {E : TypeId} {b : Nat} {v : Value} {m : Int} {n : Nat} {e : Ending} (h : MarkedU w E b v m n e w') : KeptBut w w' v := fun j cs T fr hr hne => h.2.2.2 j _ hr (fun g n' c' ev e' => hne (by rw [ev, e']; rfl))

end Go.Proofs.YtckkemknajggpaaGreatDoor

namespace Go.Proofs.YtckkemknajggpaaGreatDoor
open Go.RowKit Go.Deep

attribute [local go_sem] run_store_f

/-- Whom a desk suits, as bits. -/
def sbD (wd hg : Int) (ws : List Wn) (ps : List Pn) (x : Dk) : Int := pbN (suL (litW wd hg (x.1, x.2.1) (fun _ => true) ws) (litW wd hg (x.1, x.2.1) (glW wd hg x.1 x.2.1 x.2.2) ws) ps) ps.length

theorem info_u16z : (Tryz.prog.info? 60).map (fun i => (i.zero, i.size, i.bytes)) = some (some (.int .u16 0), 1, 2) := by kernel_rfl

theorem make_u16 (n : Nat) (hn : n ≤ 1048576) (w : World) : (Instr.makeSlice 52 (.int .i64 (n : Int)) (.int .i64 (n : Int))).run Tryz.prog w = .ok (.slice (some ⟨w.heap.size, 0, none⟩) n n) (w.alloc (.cells (madeCells #[.int .u16 0] n) 60)) := by
  obtain ⟨i0, hi, hz0, hz1, hz2⟩ := info_parts info_u16z
  have h := run_make (P := Tryz.prog) w 52 60 i0 _ Tryz.underlying52 hi hz0 .i64 .i64 (n : Int) (n : Int) (by omega) (Int.le_refl _) (by rw [hz2]; omega) (by omega)
  rw [hz1] at h
  simpa [Value.cells] using h

set_option maxRecDepth 100000 in
set_option maxHeartbeats 8000000 in
theorem suitedBy_any (wd hg : Int) (sv dv pv : Value) (ws : List Wn) (ok : RmOk wd hg ws) (hwf : ∀ x ∈ ws, WnWf x) (ds : List Dk) (ps : List Pn) (ha : ds.all (fitD wd hg) = true) (hld : ds.length ≤ 8) (hlp : ps.length ≤ 8) (w : World) (hws : WinsAt w sv ws) (hds : DksAt w dv ds) (hps : PnsAt w pv ps) :
    Calls Tryz.prog 30 #[.agg (roomC wd hg sv), dv, pv] w fun e w' => (∃ v, e = .returned v ∧ Own w' w.heap.size 60 (Value.int .u16) v (ds.map (sbD wd hg ws ps))) ∧ Below w.heap.size w w' := by
  have HSU : Hid (∀ (x : Dk), x ∈ ds → ∀ V, WinsAt V sv ws → PnsAt V pv ps → Calls Tryz.prog 50 #[.agg (roomC wd hg sv), .agg (dkC x), pv] V fun e w' => e = .returned (.int .u16 (sbD wd hg ws ps x)) ∧ Below V.heap.size V w') := Lib.hid (fun x hx V h1 h2 => by
    obtain ⟨f1, f2, f3⟩ := fitD_get (List.all_eq_true.1 ha x hx)
    exact suited_any wd hg sv pv ws ok hwf x.1 x.2.1 x.2.2 f1 f2 f3 ps hlp V h1 h2)
  have HW := Lib.hid hws
  have HDK := Lib.hid hds
  have HPN := Lib.hid hps
  obtain ⟨da, dc, rfl, -, -, -⟩ := hds
  have hmk := fun w => make_u16 ds.length (by omega) w
  clear hws hps ok hwf ha hlp
  generalize sbD wd hg ws ps = F at *
  generalize hnn : ds.length = n at *
  have HN := Lib.hid hnn
  clear hnn
  go_enter Tryz.func30, Tryz.ntmps30
  go_upto_region 1 with (fail)
  refine abs_world (fun W => W.heap[w.heap.size]? = some (.cells (roomC wd hg sv) 36 (0, 0)) ∧ Below w.heap.size w W) ⟨heap_alloc_new _ _, (Below.refl _ _).alloc (Nat.le_refl _) _⟩ ?_
  rintro W ⟨h0, hb⟩
  have H0 := Lib.hid h0
  clear h0
  go_upto_region 2 with (fail)
  refine abs_world (fun V => V.heap[w.heap.size]? = some (.cells (roomC wd hg sv) 36 (0, 0)) ∧ V.heap[W.heap.size]? = some (.cells (madeCells #[.int .u16 0] n) 60 (0, 0)) ∧ Below w.heap.size w V) ⟨below_row ((Below.refl W.heap.size _).alloc (Nat.le_refl _) _) H0.out, heap_alloc_new _ _, hb.alloc hb.size _⟩ ?_
  have hl0 := row_lt H0.out
  clear H0 hb hmk
  generalize W.heap.size = ub at *
  rintro V ⟨h0, hu, hb⟩
  have H0 := Lib.hid h0
  have HU := Lib.hid hu
  clear h0 hu
  go_upto_region 3 with (fail)
  go_loopw [15] (fun i wr => ∃ k : Nat, k ≤ n ∧ i = .int .i64 (k : Int) ∧ wr.heap[w.heap.size]? = some (.cells (roomC wd hg sv) 36 (0, 0)) ∧ Below w.heap.size w wr ∧ ∃ cur : Array Value, wr.heap[ub]? = some (.cells cur 60 (0, 0)) ∧ cur.size = n ∧ ∀ j x, j < k → ds[j]? = some x → cur[j]? = some (.int .u16 (F x))) (fun i _ => n - (intOf i).toNat)
  case atStart => exact ⟨0, Nat.zero_le _, rfl, H0.out, hb, _, HU.out, size_madeCells _ _, fun j x hj => by omega⟩
  case round =>
    clear H0 HU hb
    obtain ⟨k, hk, rfl, h0, hb, cur, hu, hs, hp⟩ := hrel
    have H0 := Lib.hid h0
    have HU := Lib.hid hu
    have HP := Lib.hid hp
    clear h0 hu hp
    by_cases hlt : k < n
    · have hx : ds[k]? = some (ds[k]'(by rw [HN.out]; exact hlt)) := List.getElem?_eq_getElem _
      obtain ⟨g, o, rfl, hc⟩ := dk_at (dks_below HDK.out hb) hx
      have HCl := Lib.hid hc
      have HSX := Lib.hid (HSU.out _ (List.mem_of_getElem? hx))
      generalize (ds[k]'(by rw [HN.out]; exact hlt)) = x at *
      have HXX := Lib.hid hx
      have z1 : (k : Int) < (n : Int) := by omega
      have z2 : (0 : Int) ≤ (k : Int) := by omega
      have z3 : IntKind.i64.wrap ((k : Int) + 1) = (k : Int) + 1 := by rw [IntWalk.i64_in _ (by omega)]
      clear hc hx
      go_upto_region 5 with (first | (refine wpList_load_cells rfl 65 _ rfl g (o + k * 3) 3 rfl _ Tryz.underlying65 rfl info_desk (dkC x) rfl HCl.out ?_) | (refine wpList_store_part rfl 65 _ _ rfl _ 0 (dkC x) rfl rfl 65 _ (heap_alloc_new _ _) info_desk (Nat.le_refl _) (dk_one _) ?_; rw [laid_allr _ _ (by rfl)]))
      refine abs_world (fun X => X.heap[w.heap.size]? = some (.cells (roomC wd hg sv) 36 (0, 0)) ∧ X.heap[ub]? = some (.cells cur 60 (0, 0)) ∧ X.heap[wr.heap.size]? = some (.cells (dkC x) 65 (0, 0)) ∧ Below w.heap.size w X) ⟨below_row (sbZ _ _ _) H0.out, below_row (sbZ _ _ _) HU.out, setRow_heap _ _ _ _ _ _ (heap_alloc_new _ _), hb.trans ((sbZ _ _ _).mono hb.size)⟩ ?_
      clear H0 HU hb
      generalize wr.heap.size = db at *
      rintro X ⟨h0, hu, hbd, hb⟩
      have H0 := Lib.hid h0
      have HU := Lib.hid hu
      have HB := Lib.hid hbd
      clear h0 hu hbd
      have HV := Lib.hid (wins_below HW.out hb)
      have HPs := Lib.hid (pns_below HPN.out hb)
      have q1 : X.cell? ⟨ub, k, none⟩ = some (cur[k]'(by omega)) := cell_k HU.out (Array.getElem?_eq_getElem (by omega))
      have q2 := frozen_of_row X ub k _ _ HU.out
      go_upto_region 6 with (first | (refine wpList_load_part rfl 36 _ rfl w.heap.size 0 3 rfl 36 (roomC wd hg sv) (0, 0) _ H0.out Tryz.underlying36 rfl info_room (room_fits _ _ _) _ (room_all _ _ _) ?_) | (refine wpList_load_part rfl 65 _ rfl db 0 3 rfl 65 (dkC x) (0, 0) _ HB.out Tryz.underlying65 rfl info_desk (dk_fits _) _ (dk_all _) ?_) | (go_at_call 50; refine (HSX.out _ HV.out HPs.out).mono ?_; rintro e W5 ⟨rfl, hb5⟩; replace H0 := Lib.hid (below_row hb5 H0.out); replace HU := Lib.hid (below_row hb5 HU.out); replace hb := hb.trans (hb5.mono hb.size); clear q1 q2 hb5; have q1 : W5.cell? ⟨ub, k, none⟩ = some (cur[k]'(by omega)) := cell_k HU.out (Array.getElem?_eq_getElem (by omega)); have q2 := frozen_of_row W5 ub k _ _ HU.out))
      go_wp2
      go_roundw
      case rel =>
        refine ⟨k + 1, by omega, by go_num, (heap_setCell_other _ _ _ _ (by simp; omega)).trans H0.out, hb.setCell (p := ⟨ub, k, none⟩) (show w.heap.size ≤ ub by omega) _, _, heap_setCell_same _ _ _ _ _ _ HU.out, by simpa using hs, fun j y hj hy => ?_⟩
        by_cases e : j = k
        · subst e
          rw [HXX.out] at hy
          obtain rfl := Option.some.inj hy
          rw [Array.getElem?_setIfInBounds, if_pos rfl, if_pos (by omega)]
        · rw [Array.getElem?_setIfInBounds, if_neg (fun h => e h.symm)]
          exact HP.out j y (by omega) hy
      case measure => simp [intOf]; omega
    · obtain rfl : k = n := by omega
      have HR : Hid (Own wr w.heap.size 60 (Value.int .u16) (.slice (some ⟨ub, 0, none⟩) k k) (ds.map F)) := by
        refine ⟨_, k, by rw [List.length_map, HN.out], by unfold maxLen; omega, by rw [List.length_map, HN.out]; exact Nat.le_refl _, .inr ⟨ub, cur, rfl, by omega, HU.out, fun j hj => ?_⟩⟩
        rw [List.length_map, HN.out] at hj
        have hy : ds[j]? = some (ds[j]'(by rw [HN.out]; exact hj)) := List.getElem?_eq_getElem _
        rw [HP.out j _ hj hy, List.getElem?_map, hy]
        rfl
      clear HP
      go_wp2
      go_ret
      exact ⟨⟨_, rfl, HR.out⟩, hb⟩

end Go.Proofs.YtckkemknajggpaaGreatDoor

namespace Go.Proofs.YtckkemknajggpaaGreatDoor
open Go.RowKit

attribute [local go_sem] run_store_f

theorem wpList_load_cellsG {P : Program} {ops : Array Oper} {rest : List Oper} {o : Oper} {a : Act} {w : World} {Q : Exit → Act → World → Prop} (ty : TypeId) (x : Operand) (ho : o.op = .load ty x)
    (g off n : Nat) (hx : a.eval x = .pointer (some ⟨g, off, none⟩)) (hw : Region.wanted o (yielded ops a.tmps) = true) (d : TypeDesc)
    (hu : P.underlying ty = some d) (hd : (match d with | .struct _ | .array _ _ => true | _ => false) = true) (hi : (P.info? ty).map (·.size) = some n)
    (vs : Array Value) (hn : vs.size = n) (hc : ∀ j v, vs[j]? = some v → w.cell? ⟨g, off + j, none⟩ = some v) (h : wpList P ops Q rest (a.put o.dst (.agg vs)) w) : wpList P ops Q (o :: rest) a w := by
  refine wpList_step fun K hK => ?_
  simp only [hw, if_true]
  unfold Oper.wp execOp
  simp only [ho, hx, Instr.loadAt, Instr.sureAddr, Sem.run_bind, Sem.run_pure, Result.andThen_ok, run_loadVar_cells w g off n ty d hu hd hi vs hn hc]
  exact hK _ _ h

theorem l03Dk_any (wd hg : Int) (iw : I8 wd) (ih : I8 hg) (sv : Value) (x : Dk) (hx : DkWf x) (gb : Nat) (T : TypeId) (fr : Nat × Nat) (w : World) (hb0 : w.heap[gb]? = some (.cells (roomC wd hg sv) T fr)) :
    Calls Tryz.prog 55 #[.pointer (some ⟨gb, 0, none⟩), .agg (dkC x)] w fun e w' => e = .returned (.bool (fitD wd hg x)) ∧ Below w.heap.size w w' :=
  l03Desk_any wd hg x.1 x.2.1 x.2.2 iw ih hx.1 hx.2.1 hx.2.2 sv gb T fr w hb0

theorem l03GlDk_any (wd hg : Int) (sv : Value) (ws : List Wn) (ok : RmOk wd hg ws) (hwf : ∀ x ∈ ws, WnWf x) (x : Dk) (hx : fitD wd hg x = true) (gb : Nat) (T : TypeId) (fr : Nat × Nat) (w : World) (hb0 : w.heap[gb]? = some (.cells (roomC wd hg sv) T fr)) (hws : WinsAt w sv ws) :
    Calls Tryz.prog 58 #[.pointer (some ⟨gb, 0, none⟩), .agg (dkC x)] w fun e w' => e = .returned (.float .f32 (dkG wd hg ws x)) ∧ Below w.heap.size w w' :=
  l03Glare_any wd hg sv ws ok hwf x.1 x.2.1 x.2.2 (fitD_get hx).1 gb T fr w hb0 hws

/-- The code of a list of desks. -/
def codeD (ok fine : Bool) (n : Nat) : Int := if !ok then 1 else if !fine then 2 else if 8 < n then 3 else 0

theorem codeG_is (ok num all : Bool) (n : Nat) : codeG ok num all n = codeD ok (num && all) n := rfl

theorem codeD_hit {ok fine : Bool} {n : Nat} (h : codeR ok fine = 0) (hn : 8 < n) : codeD ok fine n = 3 := by
  cases ok <;> cases fine <;> simp_all [codeR, codeD]

theorem codeD_low {ok fine : Bool} {n : Nat} (hn : ¬ 8 < n) : codeD ok fine n = codeR ok fine := by
  cases ok <;> cases fine <;> simp_all [codeR, codeD]

theorem codeD_bad {ok fine : Bool} {n : Nat} (h : codeR ok fine ≠ 0) : codeD ok fine n = codeR ok fine := by
  cases ok <;> cases fine <;> simp_all [codeR, codeD]

set_option maxRecDepth 100000 in
set_option maxHeartbeats 4000000 in
theorem l03Desks_any (wd hg : Int) (iw : I8 wd) (ih : I8 hg) (sv dv : Value) (ws : List Wn) (hwf : ∀ x ∈ ws, WnWf x) (ds : List Dk) (hdf : ∀ x ∈ ds, DkWf x) (fine : Bool) (gb : Nat) (T : TypeId) (fr : Nat × Nat) (w : World) (hb0 : w.heap[gb]? = some (.cells (roomC wd hg sv) T fr)) (hws : WinsAt w sv ws) (hds : DksAt w dv ds) :
    Calls Tryz.prog 36 #[.pointer (some ⟨gb, 0, none⟩), dv, .bool fine] w fun e w' => e = .returned (.int .i64 (codeD (okRm wd hg ws) (fine && ds.all (fitD wd hg)) ds.length)) ∧ Below w.heap.size w w' := by
  have HAS := Lib.hid (fun f W h1 h2 => l03Asked_any wd hg iw ih sv ws hwf f gb T fr W h1 h2)
  have HDS := Lib.hid (fun x (hx : x ∈ ds) W h => l03Dk_any wd hg iw ih sv x (hdf x hx) gb T fr W h)
  have HDK := Lib.hid hds
  have HW := Lib.hid hws
  have HB := Lib.hid hb0
  obtain ⟨a, cap, rfl, hl1, hl2, _⟩ := hds
  unfold maxLen at hl2
  have HCH := Lib.hid (fun h hn => @codeD_hit (okRm wd hg ws) (fine && ds.all (fitD wd hg)) ds.length h hn)
  have HCL := Lib.hid (fun hn => @codeD_low (okRm wd hg ws) (fine && ds.all (fitD wd hg)) ds.length hn)
  have HCB := Lib.hid (fun h => @codeD_bad (okRm wd hg ws) (fine && ds.all (fitD wd hg)) ds.length h)
  have HALL : Hid (ds.take ds.length = ds) := Lib.hid List.take_length
  generalize codeD (okRm wd hg ws) (fine && ds.all (fitD wd hg)) ds.length = cd at *
  generalize hn : ds.length = n at *
  have HN := Lib.hid hn
  have hb : Below w.heap.size w w := Below.refl _ _
  clear hn hdf hwf hws hb0 iw ih
  go_enter Tryz.func36, Tryz.ntmps36
  go_wp2
  go_loopw [2, 7] (fun f i wr => ∃ k : Nat, k ≤ n ∧ i = .int .i64 (k : Int) ∧ f = .bool (fine && (ds.take k).all (fitD wd hg)) ∧ wr.heap[gb]? = some (.cells (roomC wd hg sv) T fr) ∧ Below w.heap.size w wr) (fun _ i _ => n - (intOf i).toNat)
  case atStart => exact ⟨0, Nat.zero_le _, rfl, by rw [List.take_zero]; simp, HB.out, hb⟩
  case round =>
    obtain ⟨k, hk, rfl, rfl, h0, hbz⟩ := hrel
    have H0 := Lib.hid h0
    clear h0 hb
    by_cases hlt : k < n
    · have hx : ds[k]? = some (ds[k]'(by rw [HN.out]; exact hlt)) := List.getElem?_eq_getElem _
      obtain ⟨g, o, rfl, hc⟩ := dk_at (dks_below HDK.out hbz) hx
      have HCl := Lib.hid hc
      have hts : ds.take (k + 1) = ds.take k ++ [ds[k]'(by rw [HN.out]; exact hlt)] := by rw [List.take_succ_eq_append_getElem]
      have HDX := Lib.hid (HDS.out _ (List.mem_of_getElem? hx))
      generalize (ds[k]'(by rw [HN.out]; exact hlt)) = x at *
      have HT : Hid ((fine && (ds.take (k + 1)).all (fitD wd hg)) = ((fine && (ds.take k).all (fitD wd hg)) && fitD wd hg x)) := Lib.hid (by rw [hts, List.all_append]; simp [Bool.and_assoc])
      have z1 : (k : Int) < (n : Int) := by omega
      have z2 : (0 : Int) ≤ (k : Int) := by omega
      clear hc hx hts HDS HAS HCH HCL HCB HALL
      generalize (fine && (ds.take k).all (fitD wd hg)) = b at *
      cases b with
      | false =>
        go_wp2
        go_roundw
        case rel => exact ⟨k + 1, by omega, by go_num, by rw [HT.out]; rfl, H0.out, hbz⟩
        case measure => simp [intOf]; omega
      | true =>
        go_wp2_with (first | (refine wpList_load_cellsG 65 _ rfl g (o + k * 3) 3 rfl rfl _ Tryz.underlying65 rfl info_desk (dkC x) rfl HCl.out ?_) | (go_at_call 55; refine (HDX.out _ H0.out).mono ?_; rintro e W1 ⟨rfl, hb1⟩; replace H0 := Lib.hid (below_row hb1 H0.out); replace hbz := hbz.trans (hb1.mono hbz.size); clear hb1))
        go_roundw
        case rel => exact ⟨k + 1, by omega, by go_num, by rw [HT.out]; rfl, H0.out, hbz⟩
        case measure => simp [intOf]; omega
    · obtain rfl : k = n := by omega
      rw [HALL.out]
      have HAX := Lib.hid (HAS.out (fine && ds.all (fitD wd hg)) wr H0.out (wins_below HW.out hbz))
      generalize (fine && ds.all (fitD wd hg)) = b at *
      generalize codeR (okRm wd hg ws) b = c at *
      clear HALL HAS HDS
      by_cases hc0 : c = 0
      · subst hc0
        by_cases h8 : 8 < k
        · have z8 : (8 : Int) < (k : Int) := by omega
          have E := Lib.hid (HCH.out rfl h8)
          clear HCL HCB HCH
          go_wp2_with (go_at_call 56; refine HAX.out.mono ?_; rintro e W1 ⟨rfl, hb1⟩)
          go_ret
          exact ⟨by rw [E.out]; rfl, hbz.trans (hb1.mono hbz.size)⟩
        · have z8 : (k : Int) ≤ 8 := by omega
          have E := Lib.hid (HCL.out h8)
          clear HCL HCB HCH
          go_wp2_with (go_at_call 56; refine HAX.out.mono ?_; rintro e W1 ⟨rfl, hb1⟩)
          go_ret
          exact ⟨by rw [E.out]; rfl, hbz.trans (hb1.mono hbz.size)⟩
      · have zc : (c == 0) = false := by simpa using hc0
        have E := Lib.hid (HCB.out hc0)
        clear HCL HCB HCH
        go_wp2_with (go_at_call 56; refine HAX.out.mono ?_; rintro e W1 ⟨rfl, hb1⟩)
        go_ret
        exact ⟨by rw [E.out]; rfl, hbz.trans (hb1.mono hbz.size)⟩

end Go.Proofs.YtckkemknajggpaaGreatDoor
