/-
  Sun, Eq, Hours, Round, Held, SrA, SrB, SrC, SrD, New, Ok, Valid, Open, LawValid, Fns, Up, Ground, Fall, FallOn, Add, Day, SrE, SrF, TpA, TpB, Near.
-/
import Derived.Test.YtddnfbpgldchcaaGreatDoorRow
import Derived.Test.YtddnfbpgldchcaaGreatDoorRows
import Derived.WalkKit
import Derived.WalkSpells
import Derived.WalkLawsBesides
import Derived.Lib.Hide
import Derived.Deep.Cut
import Derived.Deep.DeepCutAuto
import Derived.Laws.StructEq
import Derived.RangeFuncNested
import Derived.RangeFuncBound
import Derived.RangeFuncCalls
import Derived.RangeFuncLeaves
import Derived.RangeFuncFrom
import Derived.RangeFuncWrites
import Derived.Shelf.Abstract
import Derived.Shelf.RegionOpen
import Derived.OwnWalkIn
import Derived.TacticsInMore
import Derived.LoopNIn
import Derived.LoopIn
import Derived.Deep.RegionHeld3
import Derived.OrdersIn
import Derived.StillTail
import Derived.StillTailTactics
import Derived.IntWalk
import Derived.Laws.AppendOwn
import Derived.Laws.BitsAllLaws
import Derived.Test.YtddnfbpgldchcaaGreatDoorBlk
import Derived.Test.YtddnfbpgldchcaaGreatDoorLaw
import Derived.Test.YtddnfbpgldchcaaGreatDoorMul
import Derived.Test.YtddnfbpgldchcaaGreatDoorAngle
import Derived.Test.YtddnfbpgldchcaaGreatDoorSame
import Derived.Test.YtddnfbpgldchcaaGreatDoorBlind
import Derived.Test.YtddnfbpgldchcaaGreatDoorCtA

namespace Go.Proofs.YtddnfbpgldchcaaGreatDoor

open Go.RowKit

/-- Numbers of 16 bits as cells. -/
def i16s (xs : List Int) : Array Value := (xs.map (Value.int .i16)).toArray

@[simp] theorem i16s_size (xs : List Int) : (i16s xs).size = xs.length := by simp [i16s]

theorem i16s_get (xs : List Int) (k : Nat) (h : k < xs.length) : (i16s xs)[k]? = some (.int .i16 (xs[k]?.getD 0)) := by
  simp [i16s, h]

theorem i16s_one (xs : List Int) : ∀ v ∈ i16s xs, v.oneCell' = true := by
  intro v hv
  simp only [i16s, List.mem_toArray, List.mem_map] at hv
  obtain ⟨x, _, rfl⟩ := hv
  rfl

theorem i16s_set (xs : List Int) (k : Nat) (n : Int) : (i16s xs).setIfInBounds k (.int .i16 n) = i16s (xs.set k n) := by
  apply Array.ext'
  simp [i16s, List.map_set]

theorem cell_of_i16s {w : World} {g : Nat} {xs : List Int} {t : TypeId} {fr : Nat × Nat} (hg : w.heap[g]? = some (.cells (i16s xs) t fr)) (k : Nat) (h : k < xs.length) :
    w.cell? ⟨g, k, none⟩ = some (.int .i16 (xs[k]?.getD 0)) := by
  rw [cell_of_row w g k _ t fr hg, i16s_get xs k h]

set_option maxRecDepth 100000 in
theorem info_arr : (Tryz.prog.info? 25).map (·.size) = some 24 := by kernel_rfl

theorem i16s_all (xs : List Int) (n : Nat) (h : xs.length = n) : (i16s xs).extract 0 (0 + n) = i16s xs := by
  have e : n = (i16s xs).size := by simp [h]
  rw [Nat.zero_add, e, Array.extract_size]

theorem laid_all (cs vs : Array Value) (h : cs.size = vs.size) : laid cs vs 0 = vs := by
  apply Array.ext'
  simp [laid]
  rw [← h]; simp

theorem heap_alloc (w : World) (o : Obj) (i : Nat) : (w.alloc o).heap[i]? = if i = w.heap.size then some o else w.heap[i]? := by
  show (w.heap.push o)[i]? = _
  exact Array.getElem?_push

/-- A sun as a value: 24 heights, 24 turns. -/
def sunC (hs ts : List Int) : Array Value := i16s (hs ++ ts)

theorem sunC_size (hs ts : List Int) (h : hs.length = 24) (t : ts.length = 24) : (sunC hs ts).size = 48 := by simp [sunC, h, t]

theorem sun_fits (hs ts : List Int) (h : hs.length = 24) (t : ts.length = 24) : 0 + 48 ≤ (sunC hs ts).size := by rw [sunC_size _ _ h t]; decide

theorem sun_all (hs ts : List Int) (h : hs.length = 24) (t : ts.length = 24) : (sunC hs ts).extract 0 (0 + 48) = sunC hs ts := i16s_all _ 48 (by rw [List.length_append, h, t])

theorem sunC_fst (hs ts : List Int) (h : hs.length = 24) : (sunC hs ts).extract 0 (0 + 24) = i16s hs := by
  apply Array.ext'
  simp [sunC, i16s, ← h]

theorem sunC_snd (hs ts : List Int) (h : hs.length = 24) (t : ts.length = 24) : (sunC hs ts).extract 24 (24 + 24) = i16s ts := by
  apply Array.ext'
  have e : 24 = (List.map (Value.int .i16) ts).length := by simp [t]
  simp only [sunC, i16s, List.map_append, List.extract_toArray, List.extract_eq_take_drop]
  rw [List.drop_append_of_le_length (by simp [h]), List.drop_of_length_le (by simp [h]), List.nil_append, List.take_of_length_le (by simp [t])]

set_option maxRecDepth 100000 in
theorem info_sun : (Tryz.prog.info? 27).map (·.size) = some 48 := by kernel_rfl

def zer : List Int := List.replicate 24 0

theorem abs_code {P : Program} {c : Code} {Q : Exit → Act → World → Prop} {a : Act} {w : World} (R : World → Prop) (hw : R w) (h : ∀ W, R W → Code.wp P c Q a W) : Code.wp P c Q a w := h w hw

end Go.Proofs.YtddnfbpgldchcaaGreatDoor

namespace Go.Proofs.YtddnfbpgldchcaaGreatDoor

open Go Go.RowKit

set_option maxRecDepth 100000 in
theorem size_i16 (w : World) : (sizeOf 24).run Tryz.prog w = .ok 1 w := by kernel_rfl

set_option maxRecDepth 100000 in
theorem agg_i16 (w : World) : (isAgg 24).run Tryz.prog w = .ok false w := by kernel_rfl

theorem part_i16 (xs : List Int) (i : Nat) (h : i < xs.length) (w : World) : (part 24 (i16s xs) i).run Tryz.prog w = .ok (.int .i16 (xs[i]?.getD 0)) w := by
  unfold part
  rw [Sem.run_bind, agg_i16]
  simp only [Result.andThen_ok, Bool.false_eq_true, if_false, i16s_get xs i h]
  rfl

theorem eq_loop (d : Nat) (xs ys : List Int) (w : World) : ∀ (is : List Nat), (∀ i ∈ is, i < xs.length ∧ i < ys.length) →
    (forIn is ((none, ()) : Option Bool × Unit) (fun i _ => do
      if (!(← Op.equalIn (d + 1) 24 (← part 24 (i16s xs) (i * 1)) (← part 24 (i16s ys) (i * 1)))) = true then pure (ForInStep.done (some false, ()))
      else pure (ForInStep.yield (none, ())))).run Tryz.prog w = .ok (if is.all (fun i => xs[i]?.getD 0 == ys[i]?.getD 0) then (none, ()) else (some false, ())) w
  | [], _ => rfl
  | i :: is, h => by
    have hi := h i (by simp)
    have ih := eq_loop d xs ys w is (fun j hj => h j (by simp [hj]))
    rw [List.forIn_cons]
    simp only [Nat.mul_one] at ih ⊢
    simp only [Sem.run_bind, part_i16 xs i hi.1, part_i16 ys i hi.2, Result.andThen_ok, run_equalIn_int w d 24 .i16 .i16 _ _ Tryz.underlying24]
    cases hc : (xs[i]?.getD 0 == ys[i]?.getD 0)
    · simp [hc]
    · simp only [Bool.not_true, Bool.false_eq_true, if_false, Sem.run_pure, Result.andThen_ok, List.all_cons, hc, Bool.true_and]
      exact ih

theorem all_eq (xs ys : List Int) (n : Nat) (hx : xs.length = n) (hy : ys.length = n) : (List.range' 0 n).all (fun i => xs[i]?.getD 0 == ys[i]?.getD 0) = (xs == ys) := by
  rw [Bool.eq_iff_iff]
  simp only [List.all_eq_true, beq_iff_eq]
  constructor
  · intro h
    apply List.ext_getElem?
    intro i
    by_cases hi : i < n
    · have h1 := h i (by simp [List.mem_range']; omega)
      rw [List.getElem?_eq_getElem (by omega), List.getElem?_eq_getElem (by omega)] at h1 ⊢
      simpa using h1
    · rw [List.getElem?_eq_none (by omega), List.getElem?_eq_none (by omega)]
  · intro h i _
    rw [h]

theorem run_eq_arr (d : Nat) (xs ys : List Int) (hx : xs.length = 24) (hy : ys.length = 24) (w : World) :
    (Op.equalIn (d + 1 + 1) 25 (.agg (i16s xs)) (.agg (i16s ys))).run Tryz.prog w = .ok (xs == ys) w := by
  have hl := eq_loop d xs ys w (List.range' 0 24) (fun i hi => by simp [List.mem_range'] at hi; omega)
  rw [all_eq xs ys 24 hx hy] at hl
  rw [Op.equalIn.eq_def]
  simp only [Sem.run_bind, run_underlying Tryz.underlying25, Result.andThen_ok, size_i16]
  rw [Std.Legacy.Range.forIn_eq_forIn_range']
  have e : (Std.Legacy.Range.mk 0 24 1 (by decide)).size = 24 := by decide
  simp only [e]
  erw [hl]
  cases xs == ys <;> rfl

theorem run_eql_arr (xs ys : List Int) (hx : xs.length = 24) (hy : ys.length = 24) (w : World) :
    (Op.equalIn 10000 25 (.agg (i16s xs)) (.agg (i16s ys))).run Tryz.prog w = .ok (xs == ys) w := run_eq_arr 9998 xs ys hx hy w

end Go.Proofs.YtddnfbpgldchcaaGreatDoor

namespace Go.Proofs.YtddnfbpgldchcaaGreatDoor

open Go.RowKit Go.Shelf

/-- An hour of a day. -/
abbrev Hr := { h : Int // 0 ≤ h ∧ h < 24 }

def hr (k : Nat) : Hr := ⟨(k % 24 : Nat), by omega⟩

theorem hr_val (k : Nat) (h : k < 24) : (hr k).1 = (k : Int) := by simp [hr, Nat.mod_eq_of_lt h]

def hrs (k : Nat) : List Hr := (List.range k).map hr

theorem hrs_succ (k : Nat) : hrs (k + 1) = hrs k ++ [hr k] := by simp [hrs, List.range_succ]

@[simp] theorem hrs_length (k : Nat) : (hrs k).length = k := by simp [hrs]

set_option maxRecDepth 100000 in
set_option maxHeartbeats 1000000 in
theorem eachHour_in (F : Fence) (n : Nat) (hF : F.fn 131) (hro : F.round = none) (hn : 1 ≤ n) (l n₀ : Nat) (J Jx : List Hr → World → Prop)
    (hY : ∀ pre x W, J pre W → pre.length < 24 → YieldAt F (n - 1) Tryz.prog l #[.int .i64 x.1] W fun e W' =>
      (e = .returned (.bool true) ∧ J (pre ++ [x]) W' ∧ Below n₀ W W') ∨ (e = .returned (.bool false) ∧ Jx (pre ++ [x]) W'))
    (W : World) (h0 : J [] W) :
    CallsIn F n Tryz.prog 131 #[.func (.yield l) #[] #[]] W fun e W' => (∃ v, e = .returned v) ∧
      ((∃ xs, xs = hrs 24 ∧ J xs W') ∨ (∃ pre, (∃ k, k ≤ 24 ∧ pre = hrs k) ∧ Jx pre W')) := by
  refine callsIn_of_wp Tryz.func131 rfl hF ?_ hro
  simp only [Tryz.ntmps131, List.size_toArray, List.length_cons, List.length_nil, Nat.reduceAdd, Nat.reduceSub, Array.replicate_succ, Array.replicate_zero, List.push_toArray, List.append_toArray, List.nil_append, List.cons_append]
  gi_wp2
  gi_loopw [3] (fun i wr => ∃ k : Nat, k ≤ 24 ∧ i = .int .i64 k ∧ J (hrs k) wr ∧ Below n₀ W wr) (fun i _ => 24 - (intOf i).toNat)
  case atStart => exact ⟨0, Nat.zero_le _, rfl, h0, Below.refl _ _⟩
  case round =>
    obtain ⟨k, hk, rfl, hJs, hnx⟩ := hrel
    by_cases hlt : k < 24
    · obtain ⟨fn, tmps, assign, body, hy, hR⟩ := hY _ (hr k) wr hJs (by rw [hrs_length]; exact hlt)
      rw [hr_val k hlt] at hy
      gi_wp2
      refine hR.mono ?_
      rintro e W3 (⟨rfl, hJ3, hk3⟩ | ⟨rfl, hJx3⟩)
      · gi_wp2
        go_roundw
        case rel => exact ⟨k + 1, by omega, by simp, by rw [hrs_succ]; exact hJ3, hnx.trans hk3⟩
        case measure => simp [intOf]; omega
      · gi_wp2
        refine bodyPost_ret (results_none rfl _ _ _) rfl ?_
        exact ⟨⟨_, rfl⟩, .inr ⟨_, ⟨k + 1, by omega, (hrs_succ _).symm⟩, hJx3⟩⟩
    · obtain rfl : k = 24 := by omega
      gi_wp2
      go_end0
      exact ⟨⟨_, rfl⟩, .inl ⟨_, rfl, hJs⟩⟩

theorem eachHour_stops (F : Fence) (n : Nat) (hF : F.fn 131) (hro : F.round = none) (hn : 1 ≤ n) (n₀ : Nat) (w : World) :
    SeqStopsK F n Tryz.prog 131 #[] (fun x : Hr => #[Value.int .i64 x.1]) (Below n₀) (fun xs => xs = hrs 24) (fun pre => ∃ k, k ≤ 24 ∧ pre = hrs k) 24 w := fun l J Jx W _ _ _ hY h0 =>
  eachHour_in F n hF hro hn l n₀ J Jx hY W h0

end Go.Proofs.YtddnfbpgldchcaaGreatDoor

namespace Go.Proofs.YtddnfbpgldchcaaGreatDoor

open Go Go.RowKit

section

variable {P : Program}

theorem op_round {l n : Nat} {o : Oper} {a : Act} {w : World} {K : Act → World → Prop} {Q : Exit → Act → World → Prop} (hd : ∀ c, o.op ≠ .defer c) (h : o.wp P a w K Q) :
    o.wpIn (Fence.wide.inRound l) n P a w K Q := by
  refine ⟨fun _ _ => trivial, ?_⟩
  rw [Oper.semAt_eq _ _ _ hd]
  unfold Oper.wp at h
  generalize (execOp a.eval o).run P w = r at *
  cases r with
  | ok x w' =>
    cases x <;> simp only [Oper.upon, Oper.uponIn] at h ⊢
    case value => exact h
    case skip => exact h
    case defer => exact h
    case enter f args => exact ⟨fun h => (by cases h), CallsIn.inRound l (callsIn_wide.2 (h.mono fun e w' he => by cases e <;> exact he))⟩
    case row row args => exact ⟨fun h => (by cases h), fun c cs _ => let ⟨v, w', r, s⟩ := h c cs; ⟨v, w', r, stepsIn_wide.2 s⟩⟩
  | halt x w' => cases x <;> simp only [Oper.upon, Oper.uponIn] at h ⊢ <;> exact h

theorem any_round {l n : Nat} {md : Region.Mode} {ops : Array Oper} {Q : Exit → Act → World → Prop} (hd : ∀ (i : Nat) (o : Oper), ops[i]? = some o → ∀ c, o.op ≠ .defer c) (hlo : ¬ LetsOut Q) :
    ∀ (fuel : Nat) (listed : Array Bool) (a : Act) (w : World), wpAny P md ops Q fuel listed a w → wpAnyIn (Fence.wide.inRound l) n P md ops Q fuel listed a w
  | 0, _, _, _, h => h
  | fuel + 1, listed, a, w, h => by
    refine ⟨h.1, fun i hi => ?_⟩
    have h1 := h.2 i hi
    unfold wpOp at h1
    unfold wpOpIn
    cases ho : ops[i]? with
    | none => simp only [ho] at h1; exact any_round hd hlo fuel _ _ _ h1
    | some o =>
      simp only [ho] at h1 ⊢
      split
      · rename_i hw
        rw [if_pos hw] at h1
        have h2 := h1.resolve_right (fun h => hlo h.2)
        exact Oper.wpIn_mono (fun a w h => any_round hd hlo fuel _ a w h) (op_round (hd i o ho) h2)
      · rename_i hw
        rw [if_neg hw] at h1
        exact ⟨fun _ _ => trivial, any_round hd hlo fuel _ _ _ h1⟩

/-- A region that draws its order, in a round: from the law for a region under a held condition. -/
theorem region_round {l n id : Nat} {ops : Array Oper} {Q : Exit → Act → World → Prop} {S : World → Prop} {a : Act} {w : World} (hm : P.follows .mixedOrders = true)
    (hd : ∀ (i : Nat) (o : Oper), ops[i]? = some o → ∀ c, o.op ≠ .defer c) (hlo : ¬ LetsOut Q) (hS : S w.drew)
    (h : S w.drew → wpAnyH P .any ops Q S ops.size (Array.replicate ops.size false) a w.drew) : (Code.region id ops true).wpIn (Fence.wide.inRound l) n P Q a w :=
  wpIn_region_any hm (any_round hd hlo _ _ _ _ (wpAny_of_held _ _ _ _ (h hS)))

/-- Reads before one store, in a round. -/
theorem still_tail_round {l n id k : Nat} {Q : Exit → Act → World → Prop} {a : Act} {w : World} {os : List Oper} (hm : P.follows .mixedOrders = true) (hB : Region.lexTailB .any os.toArray k = true)
    (hd : ∀ (i : Nat) (o : Oper), os.toArray[i]? = some o → ∀ c, o.op ≠ .defer c) (hlo : ¬ LetsOut Q)
    (h : wpStill P os.toArray w.drew (fun a' => wpList P os.toArray Q (os.drop k) a' w.drew) (os.take k) a) : (Code.region id os.toArray true).wpIn (Fence.wide.inRound l) n P Q a w := by
  refine wpIn_region_any hm (any_round hd hlo _ _ _ _ ?_)
  simp only [Region.lexTailB, Bool.and_eq_true, decide_eq_true_eq] at hB
  obtain ⟨⟨⟨⟨hsel, hk⟩, hs⟩, hc⟩, hlex⟩ := hB
  have hk' : k < os.length := by simpa using hk
  have htl : (os.take k).length = k := by simp; omega
  have hdl : (os.drop k).length = os.toArray.size - k := by simp
  have inv0 : HeadInv .any os.toArray k (Array.replicate os.toArray.size false) :=
    ⟨by simp, fun j oj _ hl => (by rw [getD_replicate_false] at hl; cases hl), fun t _ ht => getD_in (by simpa using ht) (getD_replicate_false _ _)⟩
  have H := wpAnyL_lex (md := .any) (g := os.toArray.size - k) hsel hs hc hk (os.take k) 0 _ a (fun j hj => by
    have hj' : j < k := by rw [htl] at hj; exact hj
    simp [hj']) (by simpa using htl) inv0 (by rw [htl]; exact hlex) h
  have H2 := wpAny_of_head (Q' := Q) (g := os.toArray.size - k) (fun listed a' hL => by
    have h3 := wpAny_of_seq (md := .any) (Q' := Q) (os.drop k) k listed a' w.drew (fun j => by simp [List.getElem?_drop]) (by rw [hdl]; exact hL.1) hL.2
    rwa [hdl] at h3) _ _ _ H
  rw [htl, show k + (os.toArray.size - k) = os.toArray.size by omega] at H2
  exact H2

theorem no_defer {ops : List Oper} (h : ops.all (fun o => match o.op with | .defer _ => false | _ => true) = true) : ∀ (i : Nat) (o : Oper), ops.toArray[i]? = some o → ∀ c, o.op ≠ .defer c := by
  intro i o ho c hc
  have hm : o ∈ ops := List.mem_iff_getElem?.2 ⟨i, by simpa using ho⟩
  have := List.all_eq_true.1 h o hm
  rw [hc] at this
  cases this

end

end Go.Proofs.YtddnfbpgldchcaaGreatDoor

namespace Go.Proofs.YtddnfbpgldchcaaGreatDoor

open Go.RowKit Go.Shelf

attribute [local go_sem] Oper.semAt_some

theorem heap_kept {W W' : World} {row : Option Nat} {b : Nat} {cs : Array Value} {t : TypeId} {fr : Nat × Nat} (h : W.heap[b]? = some (.cells cs t fr)) (hg : W.grownBy W' row)
    (hr : ∀ r, row = some r → ∃ o : Obj, W.heap[r]? = some o ∧ o.isCells = false) : W'.heap[b]? = some (.cells cs t fr) := by
  have hlt := (Array.getElem?_eq_some_iff.1 h).1
  rw [← h]
  refine hg.block b hlt fun e => ?_
  obtain ⟨o, ho, hc⟩ := hr b e.symm
  rw [h] at ho
  cases ho
  cases hc

/-- A number between two bounds. -/
def clampI (lo hi y : Int) : Int := if hi < (if lo > y then lo else y) then hi else (if lo > y then lo else y)

/-- The list whose first numbers are held. -/
def clampTo (lo hi : Int) (xs : List Int) (k : Nat) : List Int := (xs.take k).map (clampI lo hi) ++ xs.drop k

def Good (pre : List Hr) : Prop := pre = hrs pre.length

theorem good_snoc {pre : List Hr} {x : Hr} (h : Good (pre ++ [x])) (hl : pre.length < 24) : Good pre ∧ x.1 = (pre.length : Int) := by
  unfold Good at h
  rw [List.length_append, List.length_singleton, hrs_succ] at h
  have h1 := List.append_inj_left h (by simp)
  have h2 := List.append_inj_right h (by simp)
  refine ⟨h1, ?_⟩
  injection h2 with h3
  rw [h3, hr_val _ hl]

theorem good_all : Good (hrs 24) := by unfold Good; rw [hrs_length]

theorem clampTo_get (lo hi : Int) (xs : List Int) (k : Nat) (hx : xs.length = 24) (hk : k < 24) : (clampTo lo hi xs k)[k]?.getD 0 = xs[k]?.getD 0 := by
  unfold clampTo
  rw [List.getElem?_append_right (by simp; omega), List.getElem?_drop]
  congr 2
  simp; omega

theorem clampTo_step (lo hi : Int) (xs : List Int) (k : Nat) (hx : xs.length = 24) (hk : k < 24) :
    (clampTo lo hi xs k).set k (clampI lo hi (xs[k]?.getD 0)) = clampTo lo hi xs (k + 1) := by
  apply List.ext_getElem?
  intro j
  unfold clampTo
  simp only [List.getElem?_set, List.getElem?_append, List.length_map, List.length_take, List.getElem?_map, List.getElem?_take, List.getElem?_drop, List.length_append, List.length_drop, hx]
  by_cases h1 : k = j
  · subst h1
    rw [if_pos rfl, if_pos (by omega), if_pos (by omega), if_pos (by omega), List.getElem?_eq_getElem (by omega)]
    rfl
  · rw [if_neg h1]
    by_cases h2 : j < k
    · rw [if_pos (by omega), if_pos (by omega), if_pos (by omega), if_pos (by omega)]
    · rw [if_neg (by omega), if_neg (by omega)]
      congr 1
      omega

theorem clampTo_all (lo hi : Int) (xs : List Int) (hx : xs.length = 24) : clampTo lo hi xs 24 = xs.map (clampI lo hi) := by
  unfold clampTo
  rw [List.take_of_length_le (by omega), List.drop_of_length_le (by omega), List.append_nil]

def HeldI (w : World) (lo hi : Int) (xs : List Int) (pre : List Hr) (W : World) : Prop :=
  ∃ ys : List Int, ys.length = 24 ∧ W.heap[w.heap.size]? = some (.cells (i16s ys) 25 (0, 0)) ∧ W.heap[w.heap.size + 1]? = some (.cells #[.int .i16 lo] 24 (0, 0)) ∧ W.heap[w.heap.size + 1 + 1]? = some (.cells #[.int .i16 hi] 24 (0, 0)) ∧ W.heap[w.heap.size + 1 + 1 + 1]? = some (.cells (i16s zer) 25 (0, 0)) ∧ (Good pre → ys = clampTo lo hi xs pre.length) ∧ Below w.heap.size w W

theorem heldI_own (w : World) (lo hi : Int) (xs : List Int) (B : Nat) (hB : w.heap.size ≤ B) : OwnFrom B (HeldI w lo hi xs) := by
  intro s W W' row ⟨ys, hy, h0, h1, h2, h3, hg, hb⟩ hg' hr
  have hr2 := fun r e => (hr r e).2
  exact ⟨ys, hy, heap_kept h0 hg' hr2, heap_kept h1 hg' hr2, heap_kept h2 hg' hr2, heap_kept h3 hg' hr2, hg, ownFrom_below (β := Unit) (Nat.le_refl _) hB () W W' row hb hg' hr⟩

theorem held_step {w W : World} {lo hi : Int} {xs ys : List Int} {pre : List Hr} {k : Nat} {h01 : 0 ≤ (k : Int) ∧ (k : Int) < 24} (hx : xs.length = 24) (hy : ys.length = 24) (hl : pre.length < 24)
    (h0 : W.heap[w.heap.size]? = some (.cells (i16s ys) 25 (0, 0))) (h1 : W.heap[w.heap.size + 1]? = some (.cells #[.int .i16 lo] 24 (0, 0))) (h2 : W.heap[w.heap.size + 1 + 1]? = some (.cells #[.int .i16 hi] 24 (0, 0)))
    (h3 : W.heap[w.heap.size + 1 + 1 + 1]? = some (.cells (i16s zer) 25 (0, 0))) (hg : Good pre → ys = clampTo lo hi xs pre.length) (hb : Below w.heap.size w W) (v : Int) (hv : v = clampI lo hi (ys[k]?.getD 0)) :
    KeepsOthers W (W.setCell ⟨w.heap.size, k, none⟩ (.int .i16 v)).drew ∧ Below w.heap.size W (W.setCell ⟨w.heap.size, k, none⟩ (.int .i16 v)).drew ∧ HeldI w lo hi xs (pre ++ [⟨k, h01⟩]) (W.setCell ⟨w.heap.size, k, none⟩ (.int .i16 v)).drew := by
  have hk : k < 24 := by have := h01.2; omega
  refine ⟨(KeepsOthers.setCell _ _ _).trans (KeepsOthers.drew _), ((Below.refl w.heap.size W).setCell (p := ⟨w.heap.size, k, none⟩) (Nat.le_refl _) _).drew, ys.set k v, by simp [hy], ?_, ?_, ?_, ?_, ?_, (hb.setCell (p := ⟨w.heap.size, k, none⟩) (Nat.le_refl _) _).drew⟩
  · rw [heap_drew, heap_setCell_same _ _ _ _ _ _ h0, i16s_set]
  · rw [heap_drew, heap_setCell_other _ _ _ _ (by simp)]; exact h1
  · rw [heap_drew, heap_setCell_other _ _ _ _ (by simp; omega)]; exact h2
  · rw [heap_drew, heap_setCell_other _ _ _ _ (by simp; omega)]; exact h3
  · intro hgs
    obtain ⟨hgp, hxk⟩ := good_snoc hgs hl
    have hkl : k = pre.length := by have : (k : Int) = (pre.length : Int) := hxk; omega
    have hys := hg hgp
    rw [List.length_append, List.length_singleton, hv, hys, hkl, clampTo_get lo hi xs _ hx hl, clampTo_step lo hi xs _ hx hl]

theorem arrU : Tryz.prog.follows .mixedOrders = true := by kernel_rfl

set_option maxRecDepth 100000 in
set_option maxHeartbeats 2000000 in
theorem held_any (xs : List Int) (hx : xs.length = 24) (lo hi : Int) (w : World) :
    Calls Tryz.prog 78 #[.agg (i16s xs), .int .i16 lo, .int .i16 hi] w fun e w' => e = .returned (.agg (i16s (xs.map (clampI lo hi)))) ∧ Below w.heap.size w w' := by
  refine (callsIn_wide (n := 4)).1 ?_
  have Hx := Lib.hid hx
  clear hx
  refine callsIn_of_wp_marks Tryz.func78 rfl trivial ?_ rfl
  simp only [Tryz.ntmps78, List.size_toArray, List.length_cons, List.length_nil, Nat.reduceAdd, Nat.reduceSub, Array.replicate_succ, Array.replicate_zero, List.push_toArray, List.append_toArray, List.nil_append, List.cons_append]
  gi_wp2
  refine wpIn_rangeFunc_ownF rfl (by decide) (gf := 131) (lb := #[]) rfl trivial (enters_of Tryz.func131 (by kernel_rfl) rfl)
    (eachHour_stops Fence.wide _ trivial rfl (by decide) w.heap.size _) belowK_t (belowK_b (by simp; omega)) (Below.refl _ _) (fun _ => rfl)
    (HeldI w lo hi xs)
    (fun _ _ _ => False) (heldI_own w lo hi xs _ (by simp; omega)) (fun _ _ _ _ _ hs _ _ => hs) ?h0
    (fun x => { tmps := #[.agg (i16s xs), .int .i16 lo, .int .i16 hi, .pointer (some ⟨w.heap.size, 0, none⟩), .pointer (some ⟨w.heap.size + 1, 0, none⟩), .pointer (some ⟨w.heap.size + 1 + 1, 0, none⟩), .pointer (some ⟨w.heap.size + 1 + 1 + 1, 0, none⟩), .int .i64 x.1, .int .i64 x.1, undef, undef, undef, undef, undef, undef, undef, undef, undef, undef], defers := [] }) ?assign ?body ?done ?stop
  case h0 =>
    refine ⟨xs, Hx.out, ?_, ?_, ?_, ?_, fun _ => rfl, ((((Below.refl _ _).alloc (Nat.le_refl _) _).alloc (by simp) _).alloc (by simp; omega) _).alloc (by simp; omega) _⟩
    all_goals simp only [heap_alloc, World.size_alloc]
    · rw [if_neg (by omega), if_neg (by omega), if_neg (by omega), if_true]
    · rw [if_neg (by omega), if_neg (by omega), if_true]
    · rw [if_neg (by omega), if_true]
    · rw [if_true]; rfl
  case assign =>
    intro l x W K hK
    gi_wp2
    exact hK
  case body =>
    rintro l pre x W ⟨ys, hy, h0, h1, h2, h3, hg, hb⟩ hl
    have hmx := arrU
    obtain ⟨x, hx0, hx1⟩ := x
    obtain ⟨k, rfl⟩ := Int.eq_ofNat_of_zero_le hx0
    have hk : k < 24 := by omega
    have c0 := cell_of_i16s h0 k (by rw [hy]; exact hk)
    have c1 : W.cell? ⟨w.heap.size + 1, 0, none⟩ = some (.int .i16 lo) := by rw [cell_of_row W _ _ _ _ _ h1]; rfl
    have c2 : W.cell? ⟨w.heap.size + 1 + 1, 0, none⟩ = some (.int .i16 hi) := by rw [cell_of_row W _ _ _ _ _ h2]; rfl
    have f0 := frozen_of_row W w.heap.size k _ _ h0
    have H0 := Lib.hid h0
    have H1 := Lib.hid h1
    have H2 := Lib.hid h2
    have H3 := Lib.hid h3
    have HG := Lib.hid hg
    have Hy := Lib.hid hy
    clear h0 h1 h2 h3 hg hy
    gi_wp2
    refine still_tail_round (k := 9) hmx (by kernel_rfl) (no_defer (by rfl)) (fun ⟨_, _, h⟩ => h) ?_
    simp only [List.take_succ_cons, List.take_zero, List.drop_succ_cons, List.drop_zero]
    repeat still_step
    refine wpStill_nil ?_
    go_wp2
    all_goals refine held_step Hx.out Hy.out hl H0.out H1.out H2.out H3.out HG.out hb _ ?_
    all_goals (unfold clampI; clear H0 H1 H2 H3 HG Hy c0 f0)
    all_goals (repeat (first | rw [if_pos (by omega)] | rw [if_neg (by omega)]))
  case done =>
    rintro D zs W hD rfl ⟨ys, hy, h0, h1, h2, h3, hg, hb⟩ hK
    rename_i K hcont
    have hD' : w.heap.size + 4 ≤ D := by simpa using hD
    have hys : ys = xs.map (clampI lo hi) := by rw [hg good_all, hrs_length, clampTo_all lo hi xs Hx.out]
    subst hys
    clear hg hD h1 h2
    have H0 := Lib.hid h0
    have H3 := Lib.hid h3
    have HK := Lib.hid hK
    have Hy := Lib.hid hy
    clear h0 h3 hK hy
    refine hcont _ _ ?_
    refine wpIn_wide.2 ?_
    go_wp2_with (first | (refine wpList_load_part rfl 25 _ rfl w.heap.size 0 24 rfl 25 (i16s (xs.map (clampI lo hi))) (0, 0) _ H0.out Tryz.underlying25 rfl info_arr (by rw [i16s_size, Hy.out]; decide) (i16s (xs.map (clampI lo hi))) (i16s_all _ 24 Hy.out) ?_) | (refine wpList_store_part rfl 25 _ _ rfl (w.heap.size + 1 + 1 + 1) 0 (i16s (xs.map (clampI lo hi))) rfl rfl 25 (i16s zer) H3.out (by rw [i16s_size, Hy.out]; exact info_arr) (by rw [i16s_size, i16s_size, Hy.out]; decide) (i16s_one _) ?_; rw [laid_all _ _ (by rw [i16s_size, i16s_size, Hy.out]; rfl)]))
    have hK2 : (W.setRow (w.heap.size + 1 + 1 + 1) (i16s (xs.map (clampI lo hi)))).heap[D]? = some (.deferred (some [])) := (setRow_other _ _ _ _ (by omega)).trans HK.out
    have hR := setRow_heap W (w.heap.size + 1 + 1 + 1) _ (i16s (xs.map (clampI lo hi))) _ _ H3.out
    refine ⟨by simp, .inl ⟨_, _, rfl, run_takeDeferred hK2, ?_⟩⟩
    refine ⟨.agg (i16s (xs.map (clampI lo hi))), results_cell_row rfl _ _ (w.heap.size + 1 + 1 + 1) 25 _ (0, 0) _ rfl ((World.putObj_heap_other (by omega)).trans hR) Tryz.underlying25 rfl (by rw [i16s_size, Hy.out]; exact info_arr), rfl, ?_⟩
    exact (below_setRow hb (by omega) _).trans (belowK_b (w := w) (Nat.le_refl _) _ D _ _ (by omega) hK2 rfl rfl)
  case stop =>
    rintro D c pre W _ _ h _
    exact h.elim

end Go.Proofs.YtddnfbpgldchcaaGreatDoor

namespace Go.Proofs.YtddnfbpgldchcaaGreatDoor

open Go.RowKit

/-- A list of bytes, all of it below a block. -/
def BytesAt (V : World) (B : Nat) (v : Value) (n : Nat) : Prop :=
  ∃ a cap, v = .slice a n cap ∧ n ≤ cap ∧ cap ≤ maxLen ∧ ∀ i, i < n → ∃ (g o : Nat) (x : Int), a = some ⟨g, o, none⟩ ∧ g < B ∧ 0 ≤ x ∧ x ≤ 255 ∧ V.cell? ⟨g, o + i, none⟩ = some (.int .u8 x)

def srcC (v : Value) (at' sd : Int) : Array Value := #[v, .int .i64 at', .int .u64 sd]

/-- The source lies in block b; it has handed out at most m bytes. -/
def SrcAt (V : World) (b : Nat) (v : Value) (n m : Nat) : Prop :=
  BytesAt V b v n ∧ ∃ at' sd : Int, 0 ≤ at' ∧ at' ≤ (m : Int) ∧ 0 ≤ sd ∧ sd ≤ 18446744073709551615 ∧ V.heap[b]? = some (.cells (srcC v at' sd) 161 (0, 0))

theorem bytes_grown {V V' : World} {b n : Nat} {v : Value} (h : BytesAt V b v n) (hg : V.grownBy V' (some b)) : BytesAt V' b v n := by
  obtain ⟨a, cap, h1, h2, h3, h4⟩ := h
  refine ⟨a, cap, h1, h2, h3, fun i hi => ?_⟩
  obtain ⟨g, o, x, e, hgb, x0, x1, hc⟩ := h4 i hi
  have hlt := World.block_lt_of_cell? _ _ hc
  exact ⟨g, o, x, e, hgb, x0, x1, (World.cell?_of_block (hg.block g hlt (fun e => by injection e with e; omega))).trans hc⟩

theorem u64_bd (n : Int) : 0 ≤ IntKind.u64.wrap n ∧ IntKind.u64.wrap n ≤ 18446744073709551615 := by
  rw [IntKind.wrap_u64]
  omega

theorem and255 {s : Int} (h0 : 0 ≤ s) (h1 : s ≤ 18446744073709551615) : 0 ≤ wrap64 (bits BinOp.and IntKind.u64 (s / 1099511627776) 255) ∧ wrap64 (bits BinOp.and IntKind.u64 (s / 1099511627776) 255) ≤ 255 := by
  obtain ⟨a, ha⟩ := Int.eq_ofNat_of_zero_le (by omega : 0 ≤ s / 1099511627776)
  rw [ha]
  have hl : a < 18446744073709551616 := by omega
  have e : bits BinOp.and IntKind.u64 (a : Int) 255 = ((a &&& 255 : Nat) : Int) := u64_and_nat a 255 hl (by decide)
  have h2 : a &&& 255 ≤ 255 := Nat.and_le_right
  rw [e]
  unfold wrap64
  omega

theorem src_cells {V : World} {b : Nat} {v : Value} {x y : Int} {fr : Nat × Nat} (h : V.heap[b]? = some (.cells (srcC v x y) 161 fr)) : V.cell? ⟨b, 0, none⟩ = some v ∧ V.cell? ⟨b, 1, none⟩ = some (.int .i64 x) ∧ V.cell? ⟨b, 2, none⟩ = some (.int .u64 y) :=
  ⟨by rw [cell_of_row _ _ _ _ _ _ h]; rfl, by rw [cell_of_row _ _ _ _ _ _ h]; rfl, by rw [cell_of_row _ _ _ _ _ _ h]; rfl⟩

theorem grown_set {V : World} {b o : Nat} (x : Value) : V.grownBy (V.setCell ⟨b, o, none⟩ x) (some b) :=
  ⟨rfl, rfl, rfl, by simp, fun k _ hk => heap_setCell_other _ _ _ _ (fun e => hk (congrArg some e))⟩

theorem grown_t {A B C : World} {r : Option Nat} (h : A.grownBy B r) (k : B.grownBy C r) : A.grownBy C r :=
  ⟨k.os.trans h.os, k.tape.trans h.tape, k.output.trans h.output, Nat.le_trans h.size k.size, fun i hi hne => (k.block i (Nat.lt_of_lt_of_le hi h.size) hne).trans (h.block i hi hne)⟩

set_option maxRecDepth 100000 in
set_option maxHeartbeats 4000000 in
theorem next_any (b n m : Nat) (v : Value) (hm : m ≤ 1000000) (V : World) (h : SrcAt V b v n m) :
    Calls Tryz.prog 116 #[.pointer (some ⟨b, 0, none⟩)] V fun e V' => (∃ r : Int, e = .returned (.int .i64 r) ∧ 0 ≤ r ∧ r ≤ 255) ∧ SrcAt V' b v n (m + 1) ∧ V.grownBy V' (some b) := by
  obtain ⟨hB, at', sd, a0, a1, s0, s1, hrow⟩ := h
  have HB := Lib.hid hB
  obtain ⟨a, cap, ev, hc1, hc2, hall⟩ := id hB
  unfold maxLen at hc2
  have HR := Lib.hid hrow
  obtain ⟨k0, k1, k2⟩ := src_cells hrow
  rw [ev] at k0
  have f1 := frozen_of_row V b 1 _ _ hrow
  have hw1 : IntKind.i64.wrap (at' + 1) = at' + 1 := by rw [IntWalk.i64_in _ (by omega)]
  clear hrow hB
  by_cases hlt : at' < (n : Int)
  · obtain ⟨i, rfl⟩ := Int.eq_ofNat_of_zero_le a0
    obtain ⟨g, o, x, ea, hgb, x0, x1, hcx⟩ := hall i (by omega)
    subst ea
    have hwx : IntKind.i64.wrap x = x := by rw [IntWalk.i64_in _ (by omega)]
    have z3 : decide ((i : Int) < (n : Int)) = true := decide_eq_true hlt
    clear hall
    go_enter Tryz.func116, Tryz.ntmps116
    go_wp2
    go_quiet (fail)
    go_wp2
    go_quiet (fail)
    go_upto_region 5 with (fail)
    refine abs_code (fun W => W.heap[b]? = some (.cells (srcC v ((i : Int) + 1) sd) 161 (0, 0)) ∧ V.grownBy W (some b)) ⟨?_, ⟨rfl, rfl, rfl, by simp, fun k _ hk => heap_setCell_other _ _ _ _ (fun e => hk (congrArg some e))⟩⟩ ?_
    · show (V.setCell ⟨b, 1, none⟩ (.int .i64 ((i : Int) + 1))).heap[b]? = _
      rw [heap_setCell_same _ _ _ _ _ _ HR.out]
      rfl
    rintro W ⟨hr, hg⟩
    have HRW := Lib.hid hr
    obtain ⟨j0, j1, j2⟩ := src_cells hr
    have f2 := frozen_of_row W b 2 _ _ hr
    clear k0 k1 k2 f1 hr
    go_upto_region 6 with (fail)
    refine abs_code (fun X => ∃ sd' : Int, 0 ≤ sd' ∧ sd' ≤ 18446744073709551615 ∧ X.heap[b]? = some (.cells (srcC v ((i : Int) + 1) sd') 161 (0, 0)) ∧ V.grownBy X (some b)) ⟨_, (u64_bd _).1, (u64_bd _).2, by rw [heap_setCell_same _ _ _ _ _ _ HRW.out]; rfl, grown_t hg (grown_set _)⟩ ?_
    clear j0 j1 j2 f2 hg HRW HR
    rintro X ⟨sd', d0, d1, hr, hg⟩
    have HRX := Lib.hid hr
    obtain ⟨j0, j1, j2⟩ := src_cells hr
    rw [ev] at j0
    clear hr
    have z4 : (i : Int) + 1 ≤ (n : Int) := by omega
    have z5 : decide ((i : Int) + 1 ≤ (n : Int)) = true := decide_eq_true z4
    go_wp2
    go_quiet (fail)
    go_wp2
    go_ret
    exact ⟨⟨x, rfl, x0, x1⟩, ⟨bytes_grown HB.out ⟨hg.os, hg.tape, hg.output, hg.size, hg.block⟩, (i : Int) + 1, sd', by omega, by omega, d0, d1, HRX.out⟩, ⟨hg.os, hg.tape, hg.output, hg.size, hg.block⟩⟩
  · have z3 : decide (at' < (n : Int)) = false := decide_eq_false hlt
    clear hall
    go_enter Tryz.func116, Tryz.ntmps116
    go_wp2
    go_quiet (fail)
    go_upto_region 5 with (fail)
    refine abs_code (fun W => W.heap[b]? = some (.cells (srcC v (at' + 1) sd) 161 (0, 0)) ∧ V.grownBy W (some b)) ⟨?_, ⟨rfl, rfl, rfl, by simp, fun k _ hk => heap_setCell_other _ _ _ _ (fun e => hk (congrArg some e))⟩⟩ ?_
    · show (V.setCell ⟨b, 1, none⟩ (.int .i64 (at' + 1))).heap[b]? = _
      rw [heap_setCell_same _ _ _ _ _ _ HR.out]
      rfl
    rintro W ⟨hr, hg⟩
    have HRW := Lib.hid hr
    obtain ⟨j0, j1, j2⟩ := src_cells hr
    have f2 := frozen_of_row W b 2 _ _ hr
    clear k0 k1 k2 f1 hr
    go_upto_region 6 with (fail)
    refine abs_code (fun X => ∃ sd' : Int, 0 ≤ sd' ∧ sd' ≤ 18446744073709551615 ∧ X.heap[b]? = some (.cells (srcC v (at' + 1) sd') 161 (0, 0)) ∧ V.grownBy X (some b)) ⟨_, (u64_bd _).1, (u64_bd _).2, by rw [heap_setCell_same _ _ _ _ _ _ HRW.out]; rfl, grown_t hg (grown_set _)⟩ ?_
    clear j0 j1 j2 f2 hg HRW HR
    rintro X ⟨sd', d0, d1, hr, hg⟩
    have HRX := Lib.hid hr
    obtain ⟨j0, j1, j2⟩ := src_cells hr
    rw [ev] at j0
    clear hr
    have z4 : ¬ (at' + 1 ≤ (n : Int)) := by omega
    have z5 : decide (at' + 1 ≤ (n : Int)) = false := decide_eq_false z4
    go_wp2
    go_quiet (fail)
    go_wp2
    go_ret
    refine ⟨⟨_, rfl, ?_, ?_⟩, ⟨bytes_grown HB.out ⟨hg.os, hg.tape, hg.output, hg.size, hg.block⟩, at' + 1, sd', by omega, by omega, d0, d1, HRX.out⟩, ⟨hg.os, hg.tape, hg.output, hg.size, hg.block⟩⟩
    · exact (and255 d0 d1).1
    · exact (and255 d0 d1).2

theorem src_mono {V : World} {b n m k : Nat} {v : Value} (h : SrcAt V b v n m) (hk : m ≤ k) : SrcAt V b v n k := by
  obtain ⟨hB, x, y, h0, h1, h2, h3, h4⟩ := h
  exact ⟨hB, x, y, h0, by omega, h2, h3, h4⟩

theorem grown_r (V : World) (r : Option Nat) : V.grownBy V r := ⟨rfl, rfl, rfl, Nat.le_refl _, fun _ _ _ => rfl⟩

set_option maxRecDepth 100000 in
set_option maxHeartbeats 2000000 in
theorem pick_any (b n m : Nat) (v : Value) (hm : m ≤ 900000) (k : Int) (k0 : 1 ≤ k) (k1 : k ≤ 65536) (V : World) (h : SrcAt V b v n m) :
    Calls Tryz.prog 57 #[.pointer (some ⟨b, 0, none⟩), .int .i64 k] V fun e V' => (∃ r : Int, e = .returned (.int .i64 r) ∧ 0 ≤ r ∧ r < k) ∧ SrcAt V' b v n (m + 2) ∧ V.grownBy V' (some b) := by
  have HN1 := Lib.hid (fun V h => next_any b n m v (by omega) V h)
  have HN2 := Lib.hid (fun V h => next_any b n (m + 1) v (by omega) V h)
  have HS := Lib.hid h
  clear h
  by_cases hk : k ≤ 1
  · have e1 : k = 1 := by omega
    subst e1
    go_enter Tryz.func57, Tryz.ntmps57
    go_wp2
    go_ret
    exact ⟨⟨0, rfl, by decide, by decide⟩, src_mono HS.out (by omega), grown_r _ _⟩
  · have z1 : decide (k ≤ 1) = false := decide_eq_false hk
    have hne : k ≠ 0 := by omega
    have hr : ∀ x : Int, 0 ≤ x % k ∧ x % k < k := fun x => ⟨Int.emod_nonneg _ hne, Int.emod_lt_of_pos _ (by omega)⟩
    by_cases h2 : k > 200
    · have z2 : decide (k > 200) = true := decide_eq_true h2
      go_enter Tryz.func57, Tryz.ntmps57
      go_upto_region 4 with (go_at_call 116; refine (HN1.out _ HS.out).mono ?_; rintro e W1 ⟨⟨x, rfl, x0, x1⟩, hs1, hg1⟩)
      have HS1 := Lib.hid hs1
      have hw1 : IntKind.i64.wrap (x * 256) = x * 256 := by rw [IntWalk.i64_in _ (by omega)]
      go_upto_region 6 with (go_at_call 116; refine (HN2.out _ HS1.out).mono ?_; rintro e W2 ⟨⟨y, rfl, y0, y1⟩, hs2, hg2⟩)
      have hw2 : IntKind.i64.wrap (x * 256 + y) = x * 256 + y := by rw [IntWalk.i64_in _ (by omega)]
      go_wp2
      go_ret
      exact ⟨⟨_, rfl, hr _⟩, hs2, grown_t hg1 hg2⟩
    · have z2 : decide (k > 200) = false := decide_eq_false h2
      go_enter Tryz.func57, Tryz.ntmps57
      go_upto_region 4 with (go_at_call 116; refine (HN1.out _ HS.out).mono ?_; rintro e W1 ⟨⟨x, rfl, x0, x1⟩, hs1, hg1⟩)
      go_wp2
      go_ret
      exact ⟨⟨_, rfl, hr _⟩, src_mono hs1 (by omega), hg1⟩

end Go.Proofs.YtddnfbpgldchcaaGreatDoor

namespace Go.Proofs.YtddnfbpgldchcaaGreatDoor

open Go.RowKit

set_option maxRecDepth 100000 in
set_option maxHeartbeats 2000000 in
theorem one_any (b n m : Nat) (v : Value) (hm : m ≤ 900000) (k : Int) (k0 : 1 ≤ k) (k1 : k ≤ 65536) (V : World) (h : SrcAt V b v n m) :
    Calls Tryz.prog 101 #[.pointer (some ⟨b, 0, none⟩), .int .i64 k] V fun e V' => (∃ r : Bool, e = .returned (.bool r)) ∧ SrcAt V' b v n (m + 2) ∧ V.grownBy V' (some b) := by
  have HP := Lib.hid (fun V h => pick_any b n m v hm k k0 k1 V h)
  have HS := Lib.hid h
  clear h
  go_enter Tryz.func101, Tryz.ntmps101
  go_wp2_with (go_at_call 57; refine (HP.out _ HS.out).mono ?_; rintro e W1 ⟨⟨x, rfl, x0, x1⟩, hs1, hg1⟩)
  go_ret
  exact ⟨⟨_, rfl⟩, hs1, hg1⟩

set_option maxRecDepth 100000 in
set_option maxHeartbeats 2000000 in
theorem l00From_any (n cap : Nat) (a : Option Addr) (V : World) (h : BytesAt V V.heap.size (.slice a n cap) n) :
    Calls Tryz.prog 40 #[.slice a n cap] V fun e V' => e = .returned (.pointer (some ⟨V.heap.size, 0, none⟩)) ∧ SrcAt V' V.heap.size (.slice a n cap) n 0 ∧ Below V.heap.size V V' := by
  have hbi : Tryz.prog.built 161 [(0, .slice a n cap)] = some (srcC (.slice a n cap) 0 0) := by kernel_rfl
  have HB := Lib.hid h
  clear h
  go_enter Tryz.func40, Tryz.ntmps40
  go_wp2
  go_ret
  have hbl : Below V.heap.size V (V.alloc (.cells (srcC (.slice a n cap) 0 0) 161)) := (Below.refl _ _).alloc (Nat.le_refl _) _
  exact ⟨rfl, ⟨bytes_grown HB.out ⟨hbl.os, hbl.tape, hbl.output, hbl.size, fun k hk _ => hbl.block k hk⟩, 0, 0, by decide, by decide, by decide, by decide, heap_alloc_new _ _⟩, hbl⟩

end Go.Proofs.YtddnfbpgldchcaaGreatDoor

namespace Go.Proofs.YtddnfbpgldchcaaGreatDoor

open Go.RowKit

theorem ofNat_rnd (k : Nat) : Rnd (k * 2 ^ 149) 1 (floatOfInt .f32 (k : Int)) := by
  have e : floatOfInt .f32 (k : Int) = Ieee.single.nearest false k 0 := by
    have h0 : decide ((k : Int) < 0) = false := decide_eq_false (by omega)
    show Ieee.single.write (.number (decide ((k : Int) < 0)) (k : Int).natAbs 0) = _
    rw [h0, Int.natAbs_natCast]
    rfl
  rw [e]
  exact nearest_rnd k 0 149 0 (by decide)

theorem ofNat_mono {j k : Nat} (h : j ≤ k) : floatOfInt .f32 (j : Int) ≤ floatOfInt .f32 (k : Int) :=
  rnd_mono (ofNat_rnd j) (ofNat_rnd k) (by decide) (by decide) (by rw [Nat.mul_one, Nat.mul_one]; exact Nat.mul_le_mul_right _ h)

/-- A part of whole numbers. -/
theorem tone_of {r R c : Nat} (hr : r ≤ R) (hR : floatOfInt .f32 (R : Int) < 2139095040) (hc0 : 0 < c) (hc : c < 2139095040) (h1 : fdiv (floatOfInt .f32 (R : Int)) c ≤ 1065353216) : floatBits .quo .f32 (floatOfInt .f32 (r : Int)) c = some (fdiv (floatOfInt .f32 (r : Int)) c) ∧ fdiv (floatOfInt .f32 (r : Int)) c ≤ 1065353216 := by
  have hm := ofNat_mono hr
  exact ⟨(div_rnd (by omega) hc hc0).1, Nat.le_trans (div_mono hR hc hc0 hm (Nat.le_refl _)) h1⟩

theorem tone16 {r : Nat} (hr : r ≤ 16) : floatBits .quo .f32 (floatOfInt .f32 (r : Int)) 1098907648 = some (fdiv (floatOfInt .f32 (r : Int)) 1098907648) ∧ fdiv (floatOfInt .f32 (r : Int)) 1098907648 ≤ 1065353216 := tone_of (R := 16) hr (by decide +kernel) (by decide) (by decide) (by decide +kernel)

theorem tone1000 {r : Nat} (hr : r ≤ 1000) : floatBits .quo .f32 (floatOfInt .f32 (r : Int)) 1148846080 = some (fdiv (floatOfInt .f32 (r : Int)) 1148846080) ∧ fdiv (floatOfInt .f32 (r : Int)) 1148846080 ≤ 1065353216 := tone_of (R := 1000) hr (by decide +kernel) (by decide) (by decide) (by decide +kernel)

theorem tone24 {r : Nat} (hr : r ≤ 16777216) : floatBits .quo .f32 (floatOfInt .f32 (r : Int)) 1266679808 = some (fdiv (floatOfInt .f32 (r : Int)) 1266679808) ∧ fdiv (floatOfInt .f32 (r : Int)) 1266679808 ≤ 1065353216 := tone_of (R := 16777216) hr (by decide +kernel) (by decide) (by decide) (by decide +kernel)

set_option maxRecDepth 100000 in
set_option maxHeartbeats 2000000 in
theorem l01Raw_any (b n m : Nat) (v : Value) (hm : m ≤ 800000) (V : World) (h : SrcAt V b v n m) :
    Calls Tryz.prog 79 #[.pointer (some ⟨b, 0, none⟩)] V fun e V' => (∃ r : Nat, e = .returned (.int .u32 (r : Int)) ∧ r < 4294967296) ∧ SrcAt V' b v n (m + 4) ∧ V.grownBy V' (some b) := by
  have HP1 := Lib.hid (fun V h => pick_any b n m v (by omega) 65536 (by decide) (by decide) V h)
  have HP2 := Lib.hid (fun V h => pick_any b n (m + 2) v (by omega) 65536 (by decide) (by decide) V h)
  have HS := Lib.hid h
  clear h
  go_enter Tryz.func79, Tryz.ntmps79
  go_upto_region 2 with (go_at_call 57; refine (HP1.out _ HS.out).mono ?_; rintro e W1 ⟨⟨x, rfl, x0, x1⟩, hs1, hg1⟩)
  have HS1 := Lib.hid hs1
  obtain ⟨p, rfl⟩ := Int.eq_ofNat_of_zero_le x0
  have hw1 : IntKind.u32.wrap (p : Int) = (p : Int) := by rw [IntWalk.u32_in _ (by omega)]
  have hw3 : IntKind.u32.wrap ((p : Int) * 65536) = (p : Int) * 65536 := by rw [IntWalk.u32_in _ (by omega)]
  have hw4 : IntKind.u32.wrap ((p : Int) * 2 ^ 16) = (p : Int) * 2 ^ 16 := by rw [IntWalk.u32_in _ (by omega)]
  go_wp2_with (go_at_call 57; refine (HP2.out _ HS1.out).mono ?_; rintro e W2 ⟨⟨y, rfl, y0, y1⟩, hs2, hg2⟩)
  go_ret
  obtain ⟨q, rfl⟩ := Int.eq_ofNat_of_zero_le y0
  have e : bits .or .u32 ((p : Int) * 65536) (q : Int) = ((p * 65536 ||| q : Nat) : Int) := by
    have := u32_or_nat (p * 65536) q (by omega) (by omega)
    rw [Int.natCast_mul] at this
    exact this
  refine ⟨⟨p * 65536 ||| q, ?_, Nat.or_lt_two_pow (n := 32) (by omega) (by omega)⟩, hs2, grown_t hg1 hg2⟩
  show Ending.returned (.int .u32 (bits .or .u32 ((p : Int) * 65536) (q : Int))) = _
  rw [e]

set_option maxRecDepth 100000 in
set_option maxHeartbeats 2000000 in
theorem l01Tone_any (b n m : Nat) (v : Value) (hm : m ≤ 700000) (V : World) (h : SrcAt V b v n m) :
    Calls Tryz.prog 58 #[.pointer (some ⟨b, 0, none⟩)] V fun e V' => (∃ z : Nat, e = .returned (.float .f32 z) ∧ z ≤ 1065353216) ∧ SrcAt V' b v n (m + 6) ∧ V.grownBy V' (some b) := by
  have HP1 := Lib.hid (fun V h => pick_any b n m v (by omega) 4 (by decide) (by decide) V h)
  have HP2 := Lib.hid (fun V h => pick_any b n (m + 2) v (by omega) 17 (by decide) (by decide) V h)
  have HP3 := Lib.hid (fun V h => pick_any b n (m + 2) v (by omega) 1001 (by decide) (by decide) V h)
  have HRW := Lib.hid (fun V h => l01Raw_any b n (m + 2) v (by omega) V h)
  have HS := Lib.hid h
  clear h
  go_enter Tryz.func58, Tryz.ntmps58
  go_upto_region 2 with (go_at_call 57; refine (HP1.out _ HS.out).mono ?_; rintro e W1 ⟨⟨x, rfl, x0, x1⟩, hs1, hg1⟩)
  have HS1 := Lib.hid hs1
  by_cases c0 : x = 0
  · subst c0
    go_wp2_with (go_at_call 57; refine (HP2.out _ HS1.out).mono ?_; rintro e W2 ⟨⟨y, rfl, y0, y1⟩, hs2, hg2⟩; obtain ⟨p, rfl⟩ := Int.eq_ofNat_of_zero_le y0; have hp : p ≤ 16 := (by omega); have rq : ∀ T w, (binOp .quo T (.float .f32 (floatOfInt .f32 (p : Int))) (.float .f32 1098907648)).run Tryz.prog w = .ok (.float .f32 (fdiv (floatOfInt .f32 (p : Int)) 1098907648)) w := (fun T w => run_float_arith w .quo T .f32 _ _ _ (tone16 hp).1))
    go_ret
    exact ⟨⟨_, rfl, (tone16 hp).2⟩, src_mono hs2 (by omega), grown_t hg1 hg2⟩
  · have z0 : (x == 0) = false := by simpa using c0
    by_cases c1 : x = 1
    · subst c1
      go_wp2_with (go_at_call 57; refine (HP3.out _ HS1.out).mono ?_; rintro e W2 ⟨⟨y, rfl, y0, y1⟩, hs2, hg2⟩; obtain ⟨p, rfl⟩ := Int.eq_ofNat_of_zero_le y0; have hp : p ≤ 1000 := (by omega); have rq : ∀ T w, (binOp .quo T (.float .f32 (floatOfInt .f32 (p : Int))) (.float .f32 1148846080)).run Tryz.prog w = .ok (.float .f32 (fdiv (floatOfInt .f32 (p : Int)) 1148846080)) w := (fun T w => run_float_arith w .quo T .f32 _ _ _ (tone1000 hp).1))
      go_ret
      exact ⟨⟨_, rfl, (tone1000 hp).2⟩, src_mono hs2 (by omega), grown_t hg1 hg2⟩
    · have z1 : (x == 1) = false := by simpa using c1
      go_wp2_with (go_at_call 79; refine (HRW.out _ HS1.out).mono ?_; rintro e W2 ⟨⟨r, rfl, hr⟩, hs2, hg2⟩; have h9 := (tone24 (r := r / 256) (by omega)).1; rw [Int.natCast_ediv] at h9; have rq : ∀ T w, (binOp .quo T (.float .f32 (floatOfInt .f32 ((r : Int) / 256))) (.float .f32 1266679808)).run Tryz.prog w = .ok (.float .f32 (fdiv (floatOfInt .f32 ((r : Int) / 256)) 1266679808)) w := (fun T w => run_float_arith w .quo T .f32 _ _ _ h9))
      go_ret
      refine ⟨⟨_, rfl, ?_⟩, src_mono hs2 (by omega), grown_t hg1 hg2⟩
      have h8 := (tone24 (r := r / 256) (by omega)).2
      rw [Int.natCast_ediv] at h8
      exact h8

end Go.Proofs.YtddnfbpgldchcaaGreatDoor

namespace Go.Proofs.YtddnfbpgldchcaaGreatDoor

open Go.RowKit

def Sized (z : Nat) : Prop := 1031798784 ≤ z ∧ z ≤ 1115684864

theorem sized16 {k : Nat} (h0 : 1 ≤ k) (h1 : k ≤ 64) : floatBits .quo .f32 (floatOfInt .f32 (k : Int)) 1098907648 = some (fdiv (floatOfInt .f32 (k : Int)) 1098907648) ∧ Sized (fdiv (floatOfInt .f32 (k : Int)) 1098907648) := by
  have hm := ofNat_mono h1
  have hl := ofNat_mono h0
  have hR : floatOfInt .f32 ((64 : Nat) : Int) < 2139095040 := by decide +kernel
  have e1 : fdiv (floatOfInt .f32 ((64 : Nat) : Int)) 1098907648 ≤ 1115684864 := by decide +kernel
  have e2 : 1031798784 ≤ fdiv (floatOfInt .f32 ((1 : Nat) : Int)) 1098907648 := by decide +kernel
  exact ⟨(div_rnd (by omega) (by decide) (by decide)).1, Nat.le_trans e2 (div_mono (by omega) (by decide) (by decide) hl (Nat.le_refl _)), Nat.le_trans (div_mono hR (by decide) (by decide) hm (Nat.le_refl _)) e1⟩

theorem sized21 {k : Nat} (h1 : k ≤ 16777216) : floatBits .quo .f32 (floatOfInt .f32 (k : Int)) 1241513984 = some (fdiv (floatOfInt .f32 (k : Int)) 1241513984) ∧ floatBits .add .f32 1031798784 (fdiv (floatOfInt .f32 (k : Int)) 1241513984) = some (fadd 1031798784 (fdiv (floatOfInt .f32 (k : Int)) 1241513984)) ∧ Sized (fadd 1031798784 (fdiv (floatOfInt .f32 (k : Int)) 1241513984)) := by
  have hm := ofNat_mono h1
  have hR : floatOfInt .f32 ((16777216 : Nat) : Int) < 2139095040 := by decide +kernel
  have e1 : fdiv (floatOfInt .f32 ((16777216 : Nat) : Int)) 1241513984 ≤ 1090519040 := by decide +kernel
  have e2 : fadd 1031798784 1090519040 ≤ 1115684864 := by decide +kernel
  have e3 : 1031798784 ≤ fadd 1031798784 0 := by decide +kernel
  have hq := Nat.le_trans (div_mono (y := 1241513984) (Y := 1241513984) hR (by decide) (by decide) hm (Nat.le_refl _)) e1
  exact ⟨(div_rnd (by omega) (by decide) (by decide)).1, (add_rnd (by decide) (by omega)).1, Nat.le_trans e3 (add_mono (by decide) (by omega) (Nat.le_refl _) (Nat.zero_le _)), Nat.le_trans (add_mono (by decide) (by decide) (Nat.le_refl _) hq) e2⟩

set_option maxRecDepth 100000 in
set_option maxHeartbeats 2000000 in
theorem l02Sized_any (b n m : Nat) (v : Value) (hm : m ≤ 700000) (V : World) (h : SrcAt V b v n m) :
    Calls Tryz.prog 103 #[.pointer (some ⟨b, 0, none⟩)] V fun e V' => (∃ z : Nat, e = .returned (.float .f32 z) ∧ Sized z) ∧ SrcAt V' b v n (m + 6) ∧ V.grownBy V' (some b) := by
  have HON := Lib.hid (fun V h => one_any b n m v (by omega) 3 (by decide) (by decide) V h)
  have HP2 := Lib.hid (fun V h => pick_any b n (m + 2) v (by omega) 64 (by decide) (by decide) V h)
  have HRW := Lib.hid (fun V h => l01Raw_any b n (m + 2) v (by omega) V h)
  have HS := Lib.hid h
  clear h
  go_enter Tryz.func103, Tryz.ntmps103
  go_upto_region 2 with (go_at_call 101; refine (HON.out _ HS.out).mono ?_; rintro e W1 ⟨⟨rb, rfl⟩, hs1, hg1⟩)
  all_goals have HS1 := Lib.hid hs1
  · go_wp2_with (go_at_call 57; refine (HP2.out _ HS1.out).mono ?_; rintro e W2 ⟨⟨y, rfl, y0, y1⟩, hs2, hg2⟩; obtain ⟨p, rfl⟩ := Int.eq_ofNat_of_zero_le y0; have hw : IntKind.i64.wrap (1 + (p : Int)) = 1 + (p : Int) := (by rw [IntWalk.i64_in _ (by omega)]); have hz := sized16 (k := 1 + p) (by omega) (by omega); rw [Int.natCast_add] at hz; have rq : ∀ T w, (binOp .quo T (.float .f32 (floatOfInt .f32 (1 + (p : Int)))) (.float .f32 1098907648)).run Tryz.prog w = .ok (.float .f32 (fdiv (floatOfInt .f32 (1 + (p : Int))) 1098907648)) w := (fun T w => run_float_arith w .quo T .f32 _ _ _ hz.1))
    go_ret
    exact ⟨⟨_, rfl, hz.2⟩, src_mono hs2 (by omega), grown_t hg1 hg2⟩
  · go_wp2_with (go_at_call 79; refine (HRW.out _ HS1.out).mono ?_; rintro e W2 ⟨⟨r, rfl, hr⟩, hs2, hg2⟩; have hz := sized21 (k := r / 256) (by omega); rw [Int.natCast_ediv] at hz; have rq : ∀ T w, (binOp .quo T (.float .f32 (floatOfInt .f32 ((r : Int) / 256))) (.float .f32 1241513984)).run Tryz.prog w = .ok (.float .f32 (fdiv (floatOfInt .f32 ((r : Int) / 256)) 1241513984)) w := (fun T w => run_float_arith w .quo T .f32 _ _ _ hz.1); have ra : ∀ T w, (binOp .add T (.float .f32 1031798784) (.float .f32 (fdiv (floatOfInt .f32 ((r : Int) / 256)) 1241513984))).run Tryz.prog w = .ok (.float .f32 (fadd 1031798784 (fdiv (floatOfInt .f32 ((r : Int) / 256)) 1241513984))) w := (fun T w => run_float_arith w .add T .f32 _ _ _ hz.2.1))
    go_ret
    exact ⟨⟨_, rfl, hz.2.2⟩, src_mono hs2 (by omega), grown_t hg1 hg2⟩

end Go.Proofs.YtddnfbpgldchcaaGreatDoor

namespace Go.Proofs.YtddnfbpgldchcaaGreatDoor

open Go Go.RowKit

theorem heap_push (w : World) (o : Obj) (i : Nat) : (w.alloc o).heap[i]? = if i = w.heap.size then some o else w.heap[i]? := by
  show (w.heap.push o)[i]? = _
  exact Array.getElem?_push

theorem three_new (w : World) (a b c : Obj) : (((w.alloc a).alloc b).alloc c).heap[w.heap.size]? = some a ∧ (((w.alloc a).alloc b).alloc c).heap[w.heap.size + 1]? = some b ∧ (((w.alloc a).alloc b).alloc c).heap[w.heap.size + 1 + 1]? = some c ∧ Below w.heap.size w (((w.alloc a).alloc b).alloc c) := by
  refine ⟨?_, ?_, ?_, (((Below.refl _ _).alloc (Nat.le_refl _) _).alloc (by simp) _).alloc (by simp; omega) _⟩
  all_goals simp only [heap_push, World.size_alloc]
  · rw [if_neg (by omega), if_neg (by omega), if_true]
  · rw [if_neg (by omega), if_true]
  · rw [if_true]

theorem four_new (w : World) (a b c d : Obj) : ((((w.alloc a).alloc b).alloc c).alloc d).heap[w.heap.size]? = some a ∧ ((((w.alloc a).alloc b).alloc c).alloc d).heap[w.heap.size + 1]? = some b ∧ ((((w.alloc a).alloc b).alloc c).alloc d).heap[w.heap.size + 1 + 1]? = some c ∧ ((((w.alloc a).alloc b).alloc c).alloc d).heap[w.heap.size + 1 + 1 + 1]? = some d ∧ Below w.heap.size w ((((w.alloc a).alloc b).alloc c).alloc d) := by
  refine ⟨?_, ?_, ?_, ?_, ((((Below.refl _ _).alloc (Nat.le_refl _) _).alloc (by simp) _).alloc (by simp; omega) _).alloc (by simp; omega) _⟩
  all_goals simp only [heap_push, World.size_alloc]
  · rw [if_neg (by omega), if_neg (by omega), if_neg (by omega), if_true]
  · rw [if_neg (by omega), if_neg (by omega), if_true]
  · rw [if_neg (by omega), if_true]
  · rw [if_true]

end Go.Proofs.YtddnfbpgldchcaaGreatDoor

namespace Go.Proofs.YtddnfbpgldchcaaGreatDoor

open Go.RowKit

def inB (n lo hi : Int) : Bool := decide (lo ≤ n) && decide (n ≤ hi)

theorem inB_true {n lo hi : Int} (h : inB n lo hi = true) : lo ≤ n ∧ n ≤ hi := by simpa [inB] using h

theorem inB_mk {n lo hi : Int} (h : lo ≤ n ∧ n ≤ hi) : inB n lo hi = true := by simpa [inB] using h

set_option maxHeartbeats 400000 in
theorem l00In_any (n lo hi : Int) (w : World) :
    Calls Tryz.prog 98 #[.int .i64 n, .int .i64 lo, .int .i64 hi] w fun e w' => e = .returned (.bool (inB n lo hi)) ∧ w = w' := by
  unfold inB
  by_cases h1 : lo ≤ n
  · have h1' : decide (lo ≤ n) = true := decide_eq_true h1
    go_enter Tryz.func98, Tryz.ntmps98
    go_wp2
    go_ret
    rw [h1', Bool.true_and]
    exact ⟨rfl, rfl⟩
  · have h1' : decide (lo ≤ n) = false := decide_eq_false h1
    go_enter Tryz.func98, Tryz.ntmps98
    go_wp2
    go_ret
    exact ⟨by simp, rfl⟩

set_option maxHeartbeats 400000 in
theorem l01Height_any (n : Int) (w : World) :
    Calls Tryz.prog 149 #[.int .i64 n] w fun e w' => e = .returned (.bool (inB n (-64) 64)) ∧ w = w' := by
  go_enter Tryz.func149, Tryz.ntmps149
  go_wp2_with (go_at_call 98; refine (l00In_any _ _ _ _).mono ?_; rintro e w' ⟨rfl, rfl⟩)
  go_ret
  exact ⟨rfl, rfl⟩

set_option maxHeartbeats 400000 in
theorem l01Faced_any (n : Int) (w : World) :
    Calls Tryz.prog 48 #[.int .i64 n] w fun e w' => e = .returned (.bool (inB n 0 255)) ∧ w = w' := by
  go_enter Tryz.func48, Tryz.ntmps48
  go_wp2_with (go_at_call 98; refine (l00In_any _ _ _ _).mono ?_; rintro e w' ⟨rfl, rfl⟩)
  go_ret
  exact ⟨rfl, rfl⟩

set_option maxHeartbeats 400000 in
theorem l01Hour_any (n : Int) (w : World) :
    Calls Tryz.prog 47 #[.int .i64 n] w fun e w' => e = .returned (.bool (inB n 0 23)) ∧ w = w' := by
  go_enter Tryz.func47, Tryz.ntmps47
  go_wp2_with (go_at_call 98; refine (l00In_any _ _ _ _).mono ?_; rintro e w' ⟨rfl, rfl⟩)
  go_ret
  exact ⟨rfl, rfl⟩

/-- A sun is valid. -/
def okB (hs ts : List Int) : Bool := hs.all (fun x => inB x (-64) 64) && ts.all (fun x => inB x 0 255)

theorem all_get {p : Int → Bool} {xs : List Int} (n : Nat) (hx : xs.length = n) : xs.all p = true ↔ ∀ k, k < n → p (xs[k]?.getD 0) = true := by
  rw [List.all_eq_true]
  constructor
  · intro h k hk
    rw [List.getElem?_eq_getElem (by omega)]
    exact h _ (List.getElem_mem _)
  · intro h x hm
    obtain ⟨k, hk, rfl⟩ := List.mem_iff_getElem.1 hm
    have := h k (by omega)
    rwa [List.getElem?_eq_getElem hk] at this

theorem okB_iff (hs ts : List Int) (hh : hs.length = 24) (ht : ts.length = 24) : okB hs ts = true ↔ ∀ k, k < 24 → inB (hs[k]?.getD 0) (-64) 64 = true ∧ inB (ts[k]?.getD 0) 0 255 = true := by
  unfold okB
  rw [Bool.and_eq_true, all_get 24 hh, all_get 24 ht]
  constructor
  · intro h k hk; exact ⟨h.1 k hk, h.2 k hk⟩
  · intro h; exact ⟨fun k hk => (h k hk).1, fun k hk => (h k hk).2⟩

theorem okB_false {hs ts : List Int} (hh : hs.length = 24) (ht : ts.length = 24) (k : Nat) (hk : k < 24) (h : inB (hs[k]?.getD 0) (-64) 64 = false ∨ inB (ts[k]?.getD 0) 0 255 = false) : okB hs ts = false := by
  cases e : okB hs ts
  · rfl
  · obtain ⟨h1, h2⟩ := (okB_iff hs ts hh ht).1 e k hk
    rcases h with h | h
    · rw [h] at h1; cases h1
    · rw [h] at h2; cases h2

theorem cell_sun_h {w : World} {b : Nat} {hs ts : List Int} {t : TypeId} {fr : Nat × Nat} (hg : w.heap[b]? = some (.cells (sunC hs ts) t fr)) (hh : hs.length = 24) (k : Nat) (hk : k < 24) :
    w.cell? ⟨b, k, none⟩ = some (.int .i16 (hs[k]?.getD 0)) := by
  rw [cell_of_row w b k _ t fr hg, sunC, i16s_get _ _ (by simp; omega), List.getElem?_append_left (by omega)]

theorem cell_sun_t {w : World} {b : Nat} {hs ts : List Int} {t : TypeId} {fr : Nat × Nat} (hg : w.heap[b]? = some (.cells (sunC hs ts) t fr)) (hh : hs.length = 24) (ht : ts.length = 24) (k : Nat) (hk : k < 24) :
    w.cell? ⟨b, 24 + k, none⟩ = some (.int .i16 (ts[k]?.getD 0)) := by
  rw [cell_of_row w b (24 + k) _ t fr hg, sunC, i16s_get _ _ (by simp; omega), List.getElem?_append_right (by omega)]
  congr 4; omega

theorem rb_get {xs : List Int} (h : ∀ x ∈ xs, -32768 ≤ x ∧ x ≤ 32767) (k : Nat) : -32768 ≤ xs[k]?.getD 0 ∧ xs[k]?.getD 0 ≤ 32767 := by
  by_cases hk : k < xs.length
  · have e : xs[k]? = some xs[k] := List.getElem?_eq_getElem hk
    rw [e]; exact h _ (List.getElem_mem _)
  · rw [List.getElem?_eq_none (by omega)]; decide

set_option maxRecDepth 100000 in
set_option maxHeartbeats 1000000 in
theorem l01Ok_any (b : Nat) (hs ts : List Int) (hh : hs.length = 24) (ht : ts.length = 24) (rb : ∀ x ∈ hs ++ ts, -32768 ≤ x ∧ x ≤ 32767) (t : TypeId) (fr : Nat × Nat) (w : World) (hg : w.heap[b]? = some (.cells (sunC hs ts) t fr)) :
    Calls Tryz.prog 108 #[.pointer (some ⟨b, 0, none⟩)] w fun e w' => e = .returned (.bool (okB hs ts)) ∧ w = w' := by
  have Hh := Lib.hid hh
  have Ht := Lib.hid ht
  have Hg := Lib.hid hg
  have Rb := Lib.hid rb
  clear hh ht hg rb
  go_enter Tryz.func108, Tryz.ntmps108
  go_wp2
  go_loop [3] (fun i => ∃ k : Nat, k ≤ 24 ∧ i = .int .i64 k ∧ Hid (∀ j, j < k → inB (hs[j]?.getD 0) (-64) 64 = true ∧ inB (ts[j]?.getD 0) 0 255 = true)) (fun i => 24 - (intOf i).toNat)
  case atStart => exact ⟨0, Nat.zero_le _, rfl, Lib.hid (fun j h => absurd h (by omega))⟩
  case round =>
    obtain ⟨k, hk, rfl, hj⟩ := hrel
    by_cases hlt : k < 24
    · have c0 := cell_sun_h Hg.out Hh.out k hlt
      have c1 := cell_sun_t Hg.out Hh.out Ht.out k hlt
      have hxb := rb_get (fun x hx => Rb.out x (List.mem_append_left ts hx)) k
      have hyb := rb_get (fun x hx => Rb.out x (List.mem_append_right hs hx)) k
      generalize hA : hs[k]?.getD 0 = x at *
      generalize hB : ts[k]?.getD 0 = y at *
      have HA := Lib.hid hA
      have HB := Lib.hid hB
      clear hA hB
      obtain ⟨hx0, hx1⟩ := hxb
      obtain ⟨hy0, hy1⟩ := hyb
      by_cases h1 : inB x (-64) 64 = true
      · by_cases h2 : inB y 0 255 = true
        · go_wp2_with (first | (go_at_call 149; refine (l01Height_any _ _).mono ?_; rintro e w' ⟨rfl, rfl⟩) | (go_at_call 48; refine (l01Faced_any _ _).mono ?_; rintro e w' ⟨rfl, rfl⟩))
          go_round
          case rel =>
            refine ⟨k + 1, by omega, by go_num, Lib.hid fun j hj' => ?_⟩
            by_cases e : j = k
            · subst e; rw [HA.out, HB.out]; exact ⟨h1, h2⟩
            · exact hj.out j (by omega)
          case measure => simp [intOf]; omega
        · have h2' : inB y 0 255 = false := by simpa using h2
          have hno := Lib.hid (okB_false Hh.out Ht.out k hlt (.inr (by rw [HB.out]; exact h2')))
          clear h2
          go_wp2_with (first | (go_at_call 149; refine (l01Height_any _ _).mono ?_; rintro e w' ⟨rfl, rfl⟩) | (go_at_call 48; refine (l01Faced_any _ _).mono ?_; rintro e w' ⟨rfl, rfl⟩))
          go_ret
          rw [hno.out]; exact ⟨rfl, rfl⟩
      · have h1' : inB x (-64) 64 = false := by simpa using h1
        have hno := Lib.hid (okB_false Hh.out Ht.out k hlt (.inl (by rw [HA.out]; exact h1')))
        clear h1
        go_wp2_with (first | (go_at_call 149; refine (l01Height_any _ _).mono ?_; rintro e w' ⟨rfl, rfl⟩) | (go_at_call 48; refine (l01Faced_any _ _).mono ?_; rintro e w' ⟨rfl, rfl⟩))
        go_ret
        rw [hno.out]; exact ⟨rfl, rfl⟩
    · obtain rfl : k = 24 := by omega
      have hyes := Lib.hid ((okB_iff hs ts Hh.out Ht.out).2 hj.out)
      go_wp2
      go_ret
      rw [hyes.out]; exact ⟨rfl, rfl⟩

end Go.Proofs.YtddnfbpgldchcaaGreatDoor

namespace Go.Proofs.YtddnfbpgldchcaaGreatDoor

open Go.RowKit

theorem yields_part {P : Program} {ops : Array Oper} {S : World → Prop} {o : Oper} {a : Act} (hw : Region.wanted o (yielded ops a.tmps) = true) (ty : TypeId) (x : Operand) (ho : o.op = .load ty x)
    (g off n : Nat) (hx : a.eval x = .pointer (some ⟨g, off, none⟩)) (t : TypeId) (cs : Array Value) (fr : Nat × Nat) (d : TypeDesc) (hg : ∀ w, S w → w.heap[g]? = some (.cells cs t fr))
    (hu : P.underlying ty = some d) (hd : (match d with | .struct _ | .array _ _ => true | _ => false) = true) (hi : (P.info? ty).map (·.size) = some n) (hn : off + n ≤ cs.size)
    (vs : Array Value) (hvs : cs.extract off (off + n) = vs) : YieldsIf P ops S o (.agg vs) a :=
  .inl ⟨hw, fun w hw' => by
    subst hvs
    unfold execOp
    simp only [ho, hx, Instr.loadAt, Instr.sureAddr, Sem.run_bind, Sem.run_pure, Result.andThen_ok, run_loadVar_part w g off n t ty cs fr d (hg w hw') hu hd hi hn]⟩

theorem take_at {P : Program} {ops : Array Oper} {Q : Exit → Act → World → Prop} {md : Region.Mode} {S : World → Prop} {i d : Nat} {oi : Oper} {v : Value} {fuel : Nat} {listed : Array Bool} {a : Act} {w : World} (hi : ops[i]? = some oi) (hd : oi.dst = some d)
    (hs : Region.noSelect ops = true) (hf : Region.free md ops listed i = true) (hr : (Region.ready md ops listed).contains i = true)
    (hQ : ∀ c a w, Q (.panic c) (a.put oi.dst v) w → Q (.panic c) a w) (hy : YieldsIf P ops S oi v a) (hS : S w)
    (h : wpAnyH P md ops Q S fuel (listed.setIfInBounds i true) { tmps := a.tmps.setIfInBounds d v, defers := a.defers } w) : wpAnyH P md ops Q S (fuel + 1) listed a w :=
  wpAnyH_take hi hs hf hr hQ hy hS (by rw [hd]; exact h)

theorem clamp_eq (lo hi : Int) (h : lo ≤ hi) (y : Int) : clampI lo hi y = y ↔ inB y lo hi = true := by
  unfold clampI
  constructor
  · intro e
    apply inB_mk
    split at e <;> split at e <;> omega
  · intro e
    have := inB_true e
    have e1 : ¬ lo > y := by omega
    rw [if_neg e1, if_neg (by omega)]

theorem map_clamp (lo hi : Int) (h : lo ≤ hi) (xs : List Int) : (xs.map (clampI lo hi) == xs) = xs.all (fun x => inB x lo hi) := by
  rw [Bool.eq_iff_iff, beq_iff_eq, List.all_eq_true]
  induction xs with
  | nil => simp
  | cons x xs ih =>
    simp only [List.map_cons, List.cons.injEq, List.mem_cons, forall_eq_or_imp]
    rw [ih, clamp_eq lo hi h]

set_option maxRecDepth 100000 in
set_option maxHeartbeats 1000000 in
theorem ValidSun_any (hs ts : List Int) (hh : hs.length = 24) (ht : ts.length = 24) (w : World) :
    Calls Tryz.prog 104 #[.agg (sunC hs ts)] w fun e w' => e = .returned (.bool (okB hs ts)) ∧ Below w.heap.size w w' := by
  have hq1 := run_eql_arr (hs.map (clampI (-64) 64)) hs (by simpa using hh) hh
  have hq2 := run_eql_arr (ts.map (clampI 0 255)) ts (by simpa using ht) ht
  rw [map_clamp _ _ (by decide)] at hq1 hq2
  have hgd1 := fun w => run_eqGuard_agg (P := Tryz.prog) w .eql 25 (.tmp 5) (.tmp 7) (i16s (hs.map (clampI (-64) 64))) (i16s hs) (by kernel_rfl)
  have hgd2 := fun w => run_eqGuard_agg (P := Tryz.prog) w .eql 25 (.tmp 12) (.tmp 14) (i16s (ts.map (clampI 0 255))) (i16s ts) (by kernel_rfl)
  have Hh := Lib.hid hh
  have Ht := Lib.hid ht
  clear hh ht
  unfold okB
  by_cases hb : hs.all (fun x => inB x (-64) 64) = true
  · rw [hb] at hq1
    rw [hb]
    go_enter Tryz.func104, Tryz.ntmps104
    go_wp2
    refine wp_region_held_drew (S := (fun W => W.heap[w.heap.size]? = some (.cells (sunC hs ts) 27 (0, 0)) ∧ Below w.heap.size w W)) (by kernel_rfl) ⟨heap_alloc_new _ _, ((Below.refl _ _).alloc (Nat.le_refl _) _).drew⟩ (fun hHeld => ?_)
    refine take_at (i := 0) (d := 3) (v := ?_) rfl rfl (by kernel_rfl) (by kernel_rfl) (by kernel_rfl) (fun _ _ _ h => h) (Or.inl ⟨by rfl, ?hy0u1⟩) hHeld ?rest0u1
    case hy0u1 =>
      intro w' hS'
      go_simp
      try with_reducible rfl
    simp only [List.setIfInBounds_toArray, List.set_cons_zero, List.set_cons_succ]
    refine take_at (i := 1) (d := 4) (v := .agg (i16s hs)) rfl rfl (by kernel_rfl) (by kernel_rfl) (by kernel_rfl) (fun _ _ _ h => h) (yields_part (by rfl) 25 (.tmp 3) (by rfl) w.heap.size 0 24 (by rfl) 27 (sunC hs ts) (0, 0) _ (fun _ h => h.1) Tryz.underlying25 rfl info_arr (by rw [sunC_size _ _ Hh.out Ht.out]; decide) (i16s hs) (sunC_fst _ _ Hh.out)) hHeld ?_
    simp only [List.setIfInBounds_toArray, List.set_cons_zero, List.set_cons_succ]
    refine take_at (i := 3) (d := 6) (v := ?_) rfl rfl (by kernel_rfl) (by kernel_rfl) (by kernel_rfl) (fun _ _ _ h => h) (Or.inl ⟨by rfl, ?hy3u2⟩) hHeld ?rest3u2
    case hy3u2 =>
      intro w' hS'
      go_simp
      try with_reducible rfl
    simp only [List.setIfInBounds_toArray, List.set_cons_zero, List.set_cons_succ]
    refine take_at (i := 4) (d := 7) (v := .agg (i16s hs)) rfl rfl (by kernel_rfl) (by kernel_rfl) (by kernel_rfl) (fun _ _ _ h => h) (yields_part (by rfl) 25 (.tmp 6) (by rfl) w.heap.size 0 24 (by rfl) 27 (sunC hs ts) (0, 0) _ (fun _ h => h.1) Tryz.underlying25 rfl info_arr (by rw [sunC_size _ _ Hh.out Ht.out]; decide) (i16s hs) (sunC_fst _ _ Hh.out)) hHeld ?_
    simp only [List.setIfInBounds_toArray, List.set_cons_zero, List.set_cons_succ]
    refine wpAnyH_ready (rs := [2]) (by kernel_rfl) (by simp) ?_
    refine AllReadyH.cons rfl (fun K hK => ?_) AllReadyH.nil
    go_simp
    refine (held_any hs Hh.out (-64) 64 _).mono ?_
    rintro e W1 ⟨rfl, hb1⟩
    refine hK.out _ _ (⟨below_row hb1 hHeld.1, hHeld.2.trans (hb1.mono hHeld.2.size)⟩) (fun hHeld2 => ?_)
    clear hK K
    replace hHeld := hHeld2
    clear hHeld2
    refine take_at (i := 5) (d := 8) (v := ?_) rfl rfl (by kernel_rfl) (by kernel_rfl) (by kernel_rfl) (fun _ _ _ h => h) (Or.inl ⟨by rfl, ?hy5u3⟩) hHeld ?rest5u3
    case hy5u3 =>
      intro w' hS'
      go_simp
      try with_reducible rfl
    simp only [List.setIfInBounds_toArray, List.set_cons_zero, List.set_cons_succ]
    refine take_at (i := 6) (d := 9) (v := ?_) rfl rfl (by kernel_rfl) (by kernel_rfl) (by kernel_rfl) (fun _ _ _ h => h) (Or.inl ⟨by rfl, ?hy6u4⟩) hHeld ?rest6u4
    case hy6u4 =>
      intro w' hS'
      go_simp
      try with_reducible rfl
    simp only [List.setIfInBounds_toArray, List.set_cons_zero, List.set_cons_succ]
    refine take_at (i := 7) (d := 10) (v := ?_) rfl rfl (by kernel_rfl) (by kernel_rfl) (by kernel_rfl) (fun _ _ _ h => h) (Or.inl ⟨by rfl, ?hy7u5⟩) hHeld ?rest7u5
    case hy7u5 =>
      intro w' hS'
      go_simp
      try with_reducible rfl
    simp only [List.setIfInBounds_toArray, List.set_cons_zero, List.set_cons_succ]
    refine take_at (i := 8) (d := 11) (v := .agg (i16s ts)) rfl rfl (by kernel_rfl) (by kernel_rfl) (by kernel_rfl) (fun _ _ _ h => h) (yields_part (by rfl) 25 (.tmp 10) (by rfl) w.heap.size 24 24 (by rfl) 27 (sunC hs ts) (0, 0) _ (fun _ h => h.1) Tryz.underlying25 rfl info_arr (by rw [sunC_size _ _ Hh.out Ht.out]; decide) (i16s ts) (sunC_snd _ _ Hh.out Ht.out)) hHeld ?_
    simp only [List.setIfInBounds_toArray, List.set_cons_zero, List.set_cons_succ]
    refine take_at (i := 10) (d := 13) (v := ?_) rfl rfl (by kernel_rfl) (by kernel_rfl) (by kernel_rfl) (fun _ _ _ h => h) (Or.inl ⟨by rfl, ?hy10u6⟩) hHeld ?rest10u6
    case hy10u6 =>
      intro w' hS'
      go_simp
      try with_reducible rfl
    simp only [List.setIfInBounds_toArray, List.set_cons_zero, List.set_cons_succ]
    refine take_at (i := 11) (d := 14) (v := .agg (i16s ts)) rfl rfl (by kernel_rfl) (by kernel_rfl) (by kernel_rfl) (fun _ _ _ h => h) (yields_part (by rfl) 25 (.tmp 13) (by rfl) w.heap.size 24 24 (by rfl) 27 (sunC hs ts) (0, 0) _ (fun _ h => h.1) Tryz.underlying25 rfl info_arr (by rw [sunC_size _ _ Hh.out Ht.out]; decide) (i16s ts) (sunC_snd _ _ Hh.out Ht.out)) hHeld ?_
    simp only [List.setIfInBounds_toArray, List.set_cons_zero, List.set_cons_succ]
    refine wpAnyH_ready (rs := [9]) (by kernel_rfl) (by simp) ?_
    refine AllReadyH.cons rfl (fun K hK => ?_) AllReadyH.nil
    go_simp
    refine (held_any ts Ht.out 0 255 _).mono ?_
    rintro e W1 ⟨rfl, hb1⟩
    refine hK.out _ _ (⟨below_row hb1 hHeld.1, hHeld.2.trans (hb1.mono hHeld.2.size)⟩) (fun hHeld2 => ?_)
    clear hK K
    replace hHeld := hHeld2
    clear hHeld2
    refine take_at (i := 12) (d := 15) (v := ?_) rfl rfl (by kernel_rfl) (by kernel_rfl) (by kernel_rfl) (fun _ _ _ h => h) (Or.inl ⟨by rfl, ?hy12u7⟩) hHeld ?rest12u7
    case hy12u7 =>
      intro w' hS'
      go_simp
      try with_reducible rfl
    simp only [List.setIfInBounds_toArray, List.set_cons_zero, List.set_cons_succ]
    refine take_at (i := 13) (d := 16) (v := ?_) rfl rfl (by kernel_rfl) (by kernel_rfl) (by kernel_rfl) (fun _ _ _ h => h) (Or.inl ⟨by rfl, ?hy13u8⟩) hHeld ?rest13u8
    case hy13u8 =>
      intro w' hS'
      go_simp
      try with_reducible rfl
    simp only [List.setIfInBounds_toArray, List.set_cons_zero, List.set_cons_succ]
    refine take_at (i := 14) (d := 2) (v := ?_) rfl rfl (by kernel_rfl) (by kernel_rfl) (by kernel_rfl) (fun _ _ _ h => h) (Or.inl ⟨by rfl, ?hy14u9⟩) hHeld ?rest14u9
    case hy14u9 =>
      intro w' hS'
      go_simp
      try with_reducible rfl
    simp only [List.setIfInBounds_toArray, List.set_cons_zero, List.set_cons_succ]
    refine wpAnyH_done (by kernel_rfl) ?_ _
    go_wp2
    go_ret
    exact ⟨by rw [Bool.true_and]; rfl, hHeld.2⟩
  · have hb' : hs.all (fun x => inB x (-64) 64) = false := by simpa using hb
    rw [hb'] at hq1
    rw [hb']
    clear hb hb'
    go_enter Tryz.func104, Tryz.ntmps104
    go_wp2
    refine wp_region_held_drew (S := (fun W => W.heap[w.heap.size]? = some (.cells (sunC hs ts) 27 (0, 0)) ∧ Below w.heap.size w W)) (by kernel_rfl) ⟨heap_alloc_new _ _, ((Below.refl _ _).alloc (Nat.le_refl _) _).drew⟩ (fun hHeld => ?_)
    refine take_at (i := 0) (d := 3) (v := ?_) rfl rfl (by kernel_rfl) (by kernel_rfl) (by kernel_rfl) (fun _ _ _ h => h) (Or.inl ⟨by rfl, ?hy0u10⟩) hHeld ?rest0u10
    case hy0u10 =>
      intro w' hS'
      go_simp
      try with_reducible rfl
    simp only [List.setIfInBounds_toArray, List.set_cons_zero, List.set_cons_succ]
    refine take_at (i := 1) (d := 4) (v := .agg (i16s hs)) rfl rfl (by kernel_rfl) (by kernel_rfl) (by kernel_rfl) (fun _ _ _ h => h) (yields_part (by rfl) 25 (.tmp 3) (by rfl) w.heap.size 0 24 (by rfl) 27 (sunC hs ts) (0, 0) _ (fun _ h => h.1) Tryz.underlying25 rfl info_arr (by rw [sunC_size _ _ Hh.out Ht.out]; decide) (i16s hs) (sunC_fst _ _ Hh.out)) hHeld ?_
    simp only [List.setIfInBounds_toArray, List.set_cons_zero, List.set_cons_succ]
    refine take_at (i := 3) (d := 6) (v := ?_) rfl rfl (by kernel_rfl) (by kernel_rfl) (by kernel_rfl) (fun _ _ _ h => h) (Or.inl ⟨by rfl, ?hy3u11⟩) hHeld ?rest3u11
    case hy3u11 =>
      intro w' hS'
      go_simp
      try with_reducible rfl
    simp only [List.setIfInBounds_toArray, List.set_cons_zero, List.set_cons_succ]
    refine take_at (i := 4) (d := 7) (v := .agg (i16s hs)) rfl rfl (by kernel_rfl) (by kernel_rfl) (by kernel_rfl) (fun _ _ _ h => h) (yields_part (by rfl) 25 (.tmp 6) (by rfl) w.heap.size 0 24 (by rfl) 27 (sunC hs ts) (0, 0) _ (fun _ h => h.1) Tryz.underlying25 rfl info_arr (by rw [sunC_size _ _ Hh.out Ht.out]; decide) (i16s hs) (sunC_fst _ _ Hh.out)) hHeld ?_
    simp only [List.setIfInBounds_toArray, List.set_cons_zero, List.set_cons_succ]
    refine wpAnyH_ready (rs := [2]) (by kernel_rfl) (by simp) ?_
    refine AllReadyH.cons rfl (fun K hK => ?_) AllReadyH.nil
    go_simp
    refine (held_any hs Hh.out (-64) 64 _).mono ?_
    rintro e W1 ⟨rfl, hb1⟩
    refine hK.out _ _ (⟨below_row hb1 hHeld.1, hHeld.2.trans (hb1.mono hHeld.2.size)⟩) (fun hHeld2 => ?_)
    clear hK K
    replace hHeld := hHeld2
    clear hHeld2
    refine take_at (i := 5) (d := 8) (v := ?_) rfl rfl (by kernel_rfl) (by kernel_rfl) (by kernel_rfl) (fun _ _ _ h => h) (Or.inl ⟨by rfl, ?hy5u12⟩) hHeld ?rest5u12
    case hy5u12 =>
      intro w' hS'
      go_simp
      try with_reducible rfl
    simp only [List.setIfInBounds_toArray, List.set_cons_zero, List.set_cons_succ]
    refine take_at (i := 6) (d := 9) (v := ?_) rfl rfl (by kernel_rfl) (by kernel_rfl) (by kernel_rfl) (fun _ _ _ h => h) (Or.inl ⟨by rfl, ?hy6u13⟩) hHeld ?rest6u13
    case hy6u13 =>
      intro w' hS'
      go_simp
      try with_reducible rfl
    simp only [List.setIfInBounds_toArray, List.set_cons_zero, List.set_cons_succ]
    refine take_at (i := 7) (d := 10) rfl rfl (by kernel_rfl) (by kernel_rfl) (by kernel_rfl) (fun _ _ _ h => h) (Or.inr ⟨by rfl, rfl⟩) hHeld ?_
    simp only [List.setIfInBounds_toArray, List.set_cons_zero, List.set_cons_succ]
    refine take_at (i := 8) (d := 11) rfl rfl (by kernel_rfl) (by kernel_rfl) (by kernel_rfl) (fun _ _ _ h => h) (Or.inr ⟨by rfl, rfl⟩) hHeld ?_
    simp only [List.setIfInBounds_toArray, List.set_cons_zero, List.set_cons_succ]
    refine take_at (i := 10) (d := 13) rfl rfl (by kernel_rfl) (by kernel_rfl) (by kernel_rfl) (fun _ _ _ h => h) (Or.inr ⟨by rfl, rfl⟩) hHeld ?_
    simp only [List.setIfInBounds_toArray, List.set_cons_zero, List.set_cons_succ]
    refine take_at (i := 11) (d := 14) rfl rfl (by kernel_rfl) (by kernel_rfl) (by kernel_rfl) (fun _ _ _ h => h) (Or.inr ⟨by rfl, rfl⟩) hHeld ?_
    simp only [List.setIfInBounds_toArray, List.set_cons_zero, List.set_cons_succ]
    refine take_at (i := 9) (d := 12) rfl rfl (by kernel_rfl) (by kernel_rfl) (by kernel_rfl) (fun _ _ _ h => h) (Or.inr ⟨by rfl, rfl⟩) hHeld ?_
    simp only [List.setIfInBounds_toArray, List.set_cons_zero, List.set_cons_succ]
    refine take_at (i := 12) (d := 15) rfl rfl (by kernel_rfl) (by kernel_rfl) (by kernel_rfl) (fun _ _ _ h => h) (Or.inr ⟨by rfl, rfl⟩) hHeld ?_
    simp only [List.setIfInBounds_toArray, List.set_cons_zero, List.set_cons_succ]
    refine take_at (i := 13) (d := 16) (v := ?_) rfl rfl (by kernel_rfl) (by kernel_rfl) (by kernel_rfl) (fun _ _ _ h => h) (Or.inl ⟨by rfl, ?hy13u14⟩) hHeld ?rest13u14
    case hy13u14 =>
      intro w' hS'
      go_simp
      try with_reducible rfl
    simp only [List.setIfInBounds_toArray, List.set_cons_zero, List.set_cons_succ]
    refine take_at (i := 14) (d := 2) (v := ?_) rfl rfl (by kernel_rfl) (by kernel_rfl) (by kernel_rfl) (fun _ _ _ h => h) (Or.inl ⟨by rfl, ?hy14u15⟩) hHeld ?rest14u15
    case hy14u15 =>
      intro w' hS'
      go_simp
      try with_reducible rfl
    simp only [List.setIfInBounds_toArray, List.set_cons_zero, List.set_cons_succ]
    refine wpAnyH_done (by kernel_rfl) ?_ _
    go_wp2
    go_ret
    exact ⟨by rw [Bool.false_and]; rfl, hHeld.2⟩

end Go.Proofs.YtddnfbpgldchcaaGreatDoor

namespace Go.Proofs.YtddnfbpgldchcaaGreatDoor

open Go.ChangeShapes Go.WideShapes Go.ChangeAt Go.RowKit

end Go.Proofs.YtddnfbpgldchcaaGreatDoor

namespace Go.Proofs.YtddnfbpgldchcaaGreatDoor

open Go.ChangeShapes Go.WideShapes Go.ChangeAt Go.RowKit

end Go.Proofs.YtddnfbpgldchcaaGreatDoor

namespace Go.Proofs.YtddnfbpgldchcaaGreatDoor

open Go.RowKit

def inH (n : Int) : Bool := inB n 0 23

def inF (n : Int) : Bool := inB n 0 255

set_option maxHeartbeats 400000 in
theorem isHour_any (n : Int) (w : World) :
    Calls Tryz.prog 43 #[.int .i64 n] w fun e w' => e = .returned (.bool (inH n)) ∧ w = w' := by
  have e : inH n = (decide (0 ≤ n) && decide (n < 24)) := by
    unfold inH inB
    congr 1
    rw [Bool.eq_iff_iff, decide_eq_true_iff, decide_eq_true_iff]; omega
  rw [e]
  clear e
  by_cases h1 : 0 ≤ n
  · have h1' : decide (0 ≤ n) = true := decide_eq_true h1
    go_enter Tryz.func43, Tryz.ntmps43
    go_wp2
    go_ret
    rw [h1', Bool.true_and]
    exact ⟨rfl, rfl⟩
  · have h1' : decide (0 ≤ n) = false := decide_eq_false h1
    go_enter Tryz.func43, Tryz.ntmps43
    go_wp2
    go_ret
    exact ⟨rfl, rfl⟩

set_option maxHeartbeats 400000 in
theorem isFacing_any (n : Int) (w : World) :
    Calls Tryz.prog 44 #[.int .i64 n] w fun e w' => e = .returned (.bool (inF n)) ∧ w = w' := by
  have e : inF n = (decide (0 ≤ n) && decide (n < 256)) := by
    unfold inF inB
    congr 1
    rw [Bool.eq_iff_iff, decide_eq_true_iff, decide_eq_true_iff]; omega
  rw [e]
  clear e
  by_cases h1 : 0 ≤ n
  · have h1' : decide (0 ≤ n) = true := decide_eq_true h1
    go_enter Tryz.func44, Tryz.ntmps44
    go_wp2
    go_ret
    rw [h1', Bool.true_and]
    exact ⟨rfl, rfl⟩
  · have h1' : decide (0 ≤ n) = false := decide_eq_false h1
    go_enter Tryz.func44, Tryz.ntmps44
    go_wp2
    go_ret
    exact ⟨rfl, rfl⟩

/-- The code of a sun, and of what is asked of numbers. -/
def codeB (ok fine : Bool) : Int := if ok then (if fine then 0 else 2) else 1

set_option maxRecDepth 100000 in
set_option maxHeartbeats 1000000 in
theorem checkSun_any (hs ts : List Int) (hh : hs.length = 24) (ht : ts.length = 24) (fine : Bool) (w : World) :
    Calls Tryz.prog 42 #[.agg (sunC hs ts), .bool fine] w fun e w' => e = .returned (.int .i64 (codeB (okB hs ts) fine)) ∧ Below w.heap.size w w' := by
  have Hh := Lib.hid hh
  have Ht := Lib.hid ht
  clear hh ht
  generalize hok : okB hs ts = ok
  have Hok := Lib.hid hok
  clear hok
  cases ok <;> cases fine
  all_goals
    go_enter Tryz.func42, Tryz.ntmps42
    go_upto_region 1 with (fail)
    refine abs_code (fun W => Below w.heap.size w W ∧ W.heap[w.heap.size]? = some (.cells (sunC hs ts) 27 (0, 0))) ⟨(Below.refl _ _).alloc (Nat.le_refl _) _, heap_alloc_new _ _⟩ ?_
    rintro W ⟨hb, h0⟩
    have H0 := Lib.hid h0
    clear h0
    go_wp2_with (first | (refine wpList_load_part rfl 27 _ rfl w.heap.size 0 48 rfl 27 (sunC hs ts) (0, 0) _ H0.out Tryz.underlying27 rfl info_sun (sun_fits _ _ Hh.out Ht.out) (sunC hs ts) (sun_all _ _ Hh.out Ht.out) ?_) | (go_at_call 104; refine (ValidSun_any hs ts Hh.out Ht.out _).mono ?_; rw [Hok.out]; rintro e W1 ⟨rfl, hb1⟩; replace H0 := Lib.hid (below_row hb1 H0.out); replace hb := hb.trans (hb1.mono hb.size); clear hb1))
    go_ret
    exact ⟨rfl, hb⟩

set_option maxRecDepth 100000 in
set_option maxHeartbeats 1000000 in
theorem l01Asked_any (b : Nat) (hs ts : List Int) (hh : hs.length = 24) (ht : ts.length = 24) (rb : ∀ x ∈ hs ++ ts, -32768 ≤ x ∧ x ≤ 32767) (t : TypeId) (fr : Nat × Nat) (fine : Bool) (w : World) (hg : w.heap[b]? = some (.cells (sunC hs ts) t fr)) :
    Calls Tryz.prog 46 #[.pointer (some ⟨b, 0, none⟩), .bool fine] w fun e w' => e = .returned (.int .i64 (codeB (okB hs ts) fine)) ∧ w = w' := by
  have Hh := Lib.hid hh
  have Ht := Lib.hid ht
  have Rb := Lib.hid rb
  clear hh ht rb
  have Hg := Lib.hid hg
  clear hg
  generalize hok : okB hs ts = ok
  have Hok := Lib.hid hok
  clear hok
  cases ok <;> cases fine
  all_goals
    go_enter Tryz.func46, Tryz.ntmps46
    go_wp2_with (go_at_call 108; refine (l01Ok_any b hs ts Hh.out Ht.out Rb.out t fr _ Hg.out).mono ?_; rw [Hok.out]; rintro e w' ⟨rfl, rfl⟩)
    go_ret
    exact ⟨rfl, rfl⟩

/-- The height at an hour; the turn at an hour. -/
def atH (xs : List Int) (hour : Int) : Int := xs[hour.toNat]?.getD 0

set_option maxRecDepth 100000 in
set_option maxHeartbeats 400000 in
theorem upAt_any (hs ts : List Int) (hh : hs.length = 24) (hour : Int) (h0 : 0 ≤ hour) (h1 : hour < 24) (w : World) :
    Calls Tryz.prog 105 #[.agg (sunC hs ts), .int .i64 hour] w fun e w' => e = .returned (.bool (decide (0 < atH hs hour))) ∧ Below w.heap.size w w' := by
  obtain ⟨k, rfl⟩ := Int.eq_ofNat_of_zero_le h0
  have hk : k < 24 := by omega
  have hc := cell_sun_h (heap_alloc_new w (.cells (sunC hs ts) 27)) hh k hk
  have ea : atH hs (k : Int) = hs[k]?.getD 0 := by unfold atH; rw [Int.toNat_natCast]
  rw [ea]
  generalize hs[k]?.getD 0 = x at *
  clear ea hh
  go_enter Tryz.func105, Tryz.ntmps105
  go_wp2
  go_ret
  exact ⟨rfl, (Below.refl _ _).alloc (Nat.le_refl _) _⟩

end Go.Proofs.YtddnfbpgldchcaaGreatDoor

namespace Go.Proofs.YtddnfbpgldchcaaGreatDoor

open Go.ChangeShapes Go.WideShapes Go.ChangeAt Go.RowKit

theorem isHour_is (n : Int) (b : Bool) (h : inH n = b) (w : World) : Calls Tryz.prog 43 #[.int .i64 n] w fun e w' => e = .returned (.bool b) ∧ w = w' := by
  subst h; exact isHour_any n w

theorem l01Hour_is (n : Int) (b : Bool) (h : inH n = b) (w : World) : Calls Tryz.prog 47 #[.int .i64 n] w fun e w' => e = .returned (.bool b) ∧ w = w' := by
  subst h; exact l01Hour_any n w

theorem checkSun_is (hs ts : List Int) (hh : hs.length = 24) (ht : ts.length = 24) (fine : Bool) (c : Int) (h : codeB (okB hs ts) fine = c) (w : World) :
    Calls Tryz.prog 42 #[.agg (sunC hs ts), .bool fine] w fun e w' => e = .returned (.int .i64 c) ∧ Below w.heap.size w w' := by
  subst h; exact checkSun_any hs ts hh ht fine w

theorem l01Asked_is (b : Nat) (hs ts : List Int) (hh : hs.length = 24) (ht : ts.length = 24) (rb : ∀ x ∈ hs ++ ts, -32768 ≤ x ∧ x ≤ 32767) (t : TypeId) (fr : Nat × Nat) (fine : Bool) (c : Int) (h : codeB (okB hs ts) fine = c) (w : World) (hg : w.heap[b]? = some (.cells (sunC hs ts) t fr)) :
    Calls Tryz.prog 46 #[.pointer (some ⟨b, 0, none⟩), .bool fine] w fun e w' => e = .returned (.int .i64 c) ∧ w = w' := by
  subst h; exact l01Asked_any b hs ts hh ht rb t fr fine w hg

theorem inH_bd {n : Int} (h : inH n = true) : 0 ≤ n ∧ n < 24 := by
  have := inB_true h; omega

end Go.Proofs.YtddnfbpgldchcaaGreatDoor

namespace Go.Proofs.YtddnfbpgldchcaaGreatDoor

open Go.ChangeShapes Go.WideShapes Go.ChangeAt Go.RowKit

theorem okB_h {hs ts : List Int} (hh : hs.length = 24) (ht : ts.length = 24) (h : okB hs ts = true) (hour : Int) (h0 : 0 ≤ hour) (h1 : hour < 24) : -64 ≤ atH hs hour ∧ atH hs hour ≤ 64 :=
  inB_true ((okB_iff hs ts hh ht).1 h hour.toNat (by omega)).1

theorem okB_t {hs ts : List Int} (hh : hs.length = 24) (ht : ts.length = 24) (h : okB hs ts = true) (hour : Int) (h0 : 0 ≤ hour) (h1 : hour < 24) : 0 ≤ atH ts hour ∧ atH ts hour ≤ 255 :=
  inB_true ((okB_iff hs ts hh ht).1 h hour.toNat (by omega)).2

end Go.Proofs.YtddnfbpgldchcaaGreatDoor

namespace Go.Proofs.YtddnfbpgldchcaaGreatDoor

open Go.ChangeShapes Go.WideShapes Go.ChangeAt Go.RowKit

/-- The light of an hour on a window. -/
def fallOf (hs ts : List Int) (hour facing : Int) : Nat := fallB (atH hs hour) (atH ts hour - facing)

theorem i64_small (n : Int) (h0 : -100000 ≤ n) (h1 : n ≤ 100000) : IntKind.i64.wrap n = n := by
  simp [IntKind.wrap, IntKind.signed, IntKind.bits]
  omega

theorem litB_gt {l : Nat} (h : FloatKind.f32.format.order l 0 = some .gt) : litB l = l := if_pos h

theorem litB_no {l : Nat} {o : Ordering} (h : FloatKind.f32.format.order l 0 = some o) (ho : o ≠ .gt) : litB l = 0 := by
  unfold litB
  rw [h, if_neg (fun e => ho (by injection e))]

set_option maxRecDepth 100000 in
set_option maxHeartbeats 1000000 in
theorem fallAt_up (hs ts : List Int) (hh : hs.length = 24) (ht : ts.length = 24) (hour facing : Int) (hr0 : 0 ≤ hour) (hr1 : hour < 24) (hf0 : 0 ≤ facing) (hf1 : facing ≤ 255) (hx1 : atH hs hour ≤ 64) (hy0 : 0 ≤ atH ts hour) (hy1 : atH ts hour ≤ 255) (hpos : 0 < atH hs hour) (l : Nat) (hl : fmul (cosB (atH hs hour)) (cosB (angB (atH ts hour - facing))) = l) (o : Ordering) (ho : FloatKind.f32.format.order l 0 = some o) (w : World) :
    Calls Tryz.prog 45 #[.agg (sunC hs ts), .int .i64 hour, .int .i64 facing] w fun e w' => e = .returned (.float .f32 (litB l)) ∧ Below w.heap.size w w' := by
  have Hh := Lib.hid hh
  have Ht := Lib.hid ht
  have Hup := Lib.hid (upAt_any hs ts hh hour hr0 hr1)
  have hm := (mul_ok (cosB_num (atH hs hour)) (cosB_num (angB (atH ts hour - facing)))).1
  rw [hl] at hm
  have r : ∀ t w, (binOp .mul t (.float .f32 (cosB (atH hs hour))) (.float .f32 (cosB (angB (atH ts hour - facing))))).run Tryz.prog w = .ok (.float .f32 l) w := fun t w => run_float_arith w .mul t .f32 _ _ _ hm
  have hal := angB_lo (atH ts hour - facing)
  have hah := angB_hi (atH ts hour - facing)
  clear hh ht hm hl
  obtain ⟨k, rfl⟩ := Int.eq_ofNat_of_zero_le hr0
  have hk : k < 24 := by omega
  have ea : hs[k]?.getD 0 = atH hs (k : Int) := by unfold atH; rw [Int.toNat_natCast]
  have eb : ts[k]?.getD 0 = atH ts (k : Int) := by unfold atH; rw [Int.toNat_natCast]
  generalize atH hs (k : Int) = x at *
  generalize atH ts (k : Int) = y at *
  have Hx := Lib.hid ea
  have Hy := Lib.hid eb
  have hd : decide (0 < x) = true := decide_eq_true hpos
  rw [hd] at Hup
  clear hd ea eb
  cases o
  · have HL := Lib.hid (litB_no ho (by decide))
    go_enter Tryz.func45, Tryz.ntmps45
    go_upto_region 1 with (fail)
    refine abs_code (fun W => Below w.heap.size w W ∧ W.heap[w.heap.size]? = some (.cells (sunC hs ts) 27 (0, 0))) ⟨(Below.refl _ _).alloc (Nat.le_refl _) _, heap_alloc_new _ _⟩ ?_
    rintro W ⟨hb, h0⟩
    have H0 := Lib.hid h0
    clear h0
    go_wp2_with (first | (refine wpList_load_part rfl 27 _ rfl w.heap.size 0 48 rfl 27 (sunC hs ts) (0, 0) _ H0.out Tryz.underlying27 rfl info_sun (sun_fits _ _ Hh.out Ht.out) (sunC hs ts) (sun_all _ _ Hh.out Ht.out) ?_) | (go_at_call 105; refine (Hup.out _).mono ?_; rintro e W1 ⟨rfl, hb1⟩; replace H0 := Lib.hid (below_row hb1 H0.out); replace hb := hb.trans (hb1.mono hb.size); clear hb1; have hc1 := cell_sun_h H0.out Hh.out k hk; rw [Hx.out] at hc1; have hc2 := cell_sun_t H0.out Hh.out Ht.out k hk; rw [Hy.out] at hc2) | (go_at_call 106; refine (angleOf_any _ _).mono ?_; rintro e w' ⟨rfl, rfl⟩) | (go_at_call 107; refine (cosine_any _ (by omega) (by omega) _).mono ?_; rintro e W1 ⟨rfl, hb1⟩; replace H0 := Lib.hid (below_row hb1 H0.out); replace hb := hb.trans (hb1.mono hb.size); clear hb1))
    go_ret
    exact ⟨ret_f32 HL.out.symm, hb⟩
  · have HL := Lib.hid (litB_no ho (by decide))
    go_enter Tryz.func45, Tryz.ntmps45
    go_upto_region 1 with (fail)
    refine abs_code (fun W => Below w.heap.size w W ∧ W.heap[w.heap.size]? = some (.cells (sunC hs ts) 27 (0, 0))) ⟨(Below.refl _ _).alloc (Nat.le_refl _) _, heap_alloc_new _ _⟩ ?_
    rintro W ⟨hb, h0⟩
    have H0 := Lib.hid h0
    clear h0
    go_wp2_with (first | (refine wpList_load_part rfl 27 _ rfl w.heap.size 0 48 rfl 27 (sunC hs ts) (0, 0) _ H0.out Tryz.underlying27 rfl info_sun (sun_fits _ _ Hh.out Ht.out) (sunC hs ts) (sun_all _ _ Hh.out Ht.out) ?_) | (go_at_call 105; refine (Hup.out _).mono ?_; rintro e W1 ⟨rfl, hb1⟩; replace H0 := Lib.hid (below_row hb1 H0.out); replace hb := hb.trans (hb1.mono hb.size); clear hb1; have hc1 := cell_sun_h H0.out Hh.out k hk; rw [Hx.out] at hc1; have hc2 := cell_sun_t H0.out Hh.out Ht.out k hk; rw [Hy.out] at hc2) | (go_at_call 106; refine (angleOf_any _ _).mono ?_; rintro e w' ⟨rfl, rfl⟩) | (go_at_call 107; refine (cosine_any _ (by omega) (by omega) _).mono ?_; rintro e W1 ⟨rfl, hb1⟩; replace H0 := Lib.hid (below_row hb1 H0.out); replace hb := hb.trans (hb1.mono hb.size); clear hb1))
    go_ret
    exact ⟨ret_f32 HL.out.symm, hb⟩
  · have HL := Lib.hid (litB_gt ho)
    go_enter Tryz.func45, Tryz.ntmps45
    go_upto_region 1 with (fail)
    refine abs_code (fun W => Below w.heap.size w W ∧ W.heap[w.heap.size]? = some (.cells (sunC hs ts) 27 (0, 0))) ⟨(Below.refl _ _).alloc (Nat.le_refl _) _, heap_alloc_new _ _⟩ ?_
    rintro W ⟨hb, h0⟩
    have H0 := Lib.hid h0
    clear h0
    go_wp2_with (first | (refine wpList_load_part rfl 27 _ rfl w.heap.size 0 48 rfl 27 (sunC hs ts) (0, 0) _ H0.out Tryz.underlying27 rfl info_sun (sun_fits _ _ Hh.out Ht.out) (sunC hs ts) (sun_all _ _ Hh.out Ht.out) ?_) | (go_at_call 105; refine (Hup.out _).mono ?_; rintro e W1 ⟨rfl, hb1⟩; replace H0 := Lib.hid (below_row hb1 H0.out); replace hb := hb.trans (hb1.mono hb.size); clear hb1; have hc1 := cell_sun_h H0.out Hh.out k hk; rw [Hx.out] at hc1; have hc2 := cell_sun_t H0.out Hh.out Ht.out k hk; rw [Hy.out] at hc2) | (go_at_call 106; refine (angleOf_any _ _).mono ?_; rintro e w' ⟨rfl, rfl⟩) | (go_at_call 107; refine (cosine_any _ (by omega) (by omega) _).mono ?_; rintro e W1 ⟨rfl, hb1⟩; replace H0 := Lib.hid (below_row hb1 H0.out); replace hb := hb.trans (hb1.mono hb.size); clear hb1))
    go_ret
    exact ⟨ret_f32 HL.out.symm, hb⟩

set_option maxRecDepth 100000 in
set_option maxHeartbeats 1000000 in
theorem fallAt_any (hs ts : List Int) (hh : hs.length = 24) (ht : ts.length = 24) (hour facing : Int) (hr0 : 0 ≤ hour) (hr1 : hour < 24) (hf0 : 0 ≤ facing) (hf1 : facing ≤ 255) (hx1 : atH hs hour ≤ 64) (hy0 : 0 ≤ atH ts hour) (hy1 : atH ts hour ≤ 255) (w : World) :
    Calls Tryz.prog 45 #[.agg (sunC hs ts), .int .i64 hour, .int .i64 facing] w fun e w' => e = .returned (.float .f32 (fallOf hs ts hour facing)) ∧ Below w.heap.size w w' := by
  by_cases hpos : 0 < atH hs hour
  · obtain ⟨o, ho⟩ := order_some (mul_ok (cosB_num (atH hs hour)) (cosB_num (angB (atH ts hour - facing)))).2 zero_fin
    have e : fallOf hs ts hour facing = litB (fmul (cosB (atH hs hour)) (cosB (angB (atH ts hour - facing)))) := by
      unfold fallOf fallB
      rw [if_pos hpos, cosB_ang]
    rw [e]
    exact fallAt_up hs ts hh ht hour facing hr0 hr1 hf0 hf1 hx1 hy0 hy1 hpos _ rfl o ho w
  · have HR : Hid (fallOf hs ts hour facing = 0) := if_neg hpos
    have Hh := Lib.hid hh
    have Ht := Lib.hid ht
    have Hup := Lib.hid (upAt_any hs ts hh hour hr0 hr1)
    have hd : decide (0 < atH hs hour) = false := decide_eq_false hpos
    rw [hd] at Hup
    clear hh ht hd hpos hx1 hy0 hy1
    go_enter Tryz.func45, Tryz.ntmps45
    go_upto_region 1 with (fail)
    refine abs_code (fun W => Below w.heap.size w W ∧ W.heap[w.heap.size]? = some (.cells (sunC hs ts) 27 (0, 0))) ⟨(Below.refl _ _).alloc (Nat.le_refl _) _, heap_alloc_new _ _⟩ ?_
    rintro W ⟨hb, h0⟩
    have H0 := Lib.hid h0
    clear h0
    go_wp2_with (first | (refine wpList_load_part rfl 27 _ rfl w.heap.size 0 48 rfl 27 (sunC hs ts) (0, 0) _ H0.out Tryz.underlying27 rfl info_sun (sun_fits _ _ Hh.out Ht.out) (sunC hs ts) (sun_all _ _ Hh.out Ht.out) ?_) | (go_at_call 105; refine (Hup.out _).mono ?_; rintro e W1 ⟨rfl, hb1⟩; replace H0 := Lib.hid (below_row hb1 H0.out); replace hb := hb.trans (hb1.mono hb.size); clear hb1))
    go_ret
    exact ⟨ret_f32 HR.out.symm, hb⟩

set_option maxRecDepth 100000 in
set_option maxHeartbeats 1000000 in
theorem l01Fall_up (b : Nat) (hs ts : List Int) (hh : hs.length = 24) (ht : ts.length = 24) (hour facing : Int) (hr0 : 0 ≤ hour) (hr1 : hour < 24) (hf0 : 0 ≤ facing) (hf1 : facing ≤ 255) (hx1 : atH hs hour ≤ 64) (hy0 : 0 ≤ atH ts hour) (hy1 : atH ts hour ≤ 255) (t : TypeId) (fr : Nat × Nat) (hpos : 0 < atH hs hour) (l : Nat) (hl : fmul (cosB (atH hs hour)) (cosB (atH ts hour - facing)) = l) (o : Ordering) (ho : FloatKind.f32.format.order l 0 = some o) (w : World) (hg : w.heap[b]? = some (.cells (sunC hs ts) t fr)) :
    Calls Tryz.prog 49 #[.pointer (some ⟨b, 0, none⟩), .int .i64 hour, .int .i64 facing] w fun e w' => e = .returned (.float .f32 (litB l)) ∧ Below w.heap.size w w' := by
  have hm := (mul_ok (cosB_num (atH hs hour)) (cosB_num (atH ts hour - facing))).1
  rw [hl] at hm
  have r : ∀ t w, (binOp .mul t (.float .f32 (cosB (atH hs hour))) (.float .f32 (cosB (atH ts hour - facing)))).run Tryz.prog w = .ok (.float .f32 l) w := fun t w => run_float_arith w .mul t .f32 _ _ _ hm
  clear hm hl
  obtain ⟨k, rfl⟩ := Int.eq_ofNat_of_zero_le hr0
  have hk : k < 24 := by omega
  have ea : hs[k]?.getD 0 = atH hs (k : Int) := by unfold atH; rw [Int.toNat_natCast]
  have eb : ts[k]?.getD 0 = atH ts (k : Int) := by unfold atH; rw [Int.toNat_natCast]
  generalize atH hs (k : Int) = x at *
  generalize atH ts (k : Int) = y at *
  have Hx := Lib.hid ea
  have Hy := Lib.hid eb
  have hc1 := cell_sun_h hg hh k hk
  have hc2 := cell_sun_t hg hh ht k hk
  rw [Hx.out] at hc1
  rw [Hy.out] at hc2
  clear hg hh ht ea eb
  have HO := Lib.hid ho
  clear ho
  have q1 := i64_small x (by omega) (by omega)
  have q2 := i64_small y (by omega) (by omega)
  have q3 := i64_small (y - facing) (by omega) (by omega)
  go_enter Tryz.func49, Tryz.ntmps49
  go_wp2
  refine wp_region_held_drew (S := (fun W => W.cell? ⟨b, k, none⟩ = some (.int .i16 x) ∧ W.cell? ⟨b, 24 + k, none⟩ = some (.int .i16 y) ∧ Below w.heap.size w W)) (by kernel_rfl) ⟨by simpa using hc1, by simpa using hc2, (Below.refl _ _).drew⟩ (fun hHeld => ?_)
  refine take_at (i := 0) (d := 15) (v := ?_) rfl rfl (by kernel_rfl) (by kernel_rfl) (by kernel_rfl) (fun _ _ _ h => h) (Or.inl ⟨by rfl, ?hy0u5⟩) hHeld ?rest0u5
  case hy0u5 =>
    intro w' hS'
    obtain ⟨s1, s2, _⟩ := hS'
    go_simp
    try with_reducible rfl
  simp only [List.setIfInBounds_toArray, List.set_cons_zero, List.set_cons_succ]
  refine take_at (i := 1) (d := 16) (v := ?_) rfl rfl (by kernel_rfl) (by kernel_rfl) (by kernel_rfl) (fun _ _ _ h => h) (Or.inl ⟨by rfl, ?hy1u6⟩) hHeld ?rest1u6
  case hy1u6 =>
    intro w' hS'
    obtain ⟨s1, s2, _⟩ := hS'
    go_simp
    try with_reducible rfl
  simp only [List.setIfInBounds_toArray, List.set_cons_zero, List.set_cons_succ]
  refine take_at (i := 2) (d := 17) (v := ?_) rfl rfl (by kernel_rfl) (by kernel_rfl) (by kernel_rfl) (fun _ _ _ h => h) (Or.inl ⟨by rfl, ?hy2u7⟩) hHeld ?rest2u7
  case hy2u7 =>
    intro w' hS'
    obtain ⟨s1, s2, _⟩ := hS'
    go_simp
    try with_reducible rfl
  simp only [List.setIfInBounds_toArray, List.set_cons_zero, List.set_cons_succ]
  refine take_at (i := 3) (d := 18) (v := ?_) rfl rfl (by kernel_rfl) (by kernel_rfl) (by kernel_rfl) (fun _ _ _ h => h) (Or.inl ⟨by rfl, ?hy3u8⟩) hHeld ?rest3u8
  case hy3u8 =>
    intro w' hS'
    obtain ⟨s1, s2, _⟩ := hS'
    go_simp
    try with_reducible rfl
  simp only [List.setIfInBounds_toArray, List.set_cons_zero, List.set_cons_succ]
  refine take_at (i := 4) (d := 19) (v := ?_) rfl rfl (by kernel_rfl) (by kernel_rfl) (by kernel_rfl) (fun _ _ _ h => h) (Or.inl ⟨by rfl, ?hy4u9⟩) hHeld ?rest4u9
  case hy4u9 =>
    intro w' hS'
    obtain ⟨s1, s2, _⟩ := hS'
    go_simp
    try with_reducible rfl
  simp only [List.setIfInBounds_toArray, List.set_cons_zero, List.set_cons_succ]
  refine take_at (i := 5) (d := 20) (v := ?_) rfl rfl (by kernel_rfl) (by kernel_rfl) (by kernel_rfl) (fun _ _ _ h => h) (Or.inl ⟨by rfl, ?hy5u10⟩) hHeld ?rest5u10
  case hy5u10 =>
    intro w' hS'
    obtain ⟨s1, s2, _⟩ := hS'
    go_simp
    try with_reducible rfl
  simp only [List.setIfInBounds_toArray, List.set_cons_zero, List.set_cons_succ]
  refine take_at (i := 6) (d := 21) (v := ?_) rfl rfl (by kernel_rfl) (by kernel_rfl) (by kernel_rfl) (fun _ _ _ h => h) (Or.inl ⟨by rfl, ?hy6u11⟩) hHeld ?rest6u11
  case hy6u11 =>
    intro w' hS'
    obtain ⟨s1, s2, _⟩ := hS'
    go_simp
    try with_reducible rfl
  simp only [List.setIfInBounds_toArray, List.set_cons_zero, List.set_cons_succ]
  refine take_at (i := 8) (d := 23) (v := ?_) rfl rfl (by kernel_rfl) (by kernel_rfl) (by kernel_rfl) (fun _ _ _ h => h) (Or.inl ⟨by rfl, ?hy8u12⟩) hHeld ?rest8u12
  case hy8u12 =>
    intro w' hS'
    obtain ⟨s1, s2, _⟩ := hS'
    go_simp
    try with_reducible rfl
  simp only [List.setIfInBounds_toArray, List.set_cons_zero, List.set_cons_succ]
  refine take_at (i := 9) (d := 24) (v := ?_) rfl rfl (by kernel_rfl) (by kernel_rfl) (by kernel_rfl) (fun _ _ _ h => h) (Or.inl ⟨by rfl, ?hy9u13⟩) hHeld ?rest9u13
  case hy9u13 =>
    intro w' hS'
    obtain ⟨s1, s2, _⟩ := hS'
    go_simp
    try with_reducible rfl
  simp only [List.setIfInBounds_toArray, List.set_cons_zero, List.set_cons_succ]
  refine take_at (i := 10) (d := 25) (v := ?_) rfl rfl (by kernel_rfl) (by kernel_rfl) (by kernel_rfl) (fun _ _ _ h => h) (Or.inl ⟨by rfl, ?hy10u14⟩) hHeld ?rest10u14
  case hy10u14 =>
    intro w' hS'
    obtain ⟨s1, s2, _⟩ := hS'
    go_simp
    try with_reducible rfl
  simp only [List.setIfInBounds_toArray, List.set_cons_zero, List.set_cons_succ]
  refine take_at (i := 11) (d := 26) (v := ?_) rfl rfl (by kernel_rfl) (by kernel_rfl) (by kernel_rfl) (fun _ _ _ h => h) (Or.inl ⟨by rfl, ?hy11u15⟩) hHeld ?rest11u15
  case hy11u15 =>
    intro w' hS'
    obtain ⟨s1, s2, _⟩ := hS'
    go_simp
    try with_reducible rfl
  simp only [List.setIfInBounds_toArray, List.set_cons_zero, List.set_cons_succ]
  refine take_at (i := 12) (d := 27) (v := ?_) rfl rfl (by kernel_rfl) (by kernel_rfl) (by kernel_rfl) (fun _ _ _ h => h) (Or.inl ⟨by rfl, ?hy12u16⟩) hHeld ?rest12u16
  case hy12u16 =>
    intro w' hS'
    obtain ⟨s1, s2, _⟩ := hS'
    go_simp
    try with_reducible rfl
  simp only [List.setIfInBounds_toArray, List.set_cons_zero, List.set_cons_succ]
  refine take_at (i := 13) (d := 28) (v := ?_) rfl rfl (by kernel_rfl) (by kernel_rfl) (by kernel_rfl) (fun _ _ _ h => h) (Or.inl ⟨by rfl, ?hy13u17⟩) hHeld ?rest13u17
  case hy13u17 =>
    intro w' hS'
    obtain ⟨s1, s2, _⟩ := hS'
    go_simp
    try with_reducible rfl
  simp only [List.setIfInBounds_toArray, List.set_cons_zero, List.set_cons_succ]
  refine take_at (i := 14) (d := 29) (v := ?_) rfl rfl (by kernel_rfl) (by kernel_rfl) (by kernel_rfl) (fun _ _ _ h => h) (Or.inl ⟨by rfl, ?hy14u18⟩) hHeld ?rest14u18
  case hy14u18 =>
    intro w' hS'
    obtain ⟨s1, s2, _⟩ := hS'
    go_simp
    try with_reducible rfl
  simp only [List.setIfInBounds_toArray, List.set_cons_zero, List.set_cons_succ]
  refine take_at (i := 15) (d := 30) (v := ?_) rfl rfl (by kernel_rfl) (by kernel_rfl) (by kernel_rfl) (fun _ _ _ h => h) (Or.inl ⟨by rfl, ?hy15u19⟩) hHeld ?rest15u19
  case hy15u19 =>
    intro w' hS'
    obtain ⟨s1, s2, _⟩ := hS'
    go_simp
    try with_reducible rfl
  simp only [List.setIfInBounds_toArray, List.set_cons_zero, List.set_cons_succ]
  refine take_at (i := 16) (d := 31) (v := ?_) rfl rfl (by kernel_rfl) (by kernel_rfl) (by kernel_rfl) (fun _ _ _ h => h) (Or.inl ⟨by rfl, ?hy16u20⟩) hHeld ?rest16u20
  case hy16u20 =>
    intro w' hS'
    obtain ⟨s1, s2, _⟩ := hS'
    go_simp
    try with_reducible rfl
  simp only [List.setIfInBounds_toArray, List.set_cons_zero, List.set_cons_succ]
  refine wpAnyH_ready (rs := [7]) (by kernel_rfl) (by simp) ?_
  refine AllReadyH.cons rfl (fun K hK => ?_) AllReadyH.nil
  go_simp
  refine (l01Cosine_any _ _).mono ?_
  rintro e w' ⟨rfl, rfl⟩
  refine hK.out _ _ (hHeld) (fun hHeld2 => ?_)
  clear hK K
  replace hHeld := hHeld2
  clear hHeld2
  refine wpAnyH_ready (rs := [17]) (by kernel_rfl) (by simp) ?_
  refine AllReadyH.cons rfl (fun K hK => ?_) AllReadyH.nil
  go_simp
  refine (l01Cosine_any _ _).mono ?_
  rintro e w' ⟨rfl, rfl⟩
  refine hK.out _ _ (hHeld) (fun hHeld2 => ?_)
  clear hK K
  replace hHeld := hHeld2
  clear hHeld2
  refine take_at (i := 18) (d := 33) (v := ?_) rfl rfl (by kernel_rfl) (by kernel_rfl) (by kernel_rfl) (fun _ _ _ h => h) (Or.inl ⟨by rfl, ?hy18u21⟩) hHeld ?rest18u21
  case hy18u21 =>
    intro w' hS'
    obtain ⟨s1, s2, _⟩ := hS'
    go_simp
    try with_reducible rfl
  simp only [List.setIfInBounds_toArray, List.set_cons_zero, List.set_cons_succ]
  refine take_at (i := 19) (d := 7) (v := ?_) rfl rfl (by kernel_rfl) (by kernel_rfl) (by kernel_rfl) (fun _ _ _ h => h) (Or.inl ⟨by rfl, ?hy19u22⟩) hHeld ?rest19u22
  case hy19u22 =>
    intro w' hS'
    obtain ⟨s1, s2, _⟩ := hS'
    go_simp
    try with_reducible rfl
  simp only [List.setIfInBounds_toArray, List.set_cons_zero, List.set_cons_succ]
  refine wpAnyH_done (by kernel_rfl) ?_ _
  clear q1 q2 q3
  have ho := HO.out
  cases o
  · have HL := Lib.hid (litB_no ho (by decide))
    go_wp2
    go_ret
    exact ⟨ret_f32 HL.out.symm, hHeld.2.2⟩
  · have HL := Lib.hid (litB_no ho (by decide))
    go_wp2
    go_ret
    exact ⟨ret_f32 HL.out.symm, hHeld.2.2⟩
  · have HL := Lib.hid (litB_gt ho)
    go_wp2
    go_ret
    exact ⟨ret_f32 HL.out.symm, hHeld.2.2⟩

set_option maxRecDepth 100000 in
set_option maxHeartbeats 1000000 in
theorem l01Fall_any (b : Nat) (hs ts : List Int) (hh : hs.length = 24) (ht : ts.length = 24) (hour facing : Int) (hr0 : 0 ≤ hour) (hr1 : hour < 24) (hf0 : 0 ≤ facing) (hf1 : facing ≤ 255) (hx1 : atH hs hour ≤ 64) (hy0 : 0 ≤ atH ts hour) (hy1 : atH ts hour ≤ 255) (t : TypeId) (fr : Nat × Nat) (w : World) (hg : w.heap[b]? = some (.cells (sunC hs ts) t fr)) :
    Calls Tryz.prog 49 #[.pointer (some ⟨b, 0, none⟩), .int .i64 hour, .int .i64 facing] w fun e w' => e = .returned (.float .f32 (fallOf hs ts hour facing)) ∧ Below w.heap.size w w' := by
  by_cases hpos : 0 < atH hs hour
  · obtain ⟨o, ho⟩ := order_some (mul_ok (cosB_num (atH hs hour)) (cosB_num (atH ts hour - facing))).2 zero_fin
    have e : fallOf hs ts hour facing = litB (fmul (cosB (atH hs hour)) (cosB (atH ts hour - facing))) := by
      unfold fallOf fallB
      rw [if_pos hpos]
    rw [e]
    exact l01Fall_up b hs ts hh ht hour facing hr0 hr1 hf0 hf1 hx1 hy0 hy1 t fr hpos _ rfl o ho w hg
  · have HR : Hid (fallOf hs ts hour facing = 0) := if_neg hpos
    obtain ⟨k, rfl⟩ := Int.eq_ofNat_of_zero_le hr0
    have hk : k < 24 := by omega
    have ea : hs[k]?.getD 0 = atH hs (k : Int) := by unfold atH; rw [Int.toNat_natCast]
    have eb : ts[k]?.getD 0 = atH ts (k : Int) := by unfold atH; rw [Int.toNat_natCast]
    generalize atH hs (k : Int) = x at *
    generalize atH ts (k : Int) = y at *
    have Hx := Lib.hid ea
    have Hy := Lib.hid eb
    have hc1 := cell_sun_h hg hh k hk
    rw [Hx.out] at hc1
    clear hg hh ht ea eb
    go_enter Tryz.func49, Tryz.ntmps49
    go_wp2
    go_ret
    exact ⟨ret_f32 HR.out.symm, Below.refl _ _⟩

end Go.Proofs.YtddnfbpgldchcaaGreatDoor

namespace Go.Proofs.YtddnfbpgldchcaaGreatDoor

open Go.ChangeShapes Go.WideShapes Go.ChangeAt Go.RowKit

theorem isFacing_is (n : Int) (b : Bool) (h : inF n = b) (w : World) : Calls Tryz.prog 44 #[.int .i64 n] w fun e w' => e = .returned (.bool b) ∧ w = w' := by
  subst h; exact isFacing_any n w

theorem l01Faced_is (n : Int) (b : Bool) (h : inF n = b) (w : World) : Calls Tryz.prog 48 #[.int .i64 n] w fun e w' => e = .returned (.bool b) ∧ w = w' := by
  subst h; exact l01Faced_any n w

theorem inF_bd {n : Int} (h : inF n = true) : 0 ≤ n ∧ n ≤ 255 := inB_true h

set_option maxRecDepth 100000 in
set_option maxHeartbeats 1000000 in
theorem implFallOn_yes (hs ts : List Int) (hh : hs.length = 24) (ht : ts.length = 24) (hour facing : Int) (h1 : okB hs ts = true) (h2 : inH hour = true) (h3 : inF facing = true) (w : World) :
    Calls Tryz.prog 9 #[.agg (sunC hs ts), .int .i64 hour, .int .i64 facing] w fun e w' => e = .returned (.tuple #[.float .f32 (fallOf hs ts hour facing), .int .i64 0]) ∧ Below w.heap.size w w' := by
  obtain ⟨hr0, hr1⟩ := inH_bd h2
  have Hc : Hid (codeB (okB hs ts) true = 0) := by rw [h1]; rfl
  have Hg := Lib.hid (fallAt_any hs ts hh ht hour facing hr0 hr1 (inF_bd h3).1 (inF_bd h3).2 (okB_h hh ht h1 hour hr0 hr1).2 (okB_t hh ht h1 hour hr0 hr1).1 (okB_t hh ht h1 hour hr0 hr1).2)
  have Hi := Lib.hid h2
  have Hf := Lib.hid h3
  have Hh := Lib.hid hh
  have Ht := Lib.hid ht
  clear hh ht h1 h2 h3
  go_enter Tryz.func9, Tryz.ntmps9
  go_wp2
  refine wp_region_held_drew (S := (fun W => W.heap[w.heap.size]? = some (.cells (sunC hs ts) 27 (0, 0)) ∧ Below w.heap.size w W)) (by kernel_rfl) ⟨heap_alloc_new _ _, ((Below.refl _ _).alloc (Nat.le_refl _) _).drew⟩ (fun hHeld => ?_)
  refine take_at (i := 0) (d := 9) (v := .agg (sunC hs ts)) rfl rfl (by kernel_rfl) (by kernel_rfl) (by kernel_rfl) (fun _ _ _ h => h) (yields_part (by rfl) 27 (.tmp 3) (by rfl) w.heap.size 0 48 (by rfl) 27 (sunC hs ts) (0, 0) _ (fun _ h => h.1) Tryz.underlying27 rfl info_sun (sun_fits _ _ Hh.out Ht.out) (sunC hs ts) (sun_all _ _ Hh.out Ht.out)) hHeld ?_
  simp only [List.setIfInBounds_toArray, List.set_cons_zero, List.set_cons_succ]
  refine take_at (i := 1) (d := 10) (v := ?_) rfl rfl (by kernel_rfl) (by kernel_rfl) (by kernel_rfl) (fun _ _ _ h => h) (Or.inl ⟨by rfl, ?hy1u23⟩) hHeld ?rest1u23
  case hy1u23 =>
    intro w' hS'
    go_simp
    try with_reducible rfl
  simp only [List.setIfInBounds_toArray, List.set_cons_zero, List.set_cons_succ]
  refine wpAnyH_ready (rs := [2]) (by kernel_rfl) (by simp) ?_
  refine AllReadyH.cons rfl (fun K hK => ?_) AllReadyH.nil
  go_simp
  refine (isHour_is hour true Hi.out _).mono ?_
  rintro e w' ⟨rfl, rfl⟩
  refine hK.out _ _ (hHeld) (fun hHeld2 => ?_)
  clear hK K
  replace hHeld := hHeld2
  clear hHeld2
  refine take_at (i := 3) (d := 12) (v := ?_) rfl rfl (by kernel_rfl) (by kernel_rfl) (by kernel_rfl) (fun _ _ _ h => h) (Or.inl ⟨by rfl, ?hy3u24⟩) hHeld ?rest3u24
  case hy3u24 =>
    intro w' hS'
    go_simp
    try with_reducible rfl
  simp only [List.setIfInBounds_toArray, List.set_cons_zero, List.set_cons_succ]
  refine take_at (i := 4) (d := 13) (v := ?_) rfl rfl (by kernel_rfl) (by kernel_rfl) (by kernel_rfl) (fun _ _ _ h => h) (Or.inl ⟨by rfl, ?hy4u25⟩) hHeld ?rest4u25
  case hy4u25 =>
    intro w' hS'
    go_simp
    try with_reducible rfl
  simp only [List.setIfInBounds_toArray, List.set_cons_zero, List.set_cons_succ]
  refine wpAnyH_ready (rs := [5]) (by kernel_rfl) (by simp) ?_
  refine AllReadyH.cons rfl (fun K hK => ?_) AllReadyH.nil
  go_simp
  refine (isFacing_is facing true Hf.out _).mono ?_
  rintro e w' ⟨rfl, rfl⟩
  refine hK.out _ _ (hHeld) (fun hHeld2 => ?_)
  clear hK K
  replace hHeld := hHeld2
  clear hHeld2
  refine take_at (i := 6) (d := 15) (v := ?_) rfl rfl (by kernel_rfl) (by kernel_rfl) (by kernel_rfl) (fun _ _ _ h => h) (Or.inl ⟨by rfl, ?hy6u26⟩) hHeld ?rest6u26
  case hy6u26 =>
    intro w' hS'
    go_simp
    try with_reducible rfl
  simp only [List.setIfInBounds_toArray, List.set_cons_zero, List.set_cons_succ]
  refine wpAnyH_ready (rs := [7]) (by kernel_rfl) (by simp) ?_
  refine AllReadyH.cons rfl (fun K hK => ?_) AllReadyH.nil
  go_simp
  refine (checkSun_is hs ts Hh.out Ht.out true 0 Hc.out _).mono ?_
  rintro e W1 ⟨rfl, hb1⟩
  refine hK.out _ _ (⟨below_row hb1 hHeld.1, hHeld.2.trans (hb1.mono hHeld.2.size)⟩) (fun hHeld2 => ?_)
  clear hK K
  replace hHeld := hHeld2
  clear hHeld2
  refine take_at (i := 8) (d := 8) (v := ?_) rfl rfl (by kernel_rfl) (by kernel_rfl) (by kernel_rfl) (fun _ _ _ h => h) (Or.inl ⟨by rfl, ?hy8u27⟩) hHeld ?rest8u27
  case hy8u27 =>
    intro w' hS'
    go_simp
    try with_reducible rfl
  simp only [List.setIfInBounds_toArray, List.set_cons_zero, List.set_cons_succ]
  refine wpAnyH_done (by kernel_rfl) ?_ _
  obtain ⟨h0, hb⟩ := hHeld
  have H0 := Lib.hid h0
  clear h0
  go_wp2_with (first | (refine wpList_load_part rfl 27 _ rfl w.heap.size 0 48 rfl 27 (sunC hs ts) (0, 0) _ H0.out Tryz.underlying27 rfl info_sun (sun_fits _ _ Hh.out Ht.out) (sunC hs ts) (sun_all _ _ Hh.out Ht.out) ?_) | (go_at_call 45; refine (Hg.out _).mono ?_; rintro e W1 ⟨rfl, hb1⟩; replace H0 := Lib.hid (below_row hb1 H0.out); replace hb := hb.trans (hb1.mono hb.size); clear hb1))
  go_ret2
  exact ⟨rfl, hb⟩

set_option maxRecDepth 100000 in
set_option maxHeartbeats 1000000 in
theorem specFallOn_yes (hs ts : List Int) (hh : hs.length = 24) (ht : ts.length = 24) (rb : ∀ x ∈ hs ++ ts, -32768 ≤ x ∧ x ≤ 32767) (hour facing : Int) (h1 : okB hs ts = true) (h2 : inH hour = true) (h3 : inF facing = true) (w : World) :
    Calls Tryz.prog 10 #[.agg (sunC hs ts), .int .i64 hour, .int .i64 facing] w fun e w' => e = .returned (.tuple #[.float .f32 (fallOf hs ts hour facing), .int .i64 0]) ∧ Below w.heap.size w w' := by
  obtain ⟨hr0, hr1⟩ := inH_bd h2
  have Hc : Hid (codeB (okB hs ts) true = 0) := by rw [h1]; rfl
  have Hb := Lib.hid (okB_h hh ht h1 hour hr0 hr1)
  have Hy := Lib.hid (okB_t hh ht h1 hour hr0 hr1)
  have Hfb := Lib.hid (inF_bd h3)
  have Hi := Lib.hid h2
  have Hf := Lib.hid h3
  have Hh := Lib.hid hh
  have Ht := Lib.hid ht
  have Rb := Lib.hid rb
  clear hh ht rb
  clear h1 h2 h3
  go_enter Tryz.func10, Tryz.ntmps10
  go_wp2_with (first | (go_at_call 47; refine (l01Hour_is _ true Hi.out _).mono ?_; rintro e w' ⟨rfl, rfl⟩) | (go_at_call 48; refine (l01Faced_is _ true Hf.out _).mono ?_; rintro e w' ⟨rfl, rfl⟩) | (go_at_call 46; refine (l01Asked_is _ hs ts Hh.out Ht.out Rb.out 27 (0, 0) true 0 Hc.out _ (heap_alloc_new _ _)).mono ?_; rintro e w' ⟨rfl, rfl⟩) | (go_at_call 49; refine (l01Fall_any _ hs ts Hh.out Ht.out hour facing hr0 hr1 Hfb.out.1 Hfb.out.2 Hb.out.2 Hy.out.1 Hy.out.2 27 (0, 0) _ (heap_alloc_new _ _)).mono ?_; rintro e W1 ⟨rfl, hb1⟩))
  go_ret2
  exact ⟨rfl, ((Below.refl _ _).alloc (Nat.le_refl _) _).trans (hb1.mono (by simp))⟩

end Go.Proofs.YtddnfbpgldchcaaGreatDoor

namespace Go.Proofs.YtddnfbpgldchcaaGreatDoor

open Go

/-- No NaN, and no minus sign. -/
def pos32 (x : Nat) : Bool := match Ieee.single.read x with | .number s _ _ => !s | .infinity s => !s | .nan _ _ => false

theorem pos_fin {x : Nat} (h : pos32 x = true) : fin32 x = true := by
  unfold pos32 at h
  unfold fin32
  cases hr : Ieee.single.read x with
  | number s m e => rfl
  | infinity s => rfl
  | nan s f => rw [hr] at h; cases h

theorem pos_word (k : Nat) (h : k ≤ Ieee.single.infRung) : pos32 (Ieee.single.word false k) = true := by
  have hi : Ieee.single.infRung = 2139095040 := by decide
  have hw : Ieee.single.signWeight = 2147483648 := by decide
  rw [hi] at h
  unfold pos32 Ieee.Format.read Ieee.Format.word
  simp only [hi, hw, Bool.false_eq_true, if_false]
  have hk : k % 2147483648 = k := Nat.mod_eq_of_lt (by omega)
  have hd : k / 2147483648 = 0 := Nat.div_eq_of_lt (by omega)
  rw [hk, hd]
  by_cases c1 : k < Ieee.single.binade
  · rw [if_pos c1]; rfl
  · rw [if_neg c1]
    by_cases c2 : k < 2139095040
    · rw [if_pos c2]; rfl
    · rw [if_neg c2, if_pos (by omega)]; rfl

theorem pos_nearest (m : Nat) (e : Int) : pos32 (Ieee.single.nearest false m e) = true := by
  unfold Ieee.Format.nearest
  split
  · exact pos_word 0 (Nat.zero_le _)
  · exact pos_word _ (Nat.min_le_right _ _)

/-- The sum of the first numbers of a row, beginning with 0. -/
def sumTo (f : Nat → Nat) (k : Nat) : Nat := (List.range k).foldl (fun s h => fadd s (f h)) 0

theorem litB_pos (l : Nat) : pos32 (litB l) = true := by
  unfold litB
  split
  · rename_i h
    have h' : (Ieee.single.read l).order (Ieee.single.read 0) = some .gt := h
    have hz : Ieee.single.read 0 = .number false 0 (-149) := by decide
    rw [hz] at h'
    unfold pos32
    cases hr : Ieee.single.read l with
    | nan s f => rw [hr] at h'; cases h'
    | infinity s => rw [hr] at h'; cases s <;> first | rfl | (simp [Ieee.Datum.order] at h')
    | number s m e =>
      rw [hr] at h'
      cases s
      · rfl
      · exfalso
        simp only [Ieee.Datum.order, Option.some.injEq] at h'
        have h1 : Ieee.signed true m (e - min e (-149)).toNat ≤ 0 := by
          unfold Ieee.signed
          rw [if_pos rfl]
          exact Int.neg_nonpos_of_nonneg (Int.natCast_nonneg _)
        have h2 : Ieee.signed false 0 ((-149 : Int) - min e (-149)).toNat = 0 := by simp [Ieee.signed]
        rw [h2] at h'
        have := Int.compare_eq_gt.1 h'
        omega
  · decide

theorem fallB_pos (x d : Int) : pos32 (fallB x d) = true := by
  unfold fallB
  split
  · exact litB_pos _
  · decide

end Go.Proofs.YtddnfbpgldchcaaGreatDoor

namespace Go.Proofs.YtddnfbpgldchcaaGreatDoor

open Go.RowKit Go.Shelf

theorem run_store_float (P : Program) (w : World) (a : Addr) (k : FloatKind) (b : Nat) (m : Mode) : (store a (.float k b) m).run P w = stored P w a (.float k b) m := run_store P w a _ m rfl

attribute [local go_sem] Oper.semAt_some run_store_float

theorem keeps_of_below {W W1 : World} (hb : Below W.heap.size W W1) : KeepsOthers W W1 := by
  exact ⟨hb.size, fun b o ho _ => (hb.block b (Array.getElem?_eq_some_iff.1 ho).1).trans ho⟩

end Go.Proofs.YtddnfbpgldchcaaGreatDoor

namespace Go.Proofs.YtddnfbpgldchcaaGreatDoor

open Go.RowKit

attribute [local go_sem] run_store_float

theorem src_kept {V V' : World} {b n m : Nat} {v : Value} {row : Option Nat} (h : SrcAt V b v n m) (hg : V.grownBy V' row) (hr : ∀ g, row = some g → b < g) : SrcAt V' b v n m := by
  obtain ⟨hB, x, y, h0, h1, h2, h3, h4⟩ := h
  obtain ⟨a, cap, e1, e2, e3, e4⟩ := hB
  refine ⟨⟨a, cap, e1, e2, e3, fun i hi => ?_⟩, x, y, h0, h1, h2, h3, (hg.block b (row_lt h4) (fun e => by have := hr b e.symm; omega)).trans h4⟩
  obtain ⟨g, o, z, e, hgb, z0, z1, hc⟩ := e4 i hi
  have hlt := World.block_lt_of_cell? _ _ hc
  exact ⟨g, o, z, e, hgb, z0, z1, (World.cell?_of_block (hg.block g hlt (fun e => by have := hr g e.symm; omega))).trans hc⟩

theorem row_grown {V V' : World} {b g : Nat} {o : Obj} (h : V.heap[g]? = some o) (hg : V.grownBy V' (some b)) (hne : g ≠ b) : V'.heap[g]? = some o :=
  (hg.block g (row_lt h) (fun e => hne (by injection e))).trans h

theorem grown_wide {A B : World} {r : Option Nat} (h : A.grownBy B none) : A.grownBy B r := ⟨h.os, h.tape, h.output, h.size, fun k hk _ => h.block k hk (by simp)⟩

theorem grown_new {V W W' : World} {b : Nat} {r : Nat} (h : V.grownBy W (some b)) (k : W.grownBy W' (some r)) (hr : V.heap.size ≤ r) : V.grownBy W' (some b) :=
  ⟨k.os.trans h.os, k.tape.trans h.tape, k.output.trans h.output, Nat.le_trans h.size k.size, fun i hi hne => (k.block i (Nat.lt_of_lt_of_le hi h.size) (fun e => by injection e with e; omega)).trans (h.block i hi hne)⟩

theorem alloc_row {W : World} (o : Obj) (cs : Array Value) : W.grownBy ((W.alloc o).setRow W.heap.size cs) none := by
  have h : Below W.heap.size W ((W.alloc o).setRow W.heap.size cs) := below_setRow ((Below.refl _ _).alloc (Nat.le_refl _) _) (Nat.le_refl _) _
  exact ⟨h.os, h.tape, h.output, h.size, fun k hk _ => h.block k hk⟩

set_option maxRecDepth 100000 in
set_option maxHeartbeats 2000000 in
theorem l02Drawn_any (b n m : Nat) (v : Value) (hm : m ≤ 600000) (V : World) (h : SrcAt V b v n m) :
    Calls Tryz.prog 41 #[.pointer (some ⟨b, 0, none⟩)] V fun e V' => (∃ (k : Int) (wd gp : Nat) (t : Int) (sh : Nat), e = .returned (.agg (blindC k wd gp t sh)) ∧ 1 ≤ k ∧ k ≤ 60 ∧ Sized wd ∧ Sized gp ∧ -64 ≤ t ∧ t ≤ 64 ∧ sh ≤ 1065353216) ∧ SrcAt V' b v n (m + 22) ∧ V.grownBy V' (some b) := by
  have HP1 := Lib.hid (fun V h => pick_any b n m v (by omega) 60 (by decide) (by decide) V h)
  have HZ1 := Lib.hid (fun V h => l02Sized_any b n (m + 2) v (by omega) V h)
  have HZ2 := Lib.hid (fun V h => l02Sized_any b n (m + 8) v (by omega) V h)
  have HP2 := Lib.hid (fun V h => pick_any b n (m + 14) v (by omega) 129 (by decide) (by decide) V h)
  have HT := Lib.hid (fun V h => l01Tone_any b n (m + 16) v (by omega) V h)
  have hbl : b < V.heap.size := by obtain ⟨_, _, _, _, _, _, _, hr⟩ := h; exact row_lt hr
  have HS0 := Lib.hid h
  clear h
  go_enter Tryz.func41, Tryz.ntmps41
  go_upto_region 1 with (fail)
  have hga : V.grownBy (V.alloc (.cells (blindC 0 0 0 0 0) 32)) none := World.grownBy_alloc V _ none
  refine abs_code (fun W => W.heap[V.heap.size]? = some (.cells (blindC 0 0 0 0 0) 32 (0, 0)) ∧ SrcAt W b v n m ∧ V.grownBy W (some b)) ⟨heap_alloc_new _ _, src_kept HS0.out hga (fun g e => by cases e), grown_wide hga⟩ ?_
  rintro W ⟨h0, hs, hg⟩
  have H0 := Lib.hid h0
  have HS := Lib.hid hs
  have HG := Lib.hid hg
  have hne0 : V.heap.size ≠ b := by omega
  generalize hg0 : V.heap.size = g0 at *
  clear h0 hs hg HS0 hga
  go_upto_region 2 with (first | (go_at_call 57; refine (HP1.out _ HS.out).mono ?_; rintro e W1 ⟨⟨y, rfl, y0, y1⟩, hs1, hg1⟩; replace HS := Lib.hid hs1; replace HG := Lib.hid (grown_t HG.out hg1); replace H0 := Lib.hid (row_grown H0.out hg1 hne0); clear hs1 hg1; obtain ⟨p, rfl⟩ := Int.eq_ofNat_of_zero_le y0; have hw : IntKind.i64.wrap (1 + (p : Int)) = 1 + (p : Int) := (by rw [IntWalk.i64_in _ (by omega)]); have hw8 : IntKind.i8.wrap (1 + (p : Int)) = 1 + (p : Int) := (by rw [IntWalk.i8_in _ (by omega)])) | (go_at_call 103; refine (HZ1.out _ HS.out).mono ?_; rintro e W2 ⟨⟨z, rfl, hz⟩, hs1, hg1⟩; replace HS := Lib.hid hs1; replace HG := Lib.hid (grown_t HG.out hg1); replace H0 := Lib.hid (row_grown H0.out hg1 hne0); clear hs1 hg1; have HBI : Hid (Tryz.prog.built 32 [(0, .int .i8 (1 + (p : Int))), (1, .float .f32 z)] = some (blindC (1 + (p : Int)) z 0 0 0)) := (by unfold Hid; kernel_rfl)) | (refine wpList_buildL rfl 32 _ rfl _ rfl [(0, .int .i8 (1 + (p : Int))), (1, .float .f32 z)] rfl (blindC (1 + (p : Int)) z 0 0 0) HBI.out ?_) | (refine wpList_store_part rfl 32 _ _ rfl _ 0 (blindC (1 + (p : Int)) z 0 0 0) rfl rfl 32 _ (heap_alloc_new _ _) info_blind (Nat.le_refl _) (by intro u hu; simp only [blindC, List.mem_toArray, List.mem_cons, List.not_mem_nil, or_false] at hu; rcases hu with rfl | rfl | rfl | rfl | rfl <;> rfl) ?_; rw [laid_all _ _ (by rfl)]))
  have hl3 : g0 < W2.heap.size := row_lt H0.out
  refine abs_code (fun X => X.heap[g0]? = some (.cells (blindC 0 0 0 0 0) 32 (0, 0)) ∧ X.heap[W2.heap.size]? = some (.cells (blindC (1 + (p : Int)) z 0 0 0) 32 (0, 0)) ∧ SrcAt X b v n (m + 8) ∧ V.grownBy X (some b)) ⟨((alloc_row _ _).block _ (row_lt H0.out) (by simp)).trans H0.out, setRow_heap _ _ _ _ _ _ (heap_alloc_new _ _), src_kept HS.out (alloc_row _ _) (fun g e => by cases e), grown_t HG.out (grown_wide (alloc_row _ _))⟩ ?_
  clear H0 HS HG HBI hw hw8
  generalize W2.heap.size = g3 at *
  rintro X ⟨h0, h3, hs, hg⟩
  have hne3 : g3 ≠ b := by omega
  have H0 := Lib.hid h0
  have H3 := Lib.hid h3
  have HS := Lib.hid hs
  have HG := Lib.hid hg
  clear h0 h3 hs hg
  go_upto_region 3 with (go_at_call 103; refine (HZ2.out _ HS.out).mono ?_; rintro e W3 ⟨⟨z2, rfl, hz2⟩, hs1, hg1⟩; replace HS := Lib.hid hs1; replace HG := Lib.hid (grown_t HG.out hg1); replace H0 := Lib.hid (row_grown H0.out hg1 hne0); replace H3 := Lib.hid (row_grown H3.out hg1 hne3); have f3 := frozen_of_row _ g3 2 _ _ H3.out; obtain ⟨q0, q1, q2, q3, q4⟩ := blind_cells H3.out; clear hs1 hg1)
  refine abs_code (fun Y => Y.heap[g0]? = some (.cells (blindC 0 0 0 0 0) 32 (0, 0)) ∧ Y.heap[g3]? = some (.cells (blindC (1 + (p : Int)) z z2 0 0) 32 (0, 0)) ∧ SrcAt Y b v n (m + 14) ∧ V.grownBy Y (some b)) ⟨(heap_setCell_other _ _ _ _ (by simp; omega)).trans H0.out, by rw [heap_setCell_same _ _ _ _ _ _ H3.out]; rfl, src_kept HS.out (grown_set (b := g3) (o := 2) _) (fun g e => by injection e with e; omega), grown_new HG.out (grown_set (b := g3) (o := 2) _) (by omega)⟩ ?_
  clear H0 H3 HS HG f3 q0 q1 q2 q3 q4
  rintro Y3 ⟨h0, h3, hs, hg⟩
  have H0 := Lib.hid h0
  have H3 := Lib.hid h3
  have HS := Lib.hid hs
  have HG := Lib.hid hg
  clear h0 h3 hs hg
  go_upto_region 4 with (go_at_call 57; refine (HP2.out _ HS.out).mono ?_; rintro e W4 ⟨⟨y, rfl, t0, t1⟩, hs1, hg1⟩; replace HS := Lib.hid hs1; replace HG := Lib.hid (grown_t HG.out hg1); replace H0 := Lib.hid (row_grown H0.out hg1 hne0); replace H3 := Lib.hid (row_grown H3.out hg1 hne3); have f3 := frozen_of_row _ g3 3 _ _ H3.out; obtain ⟨q0, q1, q2, q3, q4⟩ := blind_cells H3.out; clear hs1 hg1; have hw1 : IntKind.i64.wrap (y - 64) = y - 64 := (by rw [IntWalk.i64_in _ (by omega)]); have hw2 : IntKind.i16.wrap (y - 64) = y - 64 := (by rw [IntWalk.i16_in _ (by omega)]))
  refine abs_code (fun Y => Y.heap[g0]? = some (.cells (blindC 0 0 0 0 0) 32 (0, 0)) ∧ Y.heap[g3]? = some (.cells (blindC (1 + (p : Int)) z z2 (y - 64) 0) 32 (0, 0)) ∧ SrcAt Y b v n (m + 16) ∧ V.grownBy Y (some b)) ⟨(heap_setCell_other _ _ _ _ (by simp; omega)).trans H0.out, by rw [heap_setCell_same _ _ _ _ _ _ H3.out]; rfl, src_kept HS.out (grown_set (b := g3) (o := 3) _) (fun g e => by injection e with e; omega), grown_new HG.out (grown_set (b := g3) (o := 3) _) (by omega)⟩ ?_
  clear H0 H3 HS HG f3 q0 q1 q2 q3 q4
  rintro Y4 ⟨h0, h3, hs, hg⟩
  have H0 := Lib.hid h0
  have H3 := Lib.hid h3
  have HS := Lib.hid hs
  have HG := Lib.hid hg
  clear h0 h3 hs hg
  go_upto_region 5 with (go_at_call 58; refine (HT.out _ HS.out).mono ?_; rintro e W5 ⟨⟨z4, rfl, hz4⟩, hs1, hg1⟩; replace HS := Lib.hid hs1; replace HG := Lib.hid (grown_t HG.out hg1); replace H0 := Lib.hid (row_grown H0.out hg1 hne0); replace H3 := Lib.hid (row_grown H3.out hg1 hne3); have f3 := frozen_of_row _ g3 4 _ _ H3.out; obtain ⟨q0, q1, q2, q3, q4⟩ := blind_cells H3.out; clear hs1 hg1)
  refine abs_code (fun Y => Y.heap[g0]? = some (.cells (blindC 0 0 0 0 0) 32 (0, 0)) ∧ Y.heap[g3]? = some (.cells (blindC (1 + (p : Int)) z z2 (y - 64) z4) 32 (0, 0)) ∧ SrcAt Y b v n (m + 22) ∧ V.grownBy Y (some b)) ⟨(heap_setCell_other _ _ _ _ (by simp; omega)).trans H0.out, by rw [heap_setCell_same _ _ _ _ _ _ H3.out]; rfl, src_kept HS.out (grown_set (b := g3) (o := 4) _) (fun g e => by injection e with e; omega), grown_new HG.out (grown_set (b := g3) (o := 4) _) (by omega)⟩ ?_
  clear H0 H3 HS HG f3 q0 q1 q2 q3 q4
  rintro Y5 ⟨h0, h3, hs, hg⟩
  have H0 := Lib.hid h0
  have H3 := Lib.hid h3
  have HS := Lib.hid hs
  have HG := Lib.hid hg
  clear h0 h3 hs hg
  go_wp2_with (first | (refine wpList_load_part rfl 32 _ rfl g3 0 5 rfl 32 (blindC (1 + (p : Int)) z z2 (y - 64) z4) (0, 0) _ H3.out Tryz.underlying32 rfl info_blind (blind_fits _ _ _ _ _) _ (blind_all _ _ _ _ _) ?_) | (refine wpList_store_part rfl 32 _ _ rfl g0 0 (blindC (1 + (p : Int)) z z2 (y - 64) z4) rfl rfl 32 (blindC 0 0 0 0 0) H0.out info_blind (Nat.le_refl _) (by intro u hu; simp only [blindC, List.mem_toArray, List.mem_cons, List.not_mem_nil, or_false] at hu; rcases hu with rfl | rfl | rfl | rfl | rfl <;> rfl) ?_; rw [laid_all _ _ (by rfl)]))
  have hsr : Y5.grownBy (Y5.setRow g0 (blindC (1 + (p : Int)) z z2 (y - 64) z4)) (some g0) := ⟨rfl, rfl, rfl, by simp, fun k _ hk => setRow_other _ _ _ _ (fun e => hk (congrArg some e))⟩
  refine bodyPost_ret (v := .agg (blindC (1 + (p : Int)) z z2 (y - 64) z4)) (results_cell_row rfl _ _ _ _ _ _ _ rfl (setRow_heap _ _ _ _ _ _ H0.out) Tryz.underlying32 rfl info_blind) rfl ?_
  exact ⟨⟨_, _, _, _, _, rfl, by omega, by omega, hz, hz2, by omega, by omega, hz4⟩, src_kept HS.out hsr (fun g e => by injection e with e; omega), grown_new HG.out hsr (by omega)⟩

end Go.Proofs.YtddnfbpgldchcaaGreatDoor

namespace Go.Proofs.YtddnfbpgldchcaaGreatDoor

open Go.RowKit

attribute [local go_sem] run_store_float

theorem bytes_below {V V' : World} {B B' n : Nat} {v : Value} (h : BytesAt V B v n) (hb : Below V.heap.size V V') (hB : B ≤ B') : BytesAt V' B' v n := by
  obtain ⟨a, cap, e1, e2, e3, e4⟩ := h
  refine ⟨a, cap, e1, e2, e3, fun i hi => ?_⟩
  obtain ⟨g, o, z, e, hgb, z0, z1, hc⟩ := e4 i hi
  exact ⟨g, o, z, e, by omega, z0, z1, (hb.cell (p := ⟨g, o + i, none⟩) (World.block_lt_of_cell? _ _ hc)).trans hc⟩

theorem below_grown {A B C : World} {b : Nat} (h : Below A.heap.size A B) (k : B.grownBy C (some b)) (hb : A.heap.size ≤ b) : Below A.heap.size A C :=
  h.grown k h.size (fun j e => by injection e with e; omega)

set_option maxRecDepth 100000 in
set_option maxHeartbeats 2000000 in
theorem A2Part_any (n cap : Nat) (a : Option Addr) (V : World) (h : BytesAt V V.heap.size (.slice a n cap) n) :
    Calls Tryz.prog 16 #[.slice a n cap] V fun e V' => (∃ z : Nat, e = .returned (.float .f32 z) ∧ z ≤ 1065353216) ∧ Below V.heap.size V V' := by
  have HFR := Lib.hid (fun V h => l00From_any n cap a V h)
  have HT := Lib.hid (fun b V h => l01Tone_any b n 0 (.slice a n cap) (by decide) V h)
  have HBY := Lib.hid h
  clear h
  go_enter Tryz.func16, Tryz.ntmps16
  go_wp2_with (first | (go_at_call 40; refine (HFR.out _ HBY.out).mono ?_; rintro e W1 ⟨rfl, hs1, hb1⟩) | (go_at_call 58; refine (HT.out _ _ hs1).mono ?_; rintro e W2 ⟨⟨z, rfl, hz⟩, hs2, hg2⟩))
  go_ret
  exact ⟨⟨_, rfl, hz⟩, below_grown hb1 hg2 (Nat.le_refl _)⟩

set_option maxRecDepth 100000 in
set_option maxHeartbeats 2000000 in
theorem A2Blind_any (n cap : Nat) (a : Option Addr) (V : World) (h : BytesAt V V.heap.size (.slice a n cap) n) :
    Calls Tryz.prog 7 #[.slice a n cap] V fun e V' => (∃ (k : Int) (wd gp : Nat) (t : Int) (sh : Nat), e = .returned (.agg (blindC k wd gp t sh)) ∧ 1 ≤ k ∧ k ≤ 60 ∧ Sized wd ∧ Sized gp ∧ -64 ≤ t ∧ t ≤ 64 ∧ sh ≤ 1065353216) ∧ Below V.heap.size V V' := by
  have HFR := Lib.hid (fun V h => l00From_any n cap a V h)
  have HT := Lib.hid (fun b V h => l02Drawn_any b n 0 (.slice a n cap) (by decide) V h)
  have HB0 := Lib.hid h
  clear h
  go_enter Tryz.func7, Tryz.ntmps7
  go_upto_region 1 with (fail)
  refine abs_code (fun W => W.heap[V.heap.size]? = some (.cells (blindC 0 0 0 0 0) 32 (0, 0)) ∧ Below V.heap.size V W) ⟨heap_alloc_new _ _, (Below.refl _ _).alloc (Nat.le_refl _) _⟩ ?_
  rintro W ⟨h0, hb⟩
  have H0 := Lib.hid h0
  have HBY := Lib.hid (bytes_below HB0.out hb hb.size)
  have hl0 := row_lt h0
  clear h0 HB0
  go_wp2_with (first | (go_at_call 40; refine (HFR.out _ HBY.out).mono ?_; rintro e W1 ⟨rfl, hs1, hb1⟩) | (go_at_call 41; refine (HT.out _ _ hs1).mono ?_; rintro e W2 ⟨⟨k, wd, gp, t, sh, rfl, hk⟩, hs2, hg2⟩; have H2 := Lib.hid (row_grown (below_row hb1 H0.out) hg2 (by omega)); have hb2 := below_grown hb1 hg2 (Nat.le_refl _)) | (refine wpList_store_part rfl 32 _ _ rfl V.heap.size 0 (blindC k wd gp t sh) rfl rfl 32 (blindC 0 0 0 0 0) H2.out info_blind (Nat.le_refl _) (by intro u hu; simp only [blindC, List.mem_toArray, List.mem_cons, List.not_mem_nil, or_false] at hu; rcases hu with rfl | rfl | rfl | rfl | rfl <;> rfl) ?_; rw [laid_all _ _ (by rfl)]))
  refine bodyPost_ret (v := .agg (blindC k wd gp t sh)) (results_cell_row rfl _ _ _ _ _ _ _ rfl (setRow_heap _ _ _ _ _ _ H2.out) Tryz.underlying32 rfl info_blind) rfl ?_
  exact ⟨⟨_, _, _, _, _, rfl, hk⟩, below_setRow (hb.trans (hb2.mono hb.size)) (Nat.le_refl _) _⟩

set_option maxRecDepth 100000 in
set_option maxHeartbeats 2000000 in
theorem a2Long_any (n cap n' cap' : Nat) (a a' : Option Addr) (V : World) :
    Calls Tryz.prog 5 #[.slice a n cap, .slice a' n' cap'] V fun e V' => e = .returned (.bool (decide (3000 < n) || decide (3000 < n'))) ∧ V = V' := by
  by_cases h : (n : Int) > 3000
  · have e1 : decide (3000 < n) = true := decide_eq_true (by omega)
    have z1 : decide ((n : Int) > 3000) = true := decide_eq_true h
    rw [e1]
    go_enter Tryz.func5, Tryz.ntmps5
    go_wp2
    go_ret
    exact ⟨rfl, rfl⟩
  · have e1 : decide (3000 < n) = false := decide_eq_false (by omega)
    have z1 : decide ((n : Int) > 3000) = false := decide_eq_false h
    rw [e1, Bool.false_or]
    by_cases h2 : (n' : Int) > 3000
    · have e2 : decide (3000 < n') = true := decide_eq_true (by omega)
      have z2 : decide ((n' : Int) > 3000) = true := decide_eq_true h2
      rw [e2]
      go_enter Tryz.func5, Tryz.ntmps5
      go_wp2
      go_ret
      exact ⟨rfl, rfl⟩
    · have e2 : decide (3000 < n') = false := decide_eq_false (by omega)
      have z2 : decide ((n' : Int) > 3000) = false := decide_eq_false h2
      rw [e2]
      go_enter Tryz.func5, Tryz.ntmps5
      go_wp2
      go_ret
      exact ⟨rfl, rfl⟩

set_option maxRecDepth 100000 in
set_option maxHeartbeats 2000000 in
theorem a2At_any (n cap : Nat) (a : Option Addr) (at' k : Int) (h0 : 0 ≤ at') (k0 : 1 ≤ k) (k1 : k ≤ 65536) (B : Nat) (V : World) (h : BytesAt V B (.slice a n cap) n) :
    Calls Tryz.prog 8 #[.slice a n cap, .int .i64 at', .int .i64 k] V fun e V' => (∃ r : Int, e = .returned (.int .i64 r) ∧ 0 ≤ r ∧ r < k) ∧ V = V' := by
  obtain ⟨a1, cap1, e1, e2, e3, e4⟩ := h
  injection e1 with ea _ ec
  subst ea ec
  unfold maxLen at e3
  have zk : decide (k < 1) = false := decide_eq_false (by omega)
  have hne : k ≠ 0 := by omega
  by_cases hc : at' ≥ (n : Int)
  · have z1 : decide (at' ≥ (n : Int)) = true := decide_eq_true hc
    clear e4
    go_enter Tryz.func8, Tryz.ntmps8
    go_wp2
    go_ret
    exact ⟨⟨0, rfl, by omega, by omega⟩, rfl⟩
  · have z1 : decide (at' ≥ (n : Int)) = false := decide_eq_false hc
    obtain ⟨i, rfl⟩ := Int.eq_ofNat_of_zero_le h0
    obtain ⟨g, o, x, eg, hgb, x0, x1, hcx⟩ := e4 i (by omega)
    subst eg
    have z2 : (i : Int) < (n : Int) := by omega
    have hwx : IntKind.i64.wrap x = x := by rw [IntWalk.i64_in _ (by omega)]
    have hr : 0 ≤ x % k ∧ x % k < k := ⟨Int.emod_nonneg _ hne, Int.emod_lt_of_pos _ (by omega)⟩
    clear e4
    go_enter Tryz.func8, Tryz.ntmps8
    go_wp2
    go_ret
    exact ⟨⟨_, rfl, hr⟩, rfl⟩

end Go.Proofs.YtddnfbpgldchcaaGreatDoor

namespace Go.Proofs.YtddnfbpgldchcaaGreatDoor
open Go.RowKit

attribute [local go_sem] run_store_float

set_option maxRecDepth 100000 in
set_option maxHeartbeats 4000000 in
theorem l00Max_c (x y : Int) (w : World) : Calls Tryz.prog 100 #[.int .i64 x, .int .i64 y] w fun e w' => (∃ r : Int, e = .returned (.int .i64 r) ∧ x ≤ r ∧ y ≤ r ∧ (r = x ∨ r = y)) ∧ w = w' := by
  by_cases c : x > y
  · have hd : decide (x > y) = true := decide_eq_true c
    go_enter Tryz.func100, Tryz.ntmps100
    go_wp2
    go_ret
    exact ⟨⟨_, rfl, by omega⟩, rfl⟩
  · have hd : decide (x > y) = false := decide_eq_false c
    go_enter Tryz.func100, Tryz.ntmps100
    go_wp2
    go_ret
    exact ⟨⟨_, rfl, by omega⟩, rfl⟩

set_option maxRecDepth 100000 in
set_option maxHeartbeats 4000000 in
theorem l00Min_c (x y : Int) (w : World) : Calls Tryz.prog 102 #[.int .i64 x, .int .i64 y] w fun e w' => (∃ r : Int, e = .returned (.int .i64 r) ∧ r ≤ x ∧ r ≤ y ∧ (r = x ∨ r = y)) ∧ w = w' := by
  by_cases c : x < y
  · have hd : decide (x < y) = true := decide_eq_true c
    go_enter Tryz.func102, Tryz.ntmps102
    go_wp2
    go_ret
    exact ⟨⟨_, rfl, by omega⟩, rfl⟩
  · have hd : decide (x < y) = false := decide_eq_false c
    go_enter Tryz.func102, Tryz.ntmps102
    go_wp2
    go_ret
    exact ⟨⟨_, rfl, by omega⟩, rfl⟩

def zS : List Int := [0, 0, 0, 0, 0, 0, 0, 0, 0, 0, 0, 0, 0, 0, 0, 0, 0, 0, 0, 0, 0, 0, 0, 0]

theorem zS_ok : okB zS zS = true := by decide

theorem sunC_sizeT {hs ts : List Int} (hh : hs.length = 24) (ht : ts.length = 24) : (sunC hs ts).size = 48 := by
  simp [sunC, i16s, hh, ht]

theorem okB_setH {hs ts : List Int} {k : Nat} {x : Int} (h : okB hs ts = true) (h0 : -64 ≤ x) (h1 : x ≤ 64) : okB (hs.set k x) ts = true := by
  unfold okB at h ⊢
  rw [Bool.and_eq_true, List.all_eq_true, List.all_eq_true] at h ⊢
  refine ⟨fun y hy => ?_, h.2⟩
  rcases List.mem_or_eq_of_mem_set hy with hy | rfl
  · exact h.1 y hy
  · unfold inB; simp; omega

theorem okB_setT {hs ts : List Int} {k : Nat} {x : Int} (h : okB hs ts = true) (h0 : 0 ≤ x) (h1 : x ≤ 255) : okB hs (ts.set k x) = true := by
  unfold okB at h ⊢
  rw [Bool.and_eq_true, List.all_eq_true, List.all_eq_true] at h ⊢
  refine ⟨h.1, fun y hy => ?_⟩
  rcases List.mem_or_eq_of_mem_set hy with hy | rfl
  · exact h.2 y hy
  · unfold inB; simp; omega

theorem okB_rb {hs ts : List Int} (h : okB hs ts = true) : ∀ x ∈ hs ++ ts, -32768 ≤ x ∧ x ≤ 32767 := by
  unfold okB at h
  rw [Bool.and_eq_true, List.all_eq_true, List.all_eq_true] at h
  intro x hx
  rcases List.mem_append.1 hx with hx | hx
  · have := h.1 x hx
    unfold inB at this; simp at this; omega
  · have := h.2 x hx
    unfold inB at this; simp at this; omega

theorem sun_oneT (hs ts : List Int) : ∀ v ∈ sunC hs ts, v.oneCell' = true := by
  intro v hv
  simp only [sunC, i16s, List.mem_toArray, List.mem_map] at hv
  obtain ⟨x, _, rfl⟩ := hv
  rfl

theorem set_sunH {W : World} {g : Nat} {a b : List Int} {t : TypeId} (h : W.heap[g]? = some (.cells (sunC a b) t (0, 0))) (k : Nat) (hk : k < a.length) (x : Int) : (W.setCell ⟨g, k, none⟩ (.int .i16 x)).heap[g]? = some (.cells (sunC (a.set k x) b) t (0, 0)) := by
  rw [heap_setCell_same _ _ _ _ _ _ h]
  congr 2
  apply Array.ext'
  simp [sunC, i16s, List.map_set, List.set_append, hk]

theorem set_sunT {W : World} {g : Nat} {a b : List Int} {t : TypeId} (h : W.heap[g]? = some (.cells (sunC a b) t (0, 0))) (ha : a.length = 24) (k : Nat) (x : Int) : (W.setCell ⟨g, 24 + k, none⟩ (.int .i16 x)).heap[g]? = some (.cells (sunC a (b.set k x)) t (0, 0)) := by
  rw [heap_setCell_same _ _ _ _ _ _ h]
  congr 2
  apply Array.ext'
  have : ¬ (24 + k < a.length) := by omega
  simp [sunC, i16s, List.map_set, List.set_append, ha]

set_option maxRecDepth 100000 in
set_option maxHeartbeats 8000000 in
theorem l01Drawn_any (b n m : Nat) (v : Value) (hm : m ≤ 1000) (V : World) (h : SrcAt V b v n m) :
    Calls Tryz.prog 39 #[.pointer (some ⟨b, 0, none⟩)] V fun e V' => (∃ hs ts : List Int, e = .returned (.agg (sunC hs ts)) ∧ hs.length = 24 ∧ ts.length = 24 ∧ okB hs ts = true) ∧ SrcAt V' b v n (m + 200) ∧ V.grownBy V' (some b) := by
  have HP1 := Lib.hid (fun V h => pick_any b n m v (by omega) 56 (by decide) (by decide) V h)
  have HP2 := Lib.hid (fun V h => pick_any b n (m + 2) v (by omega) 256 (by decide) (by decide) V h)
  have HP3 := Lib.hid (fun V h => pick_any b n (m + 2 + 2) v (by omega) 10 (by decide) (by decide) V h)
  have HON := Lib.hid (fun k (hk : k < 24) V h => one_any b n (m + 6 + 6 * k) v (by omega) 6 (by decide) (by decide) V h)
  have HP4 := Lib.hid (fun k (hk : k < 24) V h => pick_any b n (m + 6 + 6 * k + 2) v (by omega) 129 (by decide) (by decide) V h)
  have HP5 := Lib.hid (fun k (hk : k < 24) V h => pick_any b n (m + 6 + 6 * k + 4) v (by omega) 4 (by decide) (by decide) V h)
  have hbl : b < V.heap.size := by obtain ⟨_, _, _, _, _, _, _, hr⟩ := h; exact row_lt hr
  have HS0 := Lib.hid h
  have HBI : Hid (Tryz.prog.built 27 [] = some (sunC zS zS)) := by unfold Hid; kernel_rfl
  clear h
  go_enter Tryz.func39, Tryz.ntmps39
  go_upto_region 1 with (fail)
  have hga : V.grownBy (V.alloc (.cells (sunC zS zS) 27)) none := World.grownBy_alloc V _ none
  refine abs_code (fun W => W.heap[V.heap.size]? = some (.cells (sunC zS zS) 27 (0, 0)) ∧ SrcAt W b v n m ∧ V.grownBy W (some b)) ⟨heap_alloc_new _ _, src_kept HS0.out hga (fun g e => by cases e), grown_wide hga⟩ ?_
  rintro W ⟨h0, hs, hg⟩
  have H0 := Lib.hid h0
  have HS := Lib.hid hs
  have HG := Lib.hid hg
  have hne0 : V.heap.size ≠ b := by omega
  generalize hg0 : V.heap.size = g0 at *
  have hl3 : g0 < W.heap.size := row_lt h0
  clear h0 hs hg HS0 hga
  go_upto_region 2 with (first | (refine wpList_buildL rfl 27 _ rfl _ rfl [] rfl (sunC zS zS) HBI.out ?_) | (refine wpList_store_part rfl 27 _ _ rfl _ 0 (sunC zS zS) rfl rfl 27 _ (heap_alloc_new _ _) info_sun (Nat.le_refl _) (sun_oneT _ _) ?_; rw [laid_all _ _ (by rfl)]))
  refine abs_code (fun X => X.heap[g0]? = some (.cells (sunC zS zS) 27 (0, 0)) ∧ X.heap[W.heap.size]? = some (.cells (sunC zS zS) 27 (0, 0)) ∧ SrcAt X b v n m ∧ V.grownBy X (some b)) ⟨((alloc_row _ _).block _ (row_lt H0.out) (by simp)).trans H0.out, setRow_heap _ _ _ _ _ _ (heap_alloc_new _ _), src_kept HS.out (alloc_row _ _) (fun g e => by cases e), grown_t HG.out (grown_wide (alloc_row _ _))⟩ ?_
  have hW0 : V.heap.size ≤ W.heap.size := HG.out.size
  clear H0 HS HG HBI
  generalize W.heap.size = g3 at *
  rintro X ⟨h0, h3, hs, hg⟩
  have hne3 : g3 ≠ b := by omega
  have H0 := Lib.hid h0
  have H3 := Lib.hid h3
  have HS := Lib.hid hs
  have HG := Lib.hid hg
  clear h0 h3 hs hg
  go_upto_region 3 with (go_at_call 57; refine (HP1.out _ HS.out).mono ?_; rintro e W1 ⟨⟨p, rfl, p0, p1⟩, hs1, hg1⟩; replace HS := Lib.hid hs1; replace HG := Lib.hid (grown_t HG.out hg1); replace H0 := Lib.hid (row_grown H0.out hg1 hne0); replace H3 := Lib.hid (row_grown H3.out hg1 hne3); clear hs1 hg1; have hw1 : IntKind.i64.wrap (8 + p) = 8 + p := (by rw [IntWalk.i64_in _ (by omega)]))
  go_upto_region 4 with (go_at_call 57; refine (HP2.out _ HS.out).mono ?_; rintro e W2 ⟨⟨q, rfl, q0, q1⟩, hs1, hg1⟩; replace HS := Lib.hid hs1; replace HG := Lib.hid (grown_t HG.out hg1); replace H0 := Lib.hid (row_grown H0.out hg1 hne0); replace H3 := Lib.hid (row_grown H3.out hg1 hne3); clear hs1 hg1)
  go_upto_region 5 with (go_at_call 57; refine (HP3.out _ HS.out).mono ?_; rintro e W3 ⟨⟨r, rfl, r0, r1⟩, hs1, hg1⟩; replace HS := Lib.hid hs1; replace HG := Lib.hid (grown_t HG.out hg1); replace H0 := Lib.hid (row_grown H0.out hg1 hne0); replace H3 := Lib.hid (row_grown H3.out hg1 hne3); clear hs1 hg1)
  clear HP1 HP2 HP3 hw1
  obtain ⟨tp, htp⟩ : ∃ tp, tp = 8 + p := ⟨_, rfl⟩
  rw [← htp]
  have t0 : 8 ≤ tp := by omega
  have t1 : tp ≤ 64 := by omega
  clear htp p0 p1
  go_wp2
  go_loopw [7] (fun i wr => ∃ (k : Nat) (hs ts : List Int), k ≤ 24 ∧ i = .int .i64 (k : Int) ∧ hs.length = 24 ∧ ts.length = 24 ∧ okB hs ts = true ∧ wr.heap[g0]? = some (.cells (sunC zS zS) 27 (0, 0)) ∧ wr.heap[g3]? = some (.cells (sunC hs ts) 27 (0, 0)) ∧ SrcAt wr b v n (m + 6 + 6 * k) ∧ V.grownBy wr (some b)) (fun i _ => 24 - (intOf i).toNat)
  case atStart => exact ⟨0, zS, zS, by decide, rfl, rfl, rfl, zS_ok, H0.out, H3.out, HS.out, HG.out⟩
  case round =>
    clear H0 H3 HS HG
    obtain ⟨k, hs, ts, hk, rfl, hh, ht, hok, h0, h3, hsr, hg⟩ := hrel
    have H0 := Lib.hid h0
    have H3 := Lib.hid h3
    have HS := Lib.hid hsr
    have HG := Lib.hid hg
    have HOK := Lib.hid hok
    clear h0 h3 hsr hg hok
    by_cases hlt : k < 24
    · have HON2 := Lib.hid (HON.out k hlt)
      have HP42 := Lib.hid (HP4.out k hlt)
      have HP52 := Lib.hid (HP5.out k hlt)
      have z1 : (k : Int) < 24 := by omega
      have z2 : (0 : Int) ≤ (k : Int) := by omega
      have v1 : IntKind.i64.wrap ((k : Int) - 12) = (k : Int) - 12 := by rw [IntWalk.i64_in _ (by omega)]
      have v2 : IntKind.i64.wrap (12 - (k : Int)) = 12 - (k : Int) := by rw [IntWalk.i64_in _ (by omega)]
      have v3 : IntKind.i64.wrap ((k : Int) + 1) = (k : Int) + 1 := by rw [IntWalk.i64_in _ (by omega)]
      have v4 : IntKind.i64.wrap (10 * (k : Int)) = 10 * (k : Int) := by rw [IntWalk.i64_in _ (by omega)]
      have v5 : IntKind.i64.wrap (q + 10 * (k : Int)) = q + 10 * (k : Int) := by rw [IntWalk.i64_in _ (by omega)]
      clear HON HP4 HP5
      go_upto_if 30 with (first | (go_at_call 100; refine (l00Max_c _ _ _).mono ?_; rintro e w' ⟨⟨mx, rfl, mx0, mx1, mx2⟩, rfl⟩; have u1 : IntKind.i64.wrap (8 * mx) = 8 * mx := (by rw [IntWalk.i64_in _ (by omega)]); have u2 : IntKind.i64.wrap (tp - 8 * mx) = tp - 8 * mx := (by rw [IntWalk.i64_in _ (by omega)])) | (go_at_call 101; refine (HON2.out _ HS.out).mono ?_; rintro e W4 ⟨⟨rb, rfl⟩, hs1, hg1⟩; replace HS := Lib.hid hs1; replace HG := Lib.hid (grown_t HG.out hg1); replace H0 := Lib.hid (row_grown H0.out hg1 hne0); replace H3 := Lib.hid (row_grown H3.out hg1 hne3); clear hs1 hg1))
      obtain ⟨ht2, hht2⟩ : ∃ ht2, ht2 = tp - 8 * mx := ⟨_, rfl⟩
      rw [← hht2]
      have a0 : -100 ≤ ht2 := by omega
      have a1 : ht2 ≤ 100 := by omega
      clear u1 u2 hht2 mx0 mx1 mx2 v1 v2
      go_cut [8] (fun y wx => ∃ z : Int, y = .int .i64 z ∧ -100 ≤ z ∧ z ≤ 100 ∧ wx.heap[g0]? = some (.cells (sunC zS zS) 27 (0, 0)) ∧ wx.heap[g3]? = some (.cells (sunC hs ts) 27 (0, 0)) ∧ SrcAt wx b v n (m + 6 + 6 * k + 4) ∧ V.grownBy wx (some b))
      case first =>
        go_wp2_with (go_at_call 57; refine (HP42.out _ HS.out).mono ?_; rintro e W5 ⟨⟨y, rfl, y0, y1⟩, hs1, hg1⟩; replace HS := Lib.hid hs1; replace HG := Lib.hid (grown_t HG.out hg1); replace H0 := Lib.hid (row_grown H0.out hg1 hne0); replace H3 := Lib.hid (row_grown H3.out hg1 hne3); clear hs1 hg1; have u3 : IntKind.i64.wrap (y - 64) = y - 64 := (by rw [IntWalk.i64_in _ (by omega)]))
        all_goals
          go_meet
          case rel => exact ⟨_, rfl, by omega, by omega, H0.out, H3.out, src_mono HS.out (by omega), HG.out⟩
      case rest =>
        clear H0 H3 HS HG HON2 HP42 a0 a1
        obtain ⟨z, rfl, a0, a1, h0, h3, hsr, hg⟩ := hcut
        have H0 := Lib.hid h0
        have H3 := Lib.hid h3
        have HS := Lib.hid hsr
        have HG := Lib.hid hg
        clear h0 h3 hsr hg
        have u1 : IntKind.i64.wrap (z + r) = z + r := by rw [IntWalk.i64_in _ (by omega)]
        have u2 : IntKind.i64.wrap (z + r - 5) = z + r - 5 := by rw [IntWalk.i64_in _ (by omega)]
        have hszk := sunC_sizeT hh ht
        obtain ⟨q1, f1⟩ : (∃ u, wc.cell? ⟨g3, k, none⟩ = some u) ∧ wc.frozen? ⟨g3, k, none⟩ = false := ⟨⟨_, (cell_of_row _ _ _ _ _ _ H3.out).trans (Array.getElem?_eq_getElem (by rw [hszk]; omega))⟩, frozen_of_row _ g3 k _ _ H3.out⟩
        obtain ⟨uu, q1⟩ := q1
        go_upto_region 12 with (first | (go_at_call 102; refine (l00Min_c _ _ _).mono ?_; rintro e w' ⟨⟨mn, rfl, mn0, mn1, mn2⟩, rfl⟩) | (go_at_call 100; refine (l00Max_c _ _ _).mono ?_; rintro e w' ⟨⟨mx, rfl, mx0, mx1, mx2⟩, rfl⟩; have hm0 : -64 ≤ mx := (by omega); have hm1 : mx ≤ 64 := (by omega); have u4 : IntKind.i16.wrap mx = mx := (by rw [IntWalk.i16_in _ (by omega)])))
        refine abs_world (fun Y => Y.heap[g0]? = some (.cells (sunC zS zS) 27 (0, 0)) ∧ Y.heap[g3]? = some (.cells (sunC (hs.set k mx) ts) 27 (0, 0)) ∧ SrcAt Y b v n (m + 6 + 6 * k + 4) ∧ V.grownBy Y (some b)) ⟨(heap_setCell_other _ _ _ _ (by simp; omega)).trans H0.out, set_sunH H3.out k (by omega) mx, src_kept HS.out (grown_set (b := g3) (o := k) _) (fun g e => by injection e with e; omega), grown_new HG.out (grown_set (b := g3) (o := k) _) (by omega)⟩ ?_
        clear H0 H3 HS HG q1 f1
        rintro Y ⟨h0, h3, hsr, hg⟩
        have H0 := Lib.hid h0
        have H3 := Lib.hid h3
        have HS := Lib.hid hsr
        have HG := Lib.hid hg
        have HOK2 := Lib.hid (okB_setH (k := k) HOK.out hm0 hm1)
        have hh2 : (hs.set k mx).length = 24 := by rw [List.length_set]; exact hh
        clear h0 h3 hsr hg HOK u1 u2 u4 mn0 mn1 mn2 mx0 mx1 mx2 hszk
        generalize hs.set k mx = hs2 at *
        have hszk := sunC_sizeT hh2 ht
        go_upto_region 7 with (go_at_call 57; refine (HP52.out _ HS.out).mono ?_; rintro e W6 ⟨⟨y, rfl, y0, y1⟩, hs1, hg1⟩; replace HS := Lib.hid hs1; replace HG := Lib.hid (grown_t HG.out hg1); replace H0 := Lib.hid (row_grown H0.out hg1 hne0); replace H3 := Lib.hid (row_grown H3.out hg1 hne3); clear hs1 hg1; have s1 : IntKind.i64.wrap (q + 10 * (k : Int) + y) = q + 10 * (k : Int) + y := (by rw [IntWalk.i64_in _ (by omega)]); have s2 : (q + 10 * (k : Int) + y).tmod 256 = (q + 10 * (k : Int) + y) % 256 := (by rw [Int.tmod_eq_emod_of_nonneg (by omega)]); have s3 : IntKind.i16.wrap ((q + 10 * (k : Int) + y) % 256) = (q + 10 * (k : Int) + y) % 256 := (by rw [IntWalk.i16_in _ (by omega)]); obtain ⟨uu2, q1⟩ : ∃ u, W6.cell? ⟨g3, 24 + k, none⟩ = some u := ⟨_, (cell_of_row _ _ _ _ _ _ H3.out).trans (Array.getElem?_eq_getElem (by rw [hszk]; omega))⟩; have f1 := frozen_of_row _ g3 (24 + k) _ _ H3.out)
        refine abs_world (fun Y => Y.heap[g0]? = some (.cells (sunC zS zS) 27 (0, 0)) ∧ Y.heap[g3]? = some (.cells (sunC hs2 (ts.set k ((q + 10 * (k : Int) + y) % 256))) 27 (0, 0)) ∧ SrcAt Y b v n (m + 6 + 6 * k + 4 + 2) ∧ V.grownBy Y (some b)) ⟨(heap_setCell_other _ _ _ _ (by simp; omega)).trans H0.out, set_sunT H3.out hh2 k _, src_kept HS.out (grown_set (b := g3) (o := 24 + k) _) (fun g e => by injection e with e; omega), grown_new HG.out (grown_set (b := g3) (o := 24 + k) _) (by omega)⟩ ?_
        have o0 : 0 ≤ (q + 10 * (k : Int) + y) % 256 := by omega
        have o1 : (q + 10 * (k : Int) + y) % 256 ≤ 255 := by omega
        have ht2 : (ts.set k ((q + 10 * (k : Int) + y) % 256)).length = 24 := by rw [List.length_set]; exact ht
        have HOK3 := Lib.hid (okB_setT (k := k) HOK2.out o0 o1)
        clear H0 H3 HS HG q1 f1 s1 s2 s3
        rintro Y2 ⟨h0, h3, hsr, hg⟩
        have H0 := Lib.hid h0
        have H3 := Lib.hid h3
        have HS := Lib.hid hsr
        have HG := Lib.hid hg
        clear h0 h3 hsr hg
        go_wp2
        go_roundw
        case rel => exact ⟨k + 1, hs2, _, by omega, by first | rfl | go_num, hh2, ht2, HOK3.out, H0.out, H3.out, src_mono HS.out (by omega), HG.out⟩
        case measure => simp [intOf]; omega
    · obtain rfl : k = 24 := by omega
      have hsz := sunC_sizeT hh ht
      go_wp2_with (first | (refine wpList_load_part rfl 27 _ rfl g3 0 48 rfl 27 (sunC hs ts) (0, 0) _ H3.out Tryz.underlying27 rfl info_sun (by rw [hsz]; decide) (sunC hs ts) (by rw [Nat.zero_add, ← hsz, Array.extract_size]) ?_) | (refine wpList_store_part rfl 27 _ _ rfl g0 0 (sunC hs ts) rfl rfl 27 (sunC zS zS) H0.out (by rw [hsz]; exact info_sun) (by rw [hsz]; decide) (sun_oneT _ _) ?_; rw [laid_all _ _ (by rw [hsz]; rfl)]))
      have hsr : wr.grownBy (wr.setRow g0 (sunC hs ts)) (some g0) := ⟨rfl, rfl, rfl, by simp, fun k _ hk => setRow_other _ _ _ _ (fun e => hk (congrArg some e))⟩
      refine bodyPost_ret (v := .agg (sunC hs ts)) (results_cell_row rfl _ _ _ _ _ _ _ rfl (setRow_heap _ _ _ _ _ _ H0.out) Tryz.underlying27 rfl (by rw [hsz]; exact info_sun)) rfl ?_
      exact ⟨⟨_, _, rfl, hh, ht, HOK.out⟩, src_mono (src_kept HS.out hsr (fun g e => by injection e with e; omega)) (by omega), grown_new HG.out hsr (by omega)⟩

end Go.Proofs.YtddnfbpgldchcaaGreatDoor

namespace Go.Proofs.YtddnfbpgldchcaaGreatDoor
open Go.RowKit

attribute [local go_sem] run_store_float

theorem tp_gt {x y : Nat} (hx : x ≤ 1065353216) (hy : y ≤ 1065353216) : FloatKind.f32.format.order x y = some (compare x y) := order_pos (by omega) (by omega)

theorem tp_below {A B : World} {b k : Nat} (h : A.grownBy B (some b)) (hk : k ≤ b) (hA : k ≤ A.heap.size) : Below k A B := ⟨h.os, h.tape, h.output, h.size, fun g hg => h.block g (by omega) (fun e => by have := Option.some.inj e; omega)⟩

theorem ct_oneT (lo hi wi : Nat) (st de ca : Int) : ∀ v ∈ ctC lo hi wi st de ca, v.oneCell' = true := by
  intro v hv
  simp only [ctC, List.mem_toArray, List.mem_cons, List.not_mem_nil, or_false] at hv
  rcases hv with rfl | rfl | rfl | rfl | rfl | rfl <;> rfl

theorem sa_oneT (ti wt sm : Int) : ∀ v ∈ saC ti wt sm, v.oneCell' = true := by
  intro v hv
  simp only [saC, List.mem_toArray, List.mem_cons, List.not_mem_nil, or_false] at hv
  rcases hv with rfl | rfl | rfl <;> rfl

set_option maxRecDepth 100000 in
set_option maxHeartbeats 4000000 in
theorem A2Sun_any (n cap : Nat) (a : Option Addr) (V : World) (h : BytesAt V V.heap.size (.slice a n cap) n) :
    Calls Tryz.prog 6 #[.slice a n cap] V fun e V' => (∃ hs ts : List Int, e = .returned (.agg (sunC hs ts)) ∧ hs.length = 24 ∧ ts.length = 24 ∧ okB hs ts = true) ∧ Below V.heap.size V V' := by
  have HFR := Lib.hid (fun V h => l00From_any n cap a V h)
  have HT := Lib.hid (fun b V h => l01Drawn_any b n 0 (.slice a n cap) (by decide) V h)
  have HB0 := Lib.hid h
  clear h
  go_enter Tryz.func6, Tryz.ntmps6
  go_upto_region 1 with (fail)
  refine abs_code (fun W => W.heap[V.heap.size]? = some (.cells (sunC zS zS) 27 (0, 0)) ∧ Below V.heap.size V W) ⟨heap_alloc_new _ _, (Below.refl _ _).alloc (Nat.le_refl _) _⟩ ?_
  rintro W ⟨h0, hb⟩
  have H0 := Lib.hid h0
  have HBY := Lib.hid (bytes_below HB0.out hb hb.size)
  have hl0 := row_lt h0
  clear h0 HB0
  go_upto_region 99 with (first | (go_at_call 40; refine (HFR.out _ HBY.out).mono ?_; rintro e W1 ⟨rfl, hs1, hb1⟩) | (go_at_call 39; refine (HT.out _ _ hs1).mono ?_; rintro e W2 ⟨⟨hs, ts, rfl, hh, ht, hok⟩, hs2, hg2⟩; have H2 := Lib.hid (row_grown (below_row hb1 H0.out) hg2 (by omega)); have hb2 := below_grown hb1 hg2 (Nat.le_refl _); have hsz := sunC_sizeT hh ht) | (refine wpList_store_part rfl 27 _ _ rfl V.heap.size 0 (sunC hs ts) rfl rfl 27 (sunC zS zS) H2.out (by rw [hsz]; exact info_sun) (by rw [hsz]; decide) (sun_oneT _ _) ?_; rw [laid_all _ _ (by rw [hsz]; rfl)]))
  refine bodyPost_ret (v := .agg (sunC hs ts)) (results_cell_row rfl _ _ _ _ _ _ _ rfl (setRow_heap _ _ _ _ _ _ H2.out) Tryz.underlying27 rfl (by rw [hsz]; exact info_sun)) rfl ?_
  exact ⟨⟨_, _, rfl, hh, ht, hok⟩, below_setRow (hb.trans (hb2.mono hb.size)) (Nat.le_refl _) _⟩

set_option maxRecDepth 100000 in
set_option maxHeartbeats 8000000 in
theorem l05Drawn_any (b n m : Nat) (v : Value) (hm : m ≤ 1000) (V : World) (h : SrcAt V b v n m) :
    Calls Tryz.prog 56 #[.pointer (some ⟨b, 0, none⟩)] V fun e V' => (∃ (lo hi wi : Nat) (st de ca : Int), e = .returned (.agg (ctC lo hi wi st de ca)) ∧ lo ≤ hi ∧ hi ≤ 1065353216 ∧ wi ≤ 1065353216 ∧ 1 ≤ st ∧ st ≤ 20 ∧ 0 ≤ de ∧ de ≤ 3 ∧ 1 ≤ ca ∧ ca ≤ 4) ∧ SrcAt V' b v n (m + 24) ∧ V.grownBy V' (some b) := by
  have HT1 := Lib.hid (fun V h => l01Tone_any b n m v (by omega) V h)
  have HT2 := Lib.hid (fun V h => l01Tone_any b n (m + 6) v (by omega) V h)
  have HT3 := Lib.hid (fun V h => l01Tone_any b n (m + 6 + 6) v (by omega) V h)
  have HP1 := Lib.hid (fun V h => pick_any b n (m + 6 + 6 + 6) v (by omega) 20 (by decide) (by decide) V h)
  have HP2 := Lib.hid (fun V h => pick_any b n (m + 6 + 6 + 6 + 2) v (by omega) 4 (by decide) (by decide) V h)
  have HP3 := Lib.hid (fun V h => pick_any b n (m + 6 + 6 + 6 + 2 + 2) v (by omega) 4 (by decide) (by decide) V h)
  have hbl : b < V.heap.size := by obtain ⟨_, _, _, _, _, _, _, hr⟩ := h; exact row_lt hr
  have HS0 := Lib.hid h
  clear h
  go_enter Tryz.func56, Tryz.ntmps56
  go_upto_region 1 with (fail)
  have hga : V.grownBy (V.alloc (.cells (ctC 0 0 0 0 0 0) 40)) none := World.grownBy_alloc V _ none
  refine abs_code (fun W => W.heap[V.heap.size]? = some (.cells (ctC 0 0 0 0 0 0) 40 (0, 0)) ∧ SrcAt W b v n m ∧ V.grownBy W (some b)) ⟨heap_alloc_new _ _, src_kept HS0.out hga (fun g e => by cases e), grown_wide hga⟩ ?_
  rintro W ⟨h0, hs, hg⟩
  have H0 := Lib.hid h0
  have HS := Lib.hid hs
  have HG := Lib.hid hg
  have hne0 : V.heap.size ≠ b := by omega
  generalize hg0 : V.heap.size = g0 at *
  have hl3 : g0 < W.heap.size := row_lt h0
  clear h0 hs hg HS0 hga
  go_upto_region 2 with (go_at_call 58; refine (HT1.out _ HS.out).mono ?_; rintro e W1 ⟨⟨z1, rfl, hz1⟩, hs1, hg1⟩; replace HS := Lib.hid hs1; replace HG := Lib.hid (grown_t HG.out hg1); replace H0 := Lib.hid (row_grown H0.out hg1 hne0); clear hs1 hg1)
  go_upto_region 3 with (go_at_call 58; refine (HT2.out _ HS.out).mono ?_; rintro e W2 ⟨⟨z2, rfl, hz2⟩, hs1, hg1⟩; replace HS := Lib.hid hs1; replace HG := Lib.hid (grown_t HG.out hg1); replace H0 := Lib.hid (row_grown H0.out hg1 hne0); clear hs1 hg1)
  clear HT1 HT2
  have hor := tp_gt hz1 hz2
  have hb2 : b < W2.heap.size := by obtain ⟨_, _, _, _, _, _, _, hr⟩ := HS.out; exact row_lt hr
  have hl2 : g0 < W2.heap.size := row_lt H0.out
  go_upto_if 12 with (fail)
  go_cut [3] (fun y wx => ∃ z : Nat, y = .float .f32 z ∧ z ≤ z2 ∧ wx = W2)
  case first =>
    by_cases c : z2 < z1
    · have hq : (compare z1 z2 == Ordering.gt) = true := by
        simp only [compare, compareOfLessAndEq]
        rw [if_neg (by omega), if_neg (by omega)]; rfl
      rw [hq]
      go_wp2
      go_meet
      case rel => exact ⟨z2, rfl, Nat.le_refl _, rfl⟩
    · have hq : (compare z1 z2 == Ordering.gt) = false := by
        simp only [compare, compareOfLessAndEq]
        by_cases c2 : z1 < z2
        · rw [if_pos c2]; rfl
        · rw [if_neg c2, if_pos (by omega)]; rfl
      rw [hq]
      go_wp2
      go_meet
      case rel => exact ⟨z1, rfl, by omega, rfl⟩
  case rest =>
    obtain ⟨z, rfl, hz, rfl⟩ := hcut
    clear hor hz1
    go_upto_region 6 with (first | (go_at_call 58; refine (HT3.out _ HS.out).mono ?_; rintro e W3 ⟨⟨z3, rfl, hz3⟩, hs1, hg1⟩; replace HS := Lib.hid hs1; replace HG := Lib.hid (grown_t HG.out hg1); replace H0 := Lib.hid (row_grown H0.out hg1 hne0); clear hs1 hg1; have HBI : Hid (Tryz.prog.built 40 [(0, .float .f32 z), (1, .float .f32 z2), (2, .float .f32 z3)] = some (ctC z z2 z3 0 0 0)) := (by unfold Hid; kernel_rfl)) | (refine wpList_buildL rfl 40 _ rfl _ rfl [(0, .float .f32 z), (1, .float .f32 z2), (2, .float .f32 z3)] rfl (ctC z z2 z3 0 0 0) HBI.out ?_) | (refine wpList_store_part rfl 40 _ _ rfl _ 0 (ctC z z2 z3 0 0 0) rfl rfl 40 _ (heap_alloc_new _ _) info_ct (Nat.le_refl _) (ct_oneT _ _ _ _ _ _) ?_; rw [laid_all _ _ (by rfl)]))
    have hl4 : g0 < W3.heap.size := row_lt H0.out
    have hb4 : b < W3.heap.size := by obtain ⟨_, _, _, _, _, _, _, hr⟩ := HS.out; exact row_lt hr
    refine abs_code (fun X => X.heap[g0]? = some (.cells (ctC 0 0 0 0 0 0) 40 (0, 0)) ∧ X.heap[W3.heap.size]? = some (.cells (ctC z z2 z3 0 0 0) 40 (0, 0)) ∧ SrcAt X b v n (m + 6 + 6 + 6) ∧ V.grownBy X (some b)) ⟨((alloc_row _ _).block _ (row_lt H0.out) (by simp)).trans H0.out, setRow_heap _ _ _ _ _ _ (heap_alloc_new _ _), src_kept HS.out (alloc_row _ _) (fun g e => by cases e), grown_t HG.out (grown_wide (alloc_row _ _))⟩ ?_
    have hW3 : V.heap.size ≤ W3.heap.size := HG.out.size
    clear H0 HS HG HBI HT3
    generalize W3.heap.size = g3 at *
    rintro X ⟨h0, h3, hs, hg⟩
    have hne3 : g3 ≠ b := by omega
    have H0 := Lib.hid h0
    have H3 := Lib.hid h3
    have HS := Lib.hid hs
    have HG := Lib.hid hg
    clear h0 h3 hs hg
    go_upto_region 7 with (go_at_call 57; refine (HP1.out _ HS.out).mono ?_; rintro e W4 ⟨⟨y1, rfl, a0, a1⟩, hs1, hg1⟩; replace HS := Lib.hid hs1; replace HG := Lib.hid (grown_t HG.out hg1); replace H0 := Lib.hid (row_grown H0.out hg1 hne0); replace H3 := Lib.hid (row_grown H3.out hg1 hne3); clear hs1 hg1; have f3 := frozen_of_row _ g3 3 _ _ H3.out; obtain ⟨uu, q1⟩ : ∃ u, W4.cell? ⟨g3, 3, none⟩ = some u := ⟨_, (by rw [cell_of_row _ _ _ _ _ _ H3.out]; rfl)⟩; have w2 : IntKind.i64.wrap (1 + y1) = 1 + y1 := (by rw [IntWalk.i64_in _ (by omega)]); have w1 : IntKind.i8.wrap (1 + y1) = 1 + y1 := (by rw [IntWalk.i8_in _ (by omega)]))
    refine abs_code (fun Y => Y.heap[g0]? = some (.cells (ctC 0 0 0 0 0 0) 40 (0, 0)) ∧ Y.heap[g3]? = some (.cells (ctC z z2 z3 (1 + y1) 0 0) 40 (0, 0)) ∧ SrcAt Y b v n (m + 6 + 6 + 6 + 2) ∧ V.grownBy Y (some b)) ⟨(heap_setCell_other _ _ _ _ (by simp; omega)).trans H0.out, by rw [heap_setCell_same _ _ _ _ _ _ H3.out]; rfl, src_kept HS.out (grown_set (b := g3) (o := 3) _) (fun g e => by injection e with e; omega), grown_new HG.out (grown_set (b := g3) (o := 3) _) (by omega)⟩ ?_
    clear H0 H3 HS HG f3 uu q1 w1 w2 HP1
    rintro Y3 ⟨h0, h3, hs, hg⟩
    have H0 := Lib.hid h0
    have H3 := Lib.hid h3
    have HS := Lib.hid hs
    have HG := Lib.hid hg
    clear h0 h3 hs hg
    go_upto_region 8 with (go_at_call 57; refine (HP2.out _ HS.out).mono ?_; rintro e W5 ⟨⟨y2, rfl, a2, a3⟩, hs1, hg1⟩; replace HS := Lib.hid hs1; replace HG := Lib.hid (grown_t HG.out hg1); replace H0 := Lib.hid (row_grown H0.out hg1 hne0); replace H3 := Lib.hid (row_grown H3.out hg1 hne3); clear hs1 hg1; have f3 := frozen_of_row _ g3 4 _ _ H3.out; obtain ⟨uu, q1⟩ : ∃ u, W5.cell? ⟨g3, 4, none⟩ = some u := ⟨_, (by rw [cell_of_row _ _ _ _ _ _ H3.out]; rfl)⟩; have w1 : IntKind.i8.wrap (y2) = y2 := (by rw [IntWalk.i8_in _ (by omega)]))
    refine abs_code (fun Y => Y.heap[g0]? = some (.cells (ctC 0 0 0 0 0 0) 40 (0, 0)) ∧ Y.heap[g3]? = some (.cells (ctC z z2 z3 (1 + y1) y2 0) 40 (0, 0)) ∧ SrcAt Y b v n (m + 6 + 6 + 6 + 2 + 2) ∧ V.grownBy Y (some b)) ⟨(heap_setCell_other _ _ _ _ (by simp; omega)).trans H0.out, by rw [heap_setCell_same _ _ _ _ _ _ H3.out]; rfl, src_kept HS.out (grown_set (b := g3) (o := 4) _) (fun g e => by injection e with e; omega), grown_new HG.out (grown_set (b := g3) (o := 4) _) (by omega)⟩ ?_
    clear H0 H3 HS HG f3 uu q1 w1 HP2
    rintro Y4 ⟨h0, h3, hs, hg⟩
    have H0 := Lib.hid h0
    have H3 := Lib.hid h3
    have HS := Lib.hid hs
    have HG := Lib.hid hg
    clear h0 h3 hs hg
    go_upto_region 9 with (go_at_call 57; refine (HP3.out _ HS.out).mono ?_; rintro e W6 ⟨⟨y3, rfl, a4, a5⟩, hs1, hg1⟩; replace HS := Lib.hid hs1; replace HG := Lib.hid (grown_t HG.out hg1); replace H0 := Lib.hid (row_grown H0.out hg1 hne0); replace H3 := Lib.hid (row_grown H3.out hg1 hne3); clear hs1 hg1; have f3 := frozen_of_row _ g3 5 _ _ H3.out; obtain ⟨uu, q1⟩ : ∃ u, W6.cell? ⟨g3, 5, none⟩ = some u := ⟨_, (by rw [cell_of_row _ _ _ _ _ _ H3.out]; rfl)⟩; have w2 : IntKind.i64.wrap (1 + y3) = 1 + y3 := (by rw [IntWalk.i64_in _ (by omega)]); have w1 : IntKind.i8.wrap (1 + y3) = 1 + y3 := (by rw [IntWalk.i8_in _ (by omega)]))
    refine abs_code (fun Y => Y.heap[g0]? = some (.cells (ctC 0 0 0 0 0 0) 40 (0, 0)) ∧ Y.heap[g3]? = some (.cells (ctC z z2 z3 (1 + y1) y2 (1 + y3)) 40 (0, 0)) ∧ SrcAt Y b v n (m + 6 + 6 + 6 + 2 + 2 + 2) ∧ V.grownBy Y (some b)) ⟨(heap_setCell_other _ _ _ _ (by simp; omega)).trans H0.out, by rw [heap_setCell_same _ _ _ _ _ _ H3.out]; rfl, src_kept HS.out (grown_set (b := g3) (o := 5) _) (fun g e => by injection e with e; omega), grown_new HG.out (grown_set (b := g3) (o := 5) _) (by omega)⟩ ?_
    clear H0 H3 HS HG f3 uu q1 w1 w2 HP3
    rintro Y5 ⟨h0, h3, hs, hg⟩
    have H0 := Lib.hid h0
    have H3 := Lib.hid h3
    have HS := Lib.hid hs
    have HG := Lib.hid hg
    clear h0 h3 hs hg
    go_upto_region 99 with (first | (refine wpList_load_part rfl 40 _ rfl g3 0 6 rfl 40 (ctC z z2 z3 (1 + y1) y2 (1 + y3)) (0, 0) _ H3.out Tryz.underlying40 rfl info_ct (ct_fits _ _ _ _ _ _) _ (ct_all _ _ _ _ _ _) ?_) | (refine wpList_store_part rfl 40 _ _ rfl g0 0 (ctC z z2 z3 (1 + y1) y2 (1 + y3)) rfl rfl 40 (ctC 0 0 0 0 0 0) H0.out info_ct (Nat.le_refl _) (ct_oneT _ _ _ _ _ _) ?_; rw [laid_all _ _ (by rfl)]))
    have hsr : Y5.grownBy (Y5.setRow g0 (ctC z z2 z3 (1 + y1) y2 (1 + y3))) (some g0) := ⟨rfl, rfl, rfl, by simp, fun k _ hk => setRow_other _ _ _ _ (fun e => hk (congrArg some e))⟩
    refine bodyPost_ret (v := .agg (ctC z z2 z3 (1 + y1) y2 (1 + y3))) (results_cell_row rfl _ _ _ _ _ _ _ rfl (setRow_heap _ _ _ _ _ _ H0.out) Tryz.underlying40 rfl info_ct) rfl ?_
    exact ⟨⟨_, _, _, _, _, _, rfl, hz, hz2, hz3, by omega, by omega, a2, by omega, by omega, by omega⟩, src_mono (src_kept HS.out hsr (fun g e => by injection e with e; omega)) (by omega), grown_new HG.out hsr (by omega)⟩

set_option maxRecDepth 100000 in
set_option maxHeartbeats 4000000 in
theorem A2Control_any (n cap : Nat) (a : Option Addr) (V : World) (h : BytesAt V V.heap.size (.slice a n cap) n) :
    Calls Tryz.prog 14 #[.slice a n cap] V fun e V' => (∃ (lo hi wi : Nat) (st de ca : Int), e = .returned (.agg (ctC lo hi wi st de ca)) ∧ lo ≤ hi ∧ hi ≤ 1065353216 ∧ wi ≤ 1065353216 ∧ 1 ≤ st ∧ st ≤ 20 ∧ 0 ≤ de ∧ de ≤ 3 ∧ 1 ≤ ca ∧ ca ≤ 4) ∧ Below V.heap.size V V' := by
  have HFR := Lib.hid (fun V h => l00From_any n cap a V h)
  have HT := Lib.hid (fun b V h => l05Drawn_any b n 0 (.slice a n cap) (by decide) V h)
  have HB0 := Lib.hid h
  clear h
  go_enter Tryz.func14, Tryz.ntmps14
  go_upto_region 1 with (fail)
  refine abs_code (fun W => W.heap[V.heap.size]? = some (.cells (ctC 0 0 0 0 0 0) 40 (0, 0)) ∧ Below V.heap.size V W) ⟨heap_alloc_new _ _, (Below.refl _ _).alloc (Nat.le_refl _) _⟩ ?_
  rintro W ⟨h0, hb⟩
  have H0 := Lib.hid h0
  have HBY := Lib.hid (bytes_below HB0.out hb hb.size)
  have hl0 := row_lt h0
  clear h0 HB0
  go_upto_region 99 with (first | (go_at_call 40; refine (HFR.out _ HBY.out).mono ?_; rintro e W1 ⟨rfl, hs1, hb1⟩) | (go_at_call 56; refine (HT.out _ _ hs1).mono ?_; rintro e W2 ⟨⟨lo, hi, wi, st, de, ca, rfl, hk⟩, hs2, hg2⟩; have H2 := Lib.hid (row_grown (below_row hb1 H0.out) hg2 (by omega)); have hb2 := below_grown hb1 hg2 (Nat.le_refl _)) | (refine wpList_store_part rfl 40 _ _ rfl V.heap.size 0 (ctC lo hi wi st de ca) rfl rfl 40 (ctC 0 0 0 0 0 0) H2.out info_ct (Nat.le_refl _) (ct_oneT _ _ _ _ _ _) ?_; rw [laid_all _ _ (by rfl)]))
  refine bodyPost_ret (v := .agg (ctC lo hi wi st de ca)) (results_cell_row rfl _ _ _ _ _ _ _ rfl (setRow_heap _ _ _ _ _ _ H2.out) Tryz.underlying40 rfl info_ct) rfl ?_
  exact ⟨⟨_, _, _, _, _, _, rfl, hk⟩, below_setRow (hb.trans (hb2.mono hb.size)) (Nat.le_refl _) _⟩

set_option maxRecDepth 100000 in
set_option maxHeartbeats 8000000 in
theorem A2State_any (n cap : Nat) (a : Option Addr) (V : World) (h : BytesAt V V.heap.size (.slice a n cap) n) :
    Calls Tryz.prog 15 #[.slice a n cap] V fun e V' => (∃ ti wt sm : Int, e = .returned (.agg (saC ti wt sm)) ∧ -64 ≤ ti ∧ ti ≤ 64 ∧ 0 ≤ wt ∧ wt ≤ 3 ∧ 0 ≤ sm ∧ sm ≤ 2) ∧ Below V.heap.size V V' := by
  have HFR := Lib.hid (fun V h => l00From_any n cap a V h)
  have HB0 := Lib.hid h
  clear h
  go_enter Tryz.func15, Tryz.ntmps15
  go_upto_region 1 with (fail)
  refine abs_code (fun W => W.heap[V.heap.size]? = some (.cells (saC 0 0 0) 43 (0, 0)) ∧ Below V.heap.size V W) ⟨heap_alloc_new _ _, (Below.refl _ _).alloc (Nat.le_refl _) _⟩ ?_
  rintro W ⟨h0, hb⟩
  have H0 := Lib.hid h0
  have HBY := Lib.hid (bytes_below HB0.out hb hb.size)
  have hl0 := row_lt h0
  clear h0 HB0
  generalize hg0 : V.heap.size = g0 at *
  go_upto_region 2 with (go_at_call 40; refine (HFR.out _ HBY.out).mono ?_; rintro e W1 ⟨rfl, hs1, hb1⟩; replace H0 := Lib.hid (below_row hb1 H0.out); have HS := Lib.hid hs1; clear hs1; replace hb := hb.trans (hb1.mono (by omega)); clear hb1)
  clear HFR HBY
  have hgb : g0 < W.heap.size := hl0
  generalize hbb : W.heap.size = b at *
  have HP1 := Lib.hid (fun V h => pick_any b n 0 (.slice a n cap) (by omega) 129 (by decide) (by decide) V h)
  have HP2 := Lib.hid (fun V h => pick_any b n (0 + 2) (.slice a n cap) (by omega) 4 (by decide) (by decide) V h)
  have HP3 := Lib.hid (fun V h => pick_any b n (0 + 2 + 2) (.slice a n cap) (by omega) 3 (by decide) (by decide) V h)
  have hne0 : g0 ≠ b := by omega
  have hg00 : W1.grownBy W1 (some b) := grown_r _ _
  have HG := Lib.hid hg00
  clear hg00
  have hbW := hb
  have hsW1 : b ≤ W1.heap.size := by obtain ⟨_, _, _, _, _, _, _, hr⟩ := HS.out; exact Nat.le_of_lt (row_lt hr)
  clear hb
  go_upto_region 3 with (first | (go_at_call 57; refine (HP1.out _ HS.out).mono ?_; rintro e W3 ⟨⟨y1, rfl, a0, a1⟩, hs1, hg1⟩; replace HS := Lib.hid hs1; replace HG := Lib.hid (grown_t HG.out hg1); replace H0 := Lib.hid (row_grown H0.out hg1 hne0); clear hs1 hg1; have v1 : IntKind.i64.wrap (y1 - 64) = y1 - 64 := (by rw [IntWalk.i64_in _ (by omega)]); have v2 : IntKind.i16.wrap (y1 - 64) = y1 - 64 := (by rw [IntWalk.i16_in _ (by omega)]); have HBI : Hid (Tryz.prog.built 43 [(0, .int .i16 (y1 - 64))] = some (saC (y1 - 64) 0 0)) := (by unfold Hid; kernel_rfl)) | (refine wpList_buildL rfl 43 _ rfl _ rfl [(0, .int .i16 (y1 - 64))] rfl (saC (y1 - 64) 0 0) HBI.out ?_) | (refine wpList_store_part rfl 43 _ _ rfl _ 0 (saC (y1 - 64) 0 0) rfl rfl 43 _ (heap_alloc_new _ _) info_sa (Nat.le_refl _) (sa_oneT _ _ _) ?_; rw [laid_all _ _ (by rfl)]))
  have hl3 : g0 < W3.heap.size := row_lt H0.out
  have hb3 : b < W3.heap.size := by obtain ⟨_, _, _, _, _, _, _, hr⟩ := HS.out; exact row_lt hr
  have hW3 : W1.heap.size ≤ W3.heap.size := HG.out.size
  refine abs_code (fun X => X.heap[g0]? = some (.cells (saC 0 0 0) 43 (0, 0)) ∧ X.heap[W3.heap.size]? = some (.cells (saC (y1 - 64) 0 0) 43 (0, 0)) ∧ SrcAt X b (.slice a n cap) n (0 + 2) ∧ W1.grownBy X (some b)) ⟨((alloc_row _ _).block _ (row_lt H0.out) (by simp)).trans H0.out, setRow_heap _ _ _ _ _ _ (heap_alloc_new _ _), src_kept HS.out (alloc_row _ _) (fun g e => by cases e), grown_t HG.out (grown_wide (alloc_row _ _))⟩ ?_
  clear H0 HS HG HBI HP1
  generalize W3.heap.size = g3 at *
  rintro X ⟨h0, h3, hs, hg⟩
  have hne3 : g3 ≠ b := by omega
  have H0 := Lib.hid h0
  have H3 := Lib.hid h3
  have HS := Lib.hid hs
  have HG := Lib.hid hg
  clear h0 h3 hs hg
  go_upto_region 4 with (go_at_call 57; refine (HP2.out _ HS.out).mono ?_; rintro e W4 ⟨⟨y2, rfl, a2, a3⟩, hs1, hg1⟩; replace HS := Lib.hid hs1; replace HG := Lib.hid (grown_t HG.out hg1); replace H0 := Lib.hid (row_grown H0.out hg1 hne0); replace H3 := Lib.hid (row_grown H3.out hg1 hne3); clear hs1 hg1; have f3 := frozen_of_row _ g3 1 _ _ H3.out; obtain ⟨uu, q1⟩ : ∃ u, W4.cell? ⟨g3, 1, none⟩ = some u := ⟨_, (by rw [cell_of_row _ _ _ _ _ _ H3.out]; rfl)⟩; have w1 : IntKind.i8.wrap (y2) = y2 := (by rw [IntWalk.i8_in _ (by omega)]))
  refine abs_code (fun Y => Y.heap[g0]? = some (.cells (saC 0 0 0) 43 (0, 0)) ∧ Y.heap[g3]? = some (.cells (saC (y1 - 64) y2 0) 43 (0, 0)) ∧ SrcAt Y b (.slice a n cap) n (0 + 2 + 2) ∧ W1.grownBy Y (some b)) ⟨(heap_setCell_other _ _ _ _ (by simp; omega)).trans H0.out, by rw [heap_setCell_same _ _ _ _ _ _ H3.out]; rfl, src_kept HS.out (grown_set (b := g3) (o := 1) _) (fun g e => by injection e with e; omega), grown_new HG.out (grown_set (b := g3) (o := 1) _) (by omega)⟩ ?_
  clear H0 H3 HS HG f3 uu q1 w1 HP2
  rintro Y1 ⟨h0, h3, hs, hg⟩
  have H0 := Lib.hid h0
  have H3 := Lib.hid h3
  have HS := Lib.hid hs
  have HG := Lib.hid hg
  clear h0 h3 hs hg
  go_upto_region 5 with (go_at_call 57; refine (HP3.out _ HS.out).mono ?_; rintro e W5 ⟨⟨y3, rfl, a4, a5⟩, hs1, hg1⟩; replace HS := Lib.hid hs1; replace HG := Lib.hid (grown_t HG.out hg1); replace H0 := Lib.hid (row_grown H0.out hg1 hne0); replace H3 := Lib.hid (row_grown H3.out hg1 hne3); clear hs1 hg1; have f3 := frozen_of_row _ g3 2 _ _ H3.out; obtain ⟨uu, q1⟩ : ∃ u, W5.cell? ⟨g3, 2, none⟩ = some u := ⟨_, (by rw [cell_of_row _ _ _ _ _ _ H3.out]; rfl)⟩; have w1 : IntKind.i8.wrap (y3) = y3 := (by rw [IntWalk.i8_in _ (by omega)]))
  refine abs_code (fun Y => Y.heap[g0]? = some (.cells (saC 0 0 0) 43 (0, 0)) ∧ Y.heap[g3]? = some (.cells (saC (y1 - 64) y2 y3) 43 (0, 0)) ∧ SrcAt Y b (.slice a n cap) n (0 + 2 + 2 + 2) ∧ W1.grownBy Y (some b)) ⟨(heap_setCell_other _ _ _ _ (by simp; omega)).trans H0.out, by rw [heap_setCell_same _ _ _ _ _ _ H3.out]; rfl, src_kept HS.out (grown_set (b := g3) (o := 2) _) (fun g e => by injection e with e; omega), grown_new HG.out (grown_set (b := g3) (o := 2) _) (by omega)⟩ ?_
  clear H0 H3 HS HG f3 uu q1 w1 HP3
  rintro Y2 ⟨h0, h3, hs, hg⟩
  have H0 := Lib.hid h0
  have H3 := Lib.hid h3
  have HS := Lib.hid hs
  have HG := Lib.hid hg
  clear h0 h3 hs hg
  go_upto_region 99 with (first | (refine wpList_load_part rfl 43 _ rfl g3 0 3 rfl 43 (saC (y1 - 64) y2 y3) (0, 0) _ H3.out Tryz.underlying43 rfl info_sa (sa_fits _ _ _) _ (sa_all _ _ _) ?_) | (refine wpList_store_part rfl 43 _ _ rfl g0 0 (saC (y1 - 64) y2 y3) rfl rfl 43 (saC 0 0 0) H0.out info_sa (Nat.le_refl _) (sa_oneT _ _ _) ?_; rw [laid_all _ _ (by rfl)]))
  refine bodyPost_ret (v := .agg (saC (y1 - 64) y2 y3)) (results_cell_row rfl _ _ _ _ _ _ _ rfl (setRow_heap _ _ _ _ _ _ H0.out) Tryz.underlying43 rfl info_sa) rfl ?_
  rw [hg0]
  exact ⟨⟨_, _, _, rfl, by omega, by omega, by omega, by omega, by omega, by omega⟩, below_setRow (hbW.trans (tp_below HG.out (by omega) (by omega))) (Nat.le_refl _) _⟩

end Go.Proofs.YtddnfbpgldchcaaGreatDoor

namespace Go.Proofs.YtddnfbpgldchcaaGreatDoor

open Go

theorem order_self {x : Nat} (hx : isNum x) : FloatKind.f32.format.order x x = some .eq := by
  rw [order_num hx hx, Int.compare_eq_eq.2 rfl]

end Go.Proofs.YtddnfbpgldchcaaGreatDoor
