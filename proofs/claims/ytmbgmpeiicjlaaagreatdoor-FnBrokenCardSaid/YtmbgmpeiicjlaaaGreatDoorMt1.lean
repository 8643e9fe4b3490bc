/-
  Row, Sun, Law, Open, Eq, PnA, Agg, Take, GenL, Plain, Wide, Same, Mul, Rnd.
-/
import Derived.Laws.Rows
import Derived.Laws.CopyRow
import Derived.WalkKit
import Derived.Test.YtmbgmpeiicjlaaaGreatDoorRows
import Derived.WalkSpells
import Derived.WalkLawsBesides
import Derived.Lib.Hide
import Derived.Deep.Cut
import Derived.Deep.DeepCutAuto
import Derived.ProofKit
import Derived.OpenShut
import Derived.Laws.StructEq
import Derived.Lib.SmallJoins
import Derived.Deep.RegionHeld3
import Derived.Laws.MakeOwn
import Derived.OwnWalk
import Derived.ChangeSlices
import Derived.ChangeShapes
import Derived.ChangeSame
import Derived.Laws.FloatArith

namespace Go.Proofs.YtmbgmpeiicjlaaaGreatDoor

open Go Go.RowKit

section

variable {P : Program}

theorem addr_add (g o i : Nat) : (⟨g, o, none⟩ : Addr).add i = ⟨g, o + i, none⟩ := by
  unfold Addr.add; split <;> simp_all

theorem run_loadVar_part (w : World) (g o n : Nat) (t ty : TypeId) (cs : Array Value) (fr : Nat × Nat) (d : TypeDesc) (hg : w.heap[g]? = some (.cells cs t fr))
    (hu : P.underlying ty = some d) (hd : (match d with | .struct _ | .array _ _ => true | _ => false) = true) (hi : (P.info? ty).map (·.size) = some n) (hn : o + n ≤ cs.size) :
    (loadVar ty ⟨g, o, none⟩).run P w = .ok (.agg (cs.extract o (o + n))) w := by
  have hlen : (cs.extract o (o + n)).toList.length = n := by simp; omega
  have hl : (loadCells ⟨g, o, none⟩ n).run P w = .ok (cs.extract o (o + n)) w := by
    have h := run_loadCells_list (P := P) w ⟨g, o, none⟩ (cs.extract o (o + n)).toList (fun j v hv => by
      rw [addr_add, cell_of_row w g (o + j) cs t fr hg]
      rw [Array.getElem?_toList, Array.getElem?_extract] at hv
      split at hv
      · exact hv
      · cases hv)
    rw [hlen, Array.toArray_toList] at h
    exact h
  cases hq : P.info? ty with
  | none => simp [hq] at hi
  | some i =>
    have hs : i.size = n := by simpa [hq] using hi
    have hagg : (isAgg ty).run P w = .ok true w := by
      unfold isAgg
      rw [Sem.run_bind, run_underlying hu w]
      cases d <;> simp_all
    simp [loadVar, Sem.run_bind, hagg, sizeOf, typeInfo, hq, hs, hl]

theorem wpList_load_part {ops : Array Oper} {rest : List Oper} {o : Oper} {a : Act} {w : World} {Q : Exit → Act → World → Prop} (hgd : o.guard = none) (ty : TypeId) (x : Operand) (ho : o.op = .load ty x)
    (g off n : Nat) (hx : a.eval x = .pointer (some ⟨g, off, none⟩)) (t : TypeId) (cs : Array Value) (fr : Nat × Nat) (d : TypeDesc) (hg : w.heap[g]? = some (.cells cs t fr))
    (hu : P.underlying ty = some d) (hd : (match d with | .struct _ | .array _ _ => true | _ => false) = true) (hi : (P.info? ty).map (·.size) = some n) (hn : off + n ≤ cs.size)
    (vs : Array Value) (hvs : cs.extract off (off + n) = vs) (h : wpList P ops Q rest (a.put o.dst (.agg vs)) w) : wpList P ops Q (o :: rest) a w := by
  subst hvs
  refine wpList_plain hgd fun K hK => ?_
  unfold Oper.wp execOp
  simp only [ho, hx, Instr.loadAt, Instr.sureAddr, Sem.run_bind, Sem.run_pure, Result.andThen_ok, run_loadVar_part w g off n t ty cs fr d hg hu hd hi hn]
  exact hK _ _ h

/-- Cells vs laid at off into cs. -/
def laid (cs vs : Array Value) (off : Nat) : Array Value := (cs.toList.take off ++ vs.toList ++ cs.toList.drop (off + vs.size)).toArray

theorem wpList_store_part {ops : Array Oper} {rest : List Oper} {o : Oper} {a : Act} {w : World} {Q : Exit → Act → World → Prop} (hgd : o.guard = none) (ty : TypeId) (x y : Operand) (ho : o.op = .store ty x y)
    (g off : Nat) (vs : Array Value) (hx : a.eval x = .pointer (some ⟨g, off, none⟩)) (hy : a.eval y = .agg vs)
    (t : TypeId) (old : Array Value) (hg : w.heap[g]? = some (.cells old t (0, 0))) (hi : (P.info? ty).map (·.size) = some vs.size)
    (hold : off + vs.size ≤ old.size) (h1 : ∀ v ∈ vs, v.oneCell' = true)
    (h : wpList P ops Q rest (a.put o.dst undef) (w.setRow g (laid old vs off))) : wpList P ops Q (o :: rest) a w := by
  refine wpList_plain hgd fun K hK => ?_
  have hst := run_storeCells_at P g off t vs.toList 0 old w hg (by simpa using hold) (fun v hv => h1 v (by simpa using hv))
  have hrun : (storeVar ty ⟨g, off, none⟩ (.agg vs)).run P w = .ok () (w.setRow g (laid old vs off)) := by
    cases hq : P.info? ty with
    | none => simp [hq] at hi
    | some i =>
      have hs : vs.size = i.size := by simp [hq] at hi; omega
      simp only [Nat.add_zero] at hst
      simp [storeVar, sizeOf, typeInfo, hq, Value.cells, hs, hst, laid]
  unfold Oper.wp execOp
  simp only [ho, hx, hy, Instr.storeAt, Instr.sureAddr, Sem.run_bind, Sem.run_pure, Result.andThen_ok, hrun]
  exact hK _ _ h

theorem below_setRow {B : Nat} {a w : World} (h : Below B a w) {g : Nat} (hp : B ≤ g) (cs : Array Value) : Below B a (w.setRow g cs) :=
  ⟨h.os, h.tape, h.output, by simpa using h.size, fun k hk => (setRow_other w g k cs (by omega)).trans (h.block k hk)⟩

/-- The heap's block is what it was behind a call that only lays new blocks. -/
theorem below_row {W w1 : World} (hb : Below W.heap.size W w1) {g : Nat} {o : Obj} (hg : W.heap[g]? = some o) : w1.heap[g]? = some o :=
  (hb.block g (Array.getElem?_eq_some_iff.1 hg).1).trans hg

theorem row_lt {W : World} {g : Nat} {o : Obj} (hg : W.heap[g]? = some o) : g < W.heap.size := (Array.getElem?_eq_some_iff.1 hg).1

end

end Go.Proofs.YtmbgmpeiicjlaaaGreatDoor

namespace Go.Proofs.YtmbgmpeiicjlaaaGreatDoor

open Go.RowKit

/-- Numbers of 16 bits as cells. -/
def i16s (xs : List Int) : Array Value := (xs.map (Value.int .i16)).toArray

@[simp] theorem i16s_size (xs : List Int) : (i16s xs).size = xs.length := by simp [i16s]

theorem i16s_get (xs : List Int) (k : Nat) (h : k < xs.length) : (i16s xs)[k]? = some (.int .i16 (xs[k]?.getD 0)) := by
  simp [i16s, h]

theorem i16s_one (xs : List Int) : ∀ v ∈ i16s xs, v.oneCell' = true := by
  intro v hv
  simp only [i16s, List.mem_toArray, List.mem_map] at hv
  obtain ⟨x, _, rfl⟩ := hv
  rfl

theorem i16s_set (xs : List Int) (k : Nat) (n : Int) : (i16s xs).setIfInBounds k (.int .i16 n) = i16s (xs.set k n) := by
  apply Array.ext'
  simp [i16s, List.map_set]

theorem cell_of_i16s {w : World} {g : Nat} {xs : List Int} {t : TypeId} {fr : Nat × Nat} (hg : w.heap[g]? = some (.cells (i16s xs) t fr)) (k : Nat) (h : k < xs.length) :
    w.cell? ⟨g, k, none⟩ = some (.int .i16 (xs[k]?.getD 0)) := by
  rw [cell_of_row w g k _ t fr hg, i16s_get xs k h]

set_option maxRecDepth 100000 in
theorem info_arr : (Tryz.prog.info? 44).map (·.size) = some 24 := by kernel_rfl

theorem i16s_all (xs : List Int) (n : Nat) (h : xs.length = n) : (i16s xs).extract 0 (0 + n) = i16s xs := by
  have e : n = (i16s xs).size := by simp [h]
  rw [Nat.zero_add, e, Array.extract_size]

theorem laid_all (cs vs : Array Value) (h : cs.size = vs.size) : laid cs vs 0 = vs := by
  apply Array.ext'
  simp [laid]
  rw [← h]; simp

theorem heap_alloc (w : World) (o : Obj) (i : Nat) : (w.alloc o).heap[i]? = if i = w.heap.size then some o else w.heap[i]? := by
  show (w.heap.push o)[i]? = _
  exact Array.getElem?_push

/-- A sun as a value: 24 heights, 24 turns. -/
def sunC (hs ts : List Int) : Array Value := i16s (hs ++ ts)

theorem sunC_size (hs ts : List Int) (h : hs.length = 24) (t : ts.length = 24) : (sunC hs ts).size = 48 := by simp [sunC, h, t]

theorem sun_fits (hs ts : List Int) (h : hs.length = 24) (t : ts.length = 24) : 0 + 48 ≤ (sunC hs ts).size := by rw [sunC_size _ _ h t]; decide

theorem sun_all (hs ts : List Int) (h : hs.length = 24) (t : ts.length = 24) : (sunC hs ts).extract 0 (0 + 48) = sunC hs ts := i16s_all _ 48 (by rw [List.length_append, h, t])

theorem sunC_fst (hs ts : List Int) (h : hs.length = 24) : (sunC hs ts).extract 0 (0 + 24) = i16s hs := by
  apply Array.ext'
  simp [sunC, i16s, ← h]

theorem sunC_snd (hs ts : List Int) (h : hs.length = 24) (t : ts.length = 24) : (sunC hs ts).extract 24 (24 + 24) = i16s ts := by
  apply Array.ext'
  have e : 24 = (List.map (Value.int .i16) ts).length := by simp [t]
  simp only [sunC, i16s, List.map_append, List.extract_toArray, List.extract_eq_take_drop]
  rw [List.drop_append_of_le_length (by simp [h]), List.drop_of_length_le (by simp [h]), List.nil_append, List.take_of_length_le (by simp [t])]

set_option maxRecDepth 100000 in
theorem info_sun : (Tryz.prog.info? 46).map (·.size) = some 48 := by kernel_rfl

def zer : List Int := List.replicate 24 0

theorem abs_code {P : Program} {c : Code} {Q : Exit → Act → World → Prop} {a : Act} {w : World} (R : World → Prop) (hw : R w) (h : ∀ W, R W → Code.wp P c Q a W) : Code.wp P c Q a w := h w hw

end Go.Proofs.YtmbgmpeiicjlaaaGreatDoor

namespace Go.Proofs.YtmbgmpeiicjlaaaGreatDoor

open Go.ChangeShapes Go.WideShapes Go.ChangeAt Go.RowKit

set_option maxRecDepth 100000 in
theorem law_own : ownKnob Tryz.prog.godebug = none := by kernel_rfl

set_option maxRecDepth 100000 in
theorem law_laidOut : laidOutB Tryz.prog = true := by kernel_rfl

theorem trodAll_below {H : Type} {enc : TypeId × Value → H} {P : Program} (hl : laidOutB P = true) {W W' : World} (hb : Below W.heap.size W W') :
    ∀ (ts : List TypeId) (vs : List Value) (ds : List (DataW H)) (ps : List MemPlace), (∀ t ∈ ts, P.readableRec t = true ∧ t < P.types.size) →
      DataW.TrodAll enc P W 0 (fun _ => true) true ts vs ds ps → (∀ x ∈ ps, x.block < W.heap.size) → DataW.TrodAll enc P W' 0 (fun b => decide (b < W.heap.size)) true ts vs ds ps
  | [], vs, ds, ps, _, h, _ => by
    obtain ⟨rfl, rfl, rfl⟩ := trodAll_nil h
    exact trodAll_mk0
  | t :: ts, vs, ds, ps, hr, h, hlt => by
    obtain ⟨v, vs', d, ds', p, q, rfl, rfl, rfl, h0, r0⟩ := trodAll_cons h
    have ht := hr t (by simp)
    exact trodAll_cons_mk (Below.trod hl ht.1 ht.2 h0 hb (fun x hx => hlt x (by simp [hx]))) (trodAll_below hl hb ts vs' ds' q (fun t ht => hr t (by simp [ht])) r0 (fun x hx => hlt x (by simp [hx])))

end Go.Proofs.YtmbgmpeiicjlaaaGreatDoor

namespace Go.Proofs.YtmbgmpeiicjlaaaGreatDoor

open Go.ChangeShapes Go.WideShapes Go.ChangeAt Go.RowKit

end Go.Proofs.YtmbgmpeiicjlaaaGreatDoor

namespace Go.Proofs.YtmbgmpeiicjlaaaGreatDoor

open Go Go.RowKit

set_option maxRecDepth 100000 in
theorem size_i16 (w : World) : (sizeOf 26).run Tryz.prog w = .ok 1 w := by kernel_rfl

set_option maxRecDepth 100000 in
theorem agg_i16 (w : World) : (isAgg 26).run Tryz.prog w = .ok false w := by kernel_rfl

theorem part_i16 (xs : List Int) (i : Nat) (h : i < xs.length) (w : World) : (part 26 (i16s xs) i).run Tryz.prog w = .ok (.int .i16 (xs[i]?.getD 0)) w := by
  unfold part
  rw [Sem.run_bind, agg_i16]
  simp only [Result.andThen_ok, Bool.false_eq_true, if_false, i16s_get xs i h]
  rfl

theorem eq_loop (d : Nat) (xs ys : List Int) (w : World) : ∀ (is : List Nat), (∀ i ∈ is, i < xs.length ∧ i < ys.length) →
    (forIn is ((none, ()) : Option Bool × Unit) (fun i _ => do
      if (!(← Op.equalIn (d + 1) 26 (← part 26 (i16s xs) (i * 1)) (← part 26 (i16s ys) (i * 1)))) = true then pure (ForInStep.done (some false, ()))
      else pure (ForInStep.yield (none, ())))).run Tryz.prog w = .ok (if is.all (fun i => xs[i]?.getD 0 == ys[i]?.getD 0) then (none, ()) else (some false, ())) w
  | [], _ => rfl
  | i :: is, h => by
    have hi := h i (by simp)
    have ih := eq_loop d xs ys w is (fun j hj => h j (by simp [hj]))
    rw [List.forIn_cons]
    simp only [Nat.mul_one] at ih ⊢
    simp only [Sem.run_bind, part_i16 xs i hi.1, part_i16 ys i hi.2, Result.andThen_ok, run_equalIn_int w d 26 .i16 .i16 _ _ Tryz.underlying26]
    cases hc : (xs[i]?.getD 0 == ys[i]?.getD 0)
    · simp [hc]
    · simp only [Bool.not_true, Bool.false_eq_true, if_false, Sem.run_pure, Result.andThen_ok, List.all_cons, hc, Bool.true_and]
      exact ih

theorem all_eq (xs ys : List Int) (n : Nat) (hx : xs.length = n) (hy : ys.length = n) : (List.range' 0 n).all (fun i => xs[i]?.getD 0 == ys[i]?.getD 0) = (xs == ys) := by
  rw [Bool.eq_iff_iff]
  simp only [List.all_eq_true, beq_iff_eq]
  constructor
  · intro h
    apply List.ext_getElem?
    intro i
    by_cases hi : i < n
    · have h1 := h i (by simp [List.mem_range']; omega)
      rw [List.getElem?_eq_getElem (by omega), List.getElem?_eq_getElem (by omega)] at h1 ⊢
      simpa using h1
    · rw [List.getElem?_eq_none (by omega), List.getElem?_eq_none (by omega)]
  · intro h i _
    rw [h]

theorem run_eq_arr (d : Nat) (xs ys : List Int) (hx : xs.length = 24) (hy : ys.length = 24) (w : World) :
    (Op.equalIn (d + 1 + 1) 44 (.agg (i16s xs)) (.agg (i16s ys))).run Tryz.prog w = .ok (xs == ys) w := by
  have hl := eq_loop d xs ys w (List.range' 0 24) (fun i hi => by simp [List.mem_range'] at hi; omega)
  rw [all_eq xs ys 24 hx hy] at hl
  rw [Op.equalIn.eq_def]
  simp only [Sem.run_bind, run_underlying Tryz.underlying44, Result.andThen_ok, size_i16]
  rw [Std.Legacy.Range.forIn_eq_forIn_range']
  have e : (Std.Legacy.Range.mk 0 24 1 (by decide)).size = 24 := by decide
  simp only [e]
  erw [hl]
  cases xs == ys <;> rfl

theorem run_eql_arr (xs ys : List Int) (hx : xs.length = 24) (hy : ys.length = 24) (w : World) :
    (Op.equalIn 10000 44 (.agg (i16s xs)) (.agg (i16s ys))).run Tryz.prog w = .ok (xs == ys) w := run_eq_arr 9998 xs ys hx hy w

end Go.Proofs.YtmbgmpeiicjlaaaGreatDoor

namespace Go.Proofs.YtmbgmpeiicjlaaaGreatDoor

open Go.ChangeShapes Go.WideShapes Go.ChangeAt Go.RowKit

end Go.Proofs.YtmbgmpeiicjlaaaGreatDoor

namespace Go.Proofs.YtmbgmpeiicjlaaaGreatDoor

open Go Go.Joins Go.ChangeShapes Go.WideShapes Go.RowKit Go.Deep

theorem run_store_f (P : Program) (w : World) (a : Addr) (k : FloatKind) (b : Nat) (m : Mode) : (store a (.float k b) m).run P w = stored P w a (.float k b) m := run_store P w a _ m rfl

theorem abs_world {P : Program} {c : Code} {Q : Exit → Act → World → Prop} {a : Act} {w : World} (R : World → Prop) (hw : R w) (h : ∀ W, R W → Code.wp P c Q a W) : Code.wp P c Q a w := h w hw

section

variable {H : Type} {enc : TypeId × Value → H} {P : Program} {w : World} {base : Nat} {spare : Nat → Bool} {held : Bool}

end

end Go.Proofs.YtmbgmpeiicjlaaaGreatDoor

namespace Go.Proofs.YtmbgmpeiicjlaaaGreatDoor

open Go Go.RowKit

theorem yields_row {P : Program} {ops : Array Oper} {S : World → Prop} {o : Oper} {a : Act} (hw : Region.wanted o (yielded ops a.tmps) = true) (ty : TypeId) (x : Operand) (ho : o.op = .load ty x)
    (g off n : Nat) (hx : a.eval x = .pointer (some ⟨g, off, none⟩)) (t : TypeId) (cs : Array Value) (fr : Nat × Nat) (d : TypeDesc) (hg : ∀ w, S w → w.heap[g]? = some (.cells cs t fr))
    (hu : P.underlying ty = some d) (hd : (match d with | .struct _ | .array _ _ => true | _ => false) = true) (hi : (P.info? ty).map (·.size) = some n) (hn : off + n ≤ cs.size)
    (vs : Array Value) (hvs : cs.extract off (off + n) = vs) : YieldsIf P ops S o (.agg vs) a :=
  .inl ⟨hw, fun w hw' => by
    subst hvs
    unfold execOp
    simp only [ho, hx, Instr.loadAt, Instr.sureAddr, Sem.run_bind, Sem.run_pure, Result.andThen_ok, run_loadVar_part w g off n t ty cs fr d (hg w hw') hu hd hi hn]⟩

theorem take_op {P : Program} {ops : Array Oper} {Q : Exit → Act → World → Prop} {md : Region.Mode} {S : World → Prop} {i d : Nat} {oi : Oper} {v : Value} {fuel : Nat} {listed : Array Bool} {a : Act} {w : World} (hi : ops[i]? = some oi) (hd : oi.dst = some d)
    (hs : Region.noSelect ops = true) (hf : Region.free md ops listed i = true) (hr : (Region.ready md ops listed).contains i = true)
    (hQ : ∀ c a w, Q (.panic c) (a.put oi.dst v) w → Q (.panic c) a w) (hy : YieldsIf P ops S oi v a) (hS : S w)
    (h : wpAnyH P md ops Q S fuel (listed.setIfInBounds i true) { tmps := a.tmps.setIfInBounds d v, defers := a.defers } w) : wpAnyH P md ops Q S (fuel + 1) listed a w :=
  wpAnyH_take hi hs hf hr hQ hy hS (by rw [hd]; exact h)

end Go.Proofs.YtmbgmpeiicjlaaaGreatDoor

namespace Go.Proofs.YtmbgmpeiicjlaaaGreatDoor

open Go.ChangeShapes Go.WideShapes Go.ChangeAt Go.RowKit Go.Deep Go.Joins

theorem cell_below {W W' : World} (hb : Below W.heap.size W W') {a : Addr} {v : Value} (h : W.cell? a = some v) : W'.cell? a = some v :=
  (hb.cell (World.block_lt_of_cell? W a h)).trans h

section

variable {P : Program}

theorem run_loadVar_cells (w : World) (g off n : Nat) (ty : TypeId) (d : TypeDesc) (hu : P.underlying ty = some d) (hd : (match d with | .struct _ | .array _ _ => true | _ => false) = true) (hi : (P.info? ty).map (·.size) = some n)
    (vs : Array Value) (hn : vs.size = n) (hc : ∀ j v, vs[j]? = some v → w.cell? ⟨g, off + j, none⟩ = some v) : (loadVar ty ⟨g, off, none⟩).run P w = .ok (.agg vs) w := by
  have hl : (loadCells ⟨g, off, none⟩ n).run P w = .ok vs w := by
    have h := run_loadCells_list (P := P) w ⟨g, off, none⟩ vs.toList (fun j v hv => by
      rw [addr_add]
      exact hc j v (by simpa using hv))
    rw [Array.length_toList, hn, Array.toArray_toList] at h
    exact h
  cases hq : P.info? ty with
  | none => simp [hq] at hi
  | some i =>
    have hs : i.size = n := by simpa [hq] using hi
    have hagg : (isAgg ty).run P w = .ok true w := by
      unfold isAgg
      rw [Sem.run_bind, run_underlying hu w]
      cases d <;> simp_all
    simp [loadVar, Sem.run_bind, hagg, sizeOf, typeInfo, hq, hs, hl]

theorem wpList_load_cells {ops : Array Oper} {rest : List Oper} {o : Oper} {a : Act} {w : World} {Q : Exit → Act → World → Prop} (hgd : o.guard = none) (ty : TypeId) (x : Operand) (ho : o.op = .load ty x)
    (g off n : Nat) (hx : a.eval x = .pointer (some ⟨g, off, none⟩)) (d : TypeDesc) (hu : P.underlying ty = some d) (hd : (match d with | .struct _ | .array _ _ => true | _ => false) = true) (hi : (P.info? ty).map (·.size) = some n)
    (vs : Array Value) (hn : vs.size = n) (hc : ∀ j v, vs[j]? = some v → w.cell? ⟨g, off + j, none⟩ = some v) (h : wpList P ops Q rest (a.put o.dst (.agg vs)) w) : wpList P ops Q (o :: rest) a w := by
  refine wpList_plain hgd fun K hK => ?_
  unfold Oper.wp execOp
  simp only [ho, hx, Instr.loadAt, Instr.sureAddr, Sem.run_bind, Sem.run_pure, Result.andThen_ok, run_loadVar_cells w g off n ty d hu hd hi vs hn hc]
  exact hK _ _ h

end

end Go.Proofs.YtmbgmpeiicjlaaaGreatDoor

namespace Go.Proofs.YtmbgmpeiicjlaaaGreatDoor

open Go

/-- The operations on single precision words, 0 where they have no answer. -/
def fmul (x y : Nat) : Nat := (Ieee.single.mul x y).getD 0

def fsub (x y : Nat) : Nat := (Ieee.single.sub x y).getD 0

def fadd (x y : Nat) : Nat := (Ieee.single.add x y).getD 0

def fdiv (x y : Nat) : Nat := (Ieee.single.div x y).getD 0

/-- The sine of the first quarter, step by step. -/
def qx (a : Int) : Nat := fdiv (floatOfInt .f32 a) 1115684864

def qy (a : Int) : Nat := fmul (qx a) (qx a)

def qyk (a : Int) : Nat := fmul (qy a) 1033109504

def qp (a : Int) : Nat := fsub 1059356672 (qyk a)

def qyp (a : Int) : Nat := fmul (qy a) (qp a)

def qq (a : Int) : Nat := fsub 1070137344 (qyp a)

def qs (a : Int) : Nat := fmul (qx a) (qq a)

def qn (a : Int) : Nat := fsub 0 (qs a)

def qOk (a : Int) : Bool :=
  floatBits .quo .f32 (floatOfInt .f32 a) 1115684864 == some (qx a)
    && floatBits .mul .f32 (qx a) (qx a) == some (qy a)
    && floatBits .mul .f32 (qy a) 1033109504 == some (qyk a)
    && floatBits .sub .f32 1059356672 (qyk a) == some (qp a)
    && floatBits .mul .f32 (qy a) (qp a) == some (qyp a)
    && floatBits .sub .f32 1070137344 (qyp a) == some (qq a)
    && floatBits .mul .f32 (qx a) (qq a) == some (qs a)
    && floatBits .sub .f32 0 (qs a) == some (qn a)

theorem qOk_nat : ∀ n : Nat, n < 65 → qOk (n : Int) = true := by decide +kernel

theorem qOk_all (a : Int) (h0 : 0 ≤ a) (h1 : a ≤ 64) : qOk a = true := by
  obtain ⟨n, rfl⟩ := Int.eq_ofNat_of_zero_le h0
  exact qOk_nat n (by omega)

/-- The sine of an angle from 0 to 255, quarter by quarter. -/
def sineB (a : Int) : Nat :=
  if a ≤ 64 then qs a else if a ≤ 128 then qs (128 - a) else if a ≤ 192 then qn (a - 128) else qn (256 - a)

def angB (a : Int) : Int := a % 256

theorem angB_lo (a : Int) : 0 ≤ angB a := by unfold angB; omega

theorem angB_hi (a : Int) : angB a ≤ 255 := by unfold angB; omega

def cosB (a : Int) : Nat := sineB (angB (a + 64))

end Go.Proofs.YtmbgmpeiicjlaaaGreatDoor

namespace Go.Proofs.YtmbgmpeiicjlaaaGreatDoor

open Go

/-- A number of single precision that is no NaN. -/
def fin32 (x : Nat) : Bool := !(Ieee.single.read x).isNaN

def wide (x : Nat) : Nat := (floatToFloatBits .f32 x .f64).getD 0

end Go.Proofs.YtmbgmpeiicjlaaaGreatDoor

namespace Go.Proofs.YtmbgmpeiicjlaaaGreatDoor

open Go.RowKit

end Go.Proofs.YtmbgmpeiicjlaaaGreatDoor

namespace Go.Proofs.YtmbgmpeiicjlaaaGreatDoor

open Go

def num32 (x : Nat) : Bool := match Ieee.single.read x with | .number .. => true | _ => false

theorem num32_get {x : Nat} (h : num32 x = true) : ∃ s m e, Ieee.single.read x = .number s m e := by
  unfold num32 at h
  cases hr : Ieee.single.read x with
  | number s m e => exact ⟨s, m, e, rfl⟩
  | infinity s => rw [hr] at h; cases h
  | nan s f => rw [hr] at h; cases h

theorem single_read_word (s : Bool) (k : Nat) (h : k ≤ Ieee.single.infRung) : (Ieee.single.read (Ieee.single.word s k)).isNaN = false := by
  have hi : Ieee.single.infRung = 2139095040 := by decide
  have hw : Ieee.single.signWeight = 2147483648 := by decide
  rw [hi] at h
  unfold Ieee.Format.read Ieee.Format.word
  simp only [hi, hw]
  have hk : k % 2147483648 = k := Nat.mod_eq_of_lt (by omega)
  have hs1 : (2147483648 + k) % 2147483648 = k := by omega
  cases s
  · simp only [Bool.false_eq_true, if_false, hk]
    split
    · rfl
    · split
      · rfl
      · rw [if_pos (by omega)]; rfl
  · simp only [if_true, hs1]
    split
    · rfl
    · split
      · rfl
      · rw [if_pos (by omega)]; rfl

theorem nearest_fin (s : Bool) (m : Nat) (e : Int) : fin32 (Ieee.single.nearest s m e) = true := by
  unfold fin32
  rw [Bool.not_eq_true']
  unfold Ieee.Format.nearest
  split
  · exact single_read_word s 0 (Nat.zero_le _)
  · exact single_read_word s _ (Nat.min_le_right _ _)

theorem write_fin (d : Ieee.Datum) (h : d.isNaN = false) : fin32 (Ieee.single.write d) = true := by
  cases d with
  | number s m e => exact nearest_fin s m e
  | infinity s => unfold fin32; rw [Bool.not_eq_true']; exact single_read_word s _ (Nat.le_refl _)
  | nan s f => cases h

/-- A product of two numbers is made without a draw, and is no NaN. -/
theorem mul_ok {x y : Nat} (hx : num32 x = true) (hy : num32 y = true) : floatBits .mul .f32 x y = some (fmul x y) ∧ fin32 (fmul x y) = true := by
  obtain ⟨s, m, e, hr⟩ := num32_get hx
  obtain ⟨t, n, j, hq⟩ := num32_get hy
  have h : Ieee.single.mul x y = some (Ieee.single.write (.number (s ^^ t) (m * n) (e + j))) := by
    unfold Ieee.Format.mul
    rw [hr, hq]; rfl
  have e1 : fmul x y = Ieee.single.write (.number (s ^^ t) (m * n) (e + j)) := by unfold fmul; rw [h]; rfl
  rw [e1]
  exact ⟨h, write_fin _ rfl⟩

theorem order_some {x y : Nat} (hx : fin32 x = true) (hy : fin32 y = true) : ∃ o, FloatKind.f32.format.order x y = some o := by
  unfold fin32 at hx hy
  rw [Bool.not_eq_true'] at hx hy
  show ∃ o, (Ieee.single.read x).order (Ieee.single.read y) = some o
  generalize Ieee.single.read x = a at *
  generalize Ieee.single.read y = b at *
  cases a <;> cases b <;> first | (cases hx; done) | (cases hy; done) | exact ⟨_, rfl⟩

theorem sineB_num_nat : ∀ n : Nat, n < 256 → num32 (sineB (n : Int)) = true := by decide +kernel

theorem sineB_num (a : Int) : num32 (sineB (angB a)) = true := by
  have h0 := angB_lo a
  have h1 := angB_hi a
  generalize angB a = n at *
  obtain ⟨m, rfl⟩ := Int.eq_ofNat_of_zero_le h0
  exact sineB_num_nat m (by omega)

theorem cosB_num (a : Int) : num32 (cosB a) = true := sineB_num _

def litB (l : Nat) : Nat := if FloatKind.f32.format.order l 0 = some .gt then l else 0

def fallB (x d : Int) : Nat := if 0 < x then litB (fmul (cosB x) (cosB d)) else 0

theorem zero_fin : fin32 0 = true := by decide

end Go.Proofs.YtmbgmpeiicjlaaaGreatDoor

namespace Go.Proofs.YtmbgmpeiicjlaaaGreatDoor

open Go

/-- The step above a number, and a number, in units of the least one. -/
def ulp (r : Nat) : Nat := 2 ^ (r / 8388608 - 1)

def rv (r : Nat) : Nat := if r < 8388608 then r else (8388608 + r % 8388608) * 2 ^ (r / 8388608 - 1)

theorem ulp_pos (r : Nat) : 0 < ulp r := Nat.two_pow_pos _

theorem rv_block (L k : Nat) (hk : k ≤ 16777216) (h : L = 0 ∨ 8388608 ≤ k) : rv (L * 8388608 + k) = k * 2 ^ L := by
  unfold rv
  by_cases c : k = 16777216
  · subst c
    rw [if_neg (by omega), show (L * 8388608 + 16777216) % 8388608 = 0 by omega, show (L * 8388608 + 16777216) / 8388608 - 1 = L + 1 by omega, Nat.pow_succ]
    omega
  · by_cases c2 : 8388608 ≤ k
    · rw [if_neg (by omega), show (L * 8388608 + k) % 8388608 = k - 8388608 by omega, show (L * 8388608 + k) / 8388608 - 1 = L by omega, show 8388608 + (k - 8388608) = k by omega]
    · obtain rfl : L = 0 := by omega
      rw [if_pos (by omega)]; simp

theorem ulp_block (L k : Nat) (hk : k < 16777216) (h : L = 0 ∨ 8388608 ≤ k) : ulp (L * 8388608 + k) = 2 ^ L := by
  unfold ulp
  congr 1
  omega

theorem rv_split (r : Nat) : ∃ L k, r = L * 8388608 + k ∧ k < 16777216 ∧ (L = 0 ∨ 8388608 ≤ k) := by
  refine ⟨r / 8388608 - 1, r - (r / 8388608 - 1) * 8388608, by omega, by omega, ?_⟩
  by_cases h : r / 8388608 - 1 = 0
  · exact .inl h
  · right; omega

theorem rv_succ (r : Nat) : rv (r + 1) = rv r + ulp r := by
  obtain ⟨L, k, rfl, hk, h⟩ := rv_split r
  rw [Nat.add_assoc, rv_block L (k + 1) (by omega) (by omega), rv_block L k (by omega) h, ulp_block L k hk h, Nat.succ_mul]

theorem rv_lt_add (r d : Nat) : rv r < rv (r + (d + 1)) := by
  induction d with
  | zero => rw [Nat.zero_add, rv_succ]; have := ulp_pos r; omega
  | succ d ih => rw [← Nat.add_assoc r (d + 1) 1, rv_succ]; omega

theorem rv_lt {r s : Nat} (h : r < s) : rv r < rv s := by
  obtain ⟨d, rfl⟩ := Nat.exists_eq_add_of_lt h
  rw [Nat.add_assoc]; exact rv_lt_add r d

theorem rv_le {r s : Nat} (h : r ≤ s) : rv r ≤ rv s := by
  rcases Nat.eq_or_lt_of_le h with rfl | h
  · exact Nat.le_refl _
  · exact Nat.le_of_lt (rv_lt h)

theorem rv_le_iff {r s : Nat} : rv r ≤ rv s ↔ r ≤ s :=
  ⟨fun h => Nat.le_of_not_lt fun c => by have := rv_lt c; omega, rv_le⟩

theorem rv_zero : rv 0 = 0 := rfl

theorem rv_pos {r : Nat} (h : 0 < r) : 0 < rv r := by have := rv_lt h; rw [rv_zero] at this; exact this

theorem cutg (n g k : Nat) (hg : 0 < g) : k + 1 ≤ n / g + (decide (g < 2 * (n % g)) || (g == 2 * (n % g) && n / g % 2 == 1)).toNat ↔ (2 * k + 1) * g < 2 * n ∨ ((2 * k + 1) * g = 2 * n ∧ k % 2 = 1) := by
  have hn : g * (n / g) + n % g = n := Nat.div_add_mod n g
  have hr : n % g < g := Nat.mod_lt _ hg
  generalize n / g = low at *
  generalize n % g = rest at *
  have e1 : (2 * k + 1) * g = 2 * (g * k) + g := by rw [Nat.add_mul, Nat.mul_assoc, Nat.mul_comm k g]; omega
  rw [e1]
  have hb : ∀ b : Bool, b.toNat ≤ 1 := by decide
  rcases Nat.lt_trichotomy k low with c | c | c
  · have h1 : g * (k + 1) ≤ g * low := Nat.mul_le_mul_left g c
    rw [Nat.mul_succ] at h1
    constructor
    · intro _; left; omega
    · intro _; omega
  · subst c
    by_cases h2 : g < 2 * rest
    · simp only [h2, decide_true, Bool.true_or, Bool.toNat_true]
      constructor
      · intro _; left; omega
      · intro _; omega
    · by_cases h3 : g = 2 * rest
      · by_cases h4 : k % 2 = 1
        · have e : (decide (g < 2 * rest) || (g == 2 * rest && k % 2 == 1)) = true := by simp [h3, h4]
          rw [e]
          constructor
          · intro _; right; omega
          · intro _; simp
        · have e : (decide (g < 2 * rest) || (g == 2 * rest && k % 2 == 1)) = false := by simp [h3]; omega
          rw [e]
          constructor
          · intro h; simp only [Bool.toNat_false, Nat.add_zero] at h; omega
          · intro h; omega
      · have e : (decide (g < 2 * rest) || (g == 2 * rest && k % 2 == 1)) = false := by simp [h2, h3]
        rw [e]
        constructor
        · intro h; simp only [Bool.toNat_false, Nat.add_zero] at h; omega
        · intro h; omega
  · have h1 : g * (low + 1) ≤ g * k := Nat.mul_le_mul_left g c
    rw [Nat.mul_succ] at h1
    have := hb (decide (g < 2 * rest) || (g == 2 * rest && low % 2 == 1))
    constructor
    · intro h; omega
    · intro h; omega

theorem cut_step (s : Bool) (n d k : Nat) : k + 1 ≤ Ieee.Toward.even.cut s n d ↔ (2 * k + 1) * 2 ^ d < 2 * n ∨ ((2 * k + 1) * 2 ^ d = 2 * n ∧ k % 2 = 1) := by
  have hc := cutg n (1 <<< min d (n.log2 + 2)) k (by rw [Nat.one_shiftLeft]; exact Nat.two_pow_pos _)
  have e : Ieee.Toward.even.cut s n d = n / (1 <<< min d (n.log2 + 2)) + (decide ((1 <<< min d (n.log2 + 2)) < 2 * (n % (1 <<< min d (n.log2 + 2)))) || ((1 <<< min d (n.log2 + 2)) == 2 * (n % (1 <<< min d (n.log2 + 2))) && n / (1 <<< min d (n.log2 + 2)) % 2 == 1)).toNat := rfl
  rw [e, hc, Nat.one_shiftLeft]
  by_cases h : d ≤ n.log2 + 2
  · rw [Nat.min_eq_left h]
  · rw [Nat.min_eq_right (by omega)]
    have hl : n < 2 ^ (n.log2 + 1) := Nat.lt_log2_self
    have h2 : 2 ^ (n.log2 + 2) = 2 * 2 ^ (n.log2 + 1) := by rw [Nat.pow_succ 2 (n.log2 + 1)]; omega
    have h3 : 2 ^ (n.log2 + 2) ≤ 2 ^ d := Nat.pow_le_pow_right (by decide) (by omega)
    have h4 : 2 ^ d ≤ (2 * k + 1) * 2 ^ d := Nat.le_mul_of_pos_left _ (by omega)
    have h5 : 2 ^ (n.log2 + 2) ≤ (2 * k + 1) * 2 ^ (n.log2 + 2) := Nat.le_mul_of_pos_left _ (by omega)
    constructor
    · intro h; omega
    · intro h; omega

theorem cut_le {s : Bool} {n d K : Nat} (h : n ≤ K * 2 ^ d) : Ieee.Toward.even.cut s n d ≤ K := by
  refine Nat.le_of_not_lt fun c => ?_
  have h1 := (cut_step s n d K).1 c
  have h2 : (2 * K + 1) * 2 ^ d = 2 * (K * 2 ^ d) + 2 ^ d := by rw [Nat.add_mul, Nat.mul_assoc]; omega
  have h3 : 0 < 2 ^ d := Nat.two_pow_pos d
  omega

theorem le_cut {s : Bool} {n d K : Nat} (h : K * 2 ^ d ≤ n) : K ≤ Ieee.Toward.even.cut s n d := by
  cases K with
  | zero => exact Nat.zero_le _
  | succ k =>
    refine (cut_step s n d k).2 (.inl ?_)
    have h2 : (2 * k + 1) * 2 ^ d = 2 * (k * 2 ^ d) + 2 ^ d := by rw [Nat.add_mul, Nat.mul_assoc]; omega
    have h3 : 0 < 2 ^ d := Nat.two_pow_pos d
    rw [Nat.succ_mul] at h
    omega

/-- w is the nearest to num / den, in units of the least number; of a number too great, infinity. -/
def Rnd (num den w : Nat) : Prop :=
  w ≤ 2139095040 ∧ ∀ r, r < 2139095040 → (r + 1 ≤ w ↔ (2 * rv r + ulp r) * den < 2 * num ∨ ((2 * rv r + ulp r) * den = 2 * num ∧ r % 2 = 1))

theorem scale_iff (A B t k : Nat) (ht : 0 < t) : (A * t < B * t ∨ (A * t = B * t ∧ k % 2 = 1)) ↔ (A < B ∨ (A = B ∧ k % 2 = 1)) := by
  rw [Nat.mul_lt_mul_right ht, Nat.mul_left_inj (by omega)]

theorem nearest_rnd (m : Nat) (e : Int) (a b : Nat) (hab : (a : Int) - b = e + 149) : Rnd (m * 2 ^ a) (2 ^ b) (Ieee.single.nearest false m e) := by
  have hb : Ieee.single.binade = 8388608 := by decide
  have hi : Ieee.single.infRung = 2139095040 := by decide
  have hl : Ieee.single.leastPlace = -149 := by decide
  have hf : (Ieee.single.fractionBits : Int) = 23 := by decide
  have hw : ∀ k, Ieee.single.word false k = k := fun _ => rfl
  have hpb : 0 < 2 ^ b := Nat.two_pow_pos b
  unfold Ieee.Format.nearest
  by_cases h0 : m = 0
  · rw [if_pos h0, hw]
    subst h0
    refine ⟨Nat.zero_le _, fun r _ => ?_⟩
    have h1 := ulp_pos r
    have h2 : 0 < (2 * rv r + ulp r) * 2 ^ b := Nat.mul_pos (by omega) hpb
    constructor
    · intro h; omega
    · intro h; omega
  rw [if_neg h0]
  dsimp only
  rw [hb, hi, hl, hf, hw]
  have hm1 : m < 2 ^ (m.log2 + 1) := Nat.lt_log2_self
  have hm2 : 2 ^ m.log2 ≤ m := Nat.log2_self_le h0
  generalize m.log2 = lg at *
  generalize hlast : max (e + (lg : Int) - 23) (-149) = last
  obtain ⟨L, hL⟩ : ∃ L : Nat, last = (L : Int) - 149 := ⟨(last + 149).toNat, by omega⟩
  have hLL : (last - -149).toNat = L := by omega
  rw [hLL]
  generalize hu : (e - last).toNat = u
  generalize hd : (last - e).toNat = d
  have hsum : a + d = b + u + L := by omega
  rw [Nat.shiftLeft_eq]
  -- the kept number, between its bounds
  have hup : m * 2 ^ u < 2 ^ (24 + d) := by
    have h1 : m * 2 ^ u < 2 ^ (lg + 1) * 2 ^ u := Nat.mul_lt_mul_of_pos_right hm1 (Nat.two_pow_pos _)
    rw [← Nat.pow_add] at h1
    exact Nat.lt_of_lt_of_le h1 (Nat.pow_le_pow_right (by decide) (by omega))
  have hlo : L = 0 ∨ 2 ^ (23 + d) ≤ m * 2 ^ u := by
    by_cases c : L = 0
    · exact .inl c
    · right
      have h1 : 2 ^ lg * 2 ^ u ≤ m * 2 ^ u := Nat.mul_le_mul_right _ hm2
      rw [← Nat.pow_add] at h1
      exact Nat.le_trans (Nat.pow_le_pow_right (by decide) (by omega)) h1
  have hstep := cut_step false (m * 2 ^ u) d
  have hKup : Ieee.Toward.even.cut false (m * 2 ^ u) d ≤ 16777216 := cut_le (by rw [Nat.pow_add] at hup; exact Nat.le_of_lt hup)
  have hKlo : L = 0 ∨ 8388608 ≤ Ieee.Toward.even.cut false (m * 2 ^ u) d := hlo.imp id (fun h => le_cut (by rw [Nat.pow_add] at h; exact h))
  generalize Ieee.Toward.even.cut false (m * 2 ^ u) d = K at *
  -- the value, in the units of num and den
  have hval : m * 2 ^ a * 2 ^ d = m * 2 ^ u * 2 ^ (b + L) := by
    rw [Nat.mul_assoc, ← Nat.pow_add, hsum, Nat.mul_assoc, ← Nat.pow_add]
    congr 2; omega
  have hpd : 0 < 2 ^ d := Nat.two_pow_pos d
  have hVup : m * 2 ^ a < 16777216 * 2 ^ (b + L) := by
    have h1 : m * 2 ^ u * 2 ^ (b + L) < 2 ^ (24 + d) * 2 ^ (b + L) := Nat.mul_lt_mul_of_pos_right hup (Nat.two_pow_pos _)
    have e24 : 2 ^ (24 + d) * 2 ^ (b + L) = 16777216 * 2 ^ (b + L) * 2 ^ d := by
      rw [Nat.pow_add 2 24 d, Nat.mul_assoc, Nat.mul_comm (2 ^ d), ← Nat.mul_assoc]
    rw [← hval, e24] at h1
    exact Nat.lt_of_mul_lt_mul_right h1
  have hVlo : L = 0 ∨ 8388608 * 2 ^ (b + L) ≤ m * 2 ^ a := hlo.imp id fun h => by
    have h1 : 2 ^ (23 + d) * 2 ^ (b + L) ≤ m * 2 ^ u * 2 ^ (b + L) := Nat.mul_le_mul_right _ h
    have e23 : 2 ^ (23 + d) * 2 ^ (b + L) = 8388608 * 2 ^ (b + L) * 2 ^ d := by
      rw [Nat.pow_add 2 23 d, Nat.mul_assoc, Nat.mul_comm (2 ^ d), ← Nat.mul_assoc]
    rw [← hval, e23] at h1
    exact Nat.le_of_mul_le_mul_right h1 hpd
  refine ⟨Nat.min_le_right _ _, fun r hr => ?_⟩
  have hmin : r + 1 ≤ min (L * 8388608 + K) 2139095040 ↔ r + 1 ≤ L * 8388608 + K := by
    rw [Nat.le_min]; exact ⟨fun h => h.1, fun h => ⟨h, hr⟩⟩
  rw [hmin]
  by_cases c1 : L * 8388608 + 16777216 ≤ r
  · -- above
    have h1 : 16777216 * 2 ^ L ≤ rv r := by rw [← rv_block L 16777216 (Nat.le_refl _) (.inr (by decide))]; exact rv_le c1
    have h2 : 16777216 * 2 ^ L * 2 ^ b ≤ rv r * 2 ^ b := Nat.mul_le_mul_right _ h1
    rw [Nat.mul_assoc, ← Nat.pow_add, Nat.add_comm L b] at h2
    have h3 : (2 * rv r + ulp r) * 2 ^ b = 2 * (rv r * 2 ^ b) + ulp r * 2 ^ b := by rw [Nat.add_mul, Nat.mul_assoc]
    rw [h3]
    constructor
    · intro h; omega
    · intro h; omega
  by_cases c2 : L = 0 ∨ L * 8388608 + 8388608 ≤ r
  · -- within
    obtain ⟨k, rfl⟩ : ∃ k, r = L * 8388608 + k := ⟨r - L * 8388608, by omega⟩
    have hk : k < 16777216 := by omega
    have hk2 : L = 0 ∨ 8388608 ≤ k := by omega
    rw [rv_block L k (by omega) hk2, ulp_block L k hk hk2]
    have h1 : L * 8388608 + k + 1 ≤ L * 8388608 + K ↔ k + 1 ≤ K := by omega
    rw [h1, hstep k]
    have e1 : (2 * (k * 2 ^ L) + 2 ^ L) * 2 ^ b = (2 * k + 1) * 2 ^ (b + L) := by
      rw [← Nat.mul_assoc, ← Nat.succ_mul, Nat.mul_assoc, ← Nat.pow_add, Nat.add_comm L b]
    rw [e1, show (L * 8388608 + k) % 2 = k % 2 by omega]
    rw [← scale_iff ((2 * k + 1) * 2 ^ d) (2 * (m * 2 ^ u)) (2 ^ (b + L)) k (Nat.two_pow_pos _), ← scale_iff ((2 * k + 1) * 2 ^ (b + L)) (2 * (m * 2 ^ a)) (2 ^ d) k hpd]
    have e2 : 2 * (m * 2 ^ a) * 2 ^ d = 2 * (m * 2 ^ u) * 2 ^ (b + L) := by rw [Nat.mul_assoc 2, hval, ← Nat.mul_assoc]
    have e3 : (2 * k + 1) * 2 ^ d * 2 ^ (b + L) = (2 * k + 1) * 2 ^ (b + L) * 2 ^ d := by rw [Nat.mul_assoc, Nat.mul_comm (2 ^ d), ← Nat.mul_assoc]
    rw [e2, e3]
  · -- below
    have hL0 : L ≠ 0 := fun h => c2 (.inl h)
    have hr2 : r + 1 ≤ L * 8388608 + 8388608 := by omega
    have h1 : rv (r + 1) ≤ 8388608 * 2 ^ L := by rw [← rv_block L 8388608 (by decide) (.inr (Nat.le_refl _))]; exact rv_le hr2
    rw [rv_succ] at h1
    have hu0 := ulp_pos r
    have h2 : (2 * rv r + ulp r) < 2 * (8388608 * 2 ^ L) := by omega
    have h3 : (2 * rv r + ulp r) * 2 ^ b < 2 * (8388608 * 2 ^ L) * 2 ^ b := Nat.mul_lt_mul_of_pos_right h2 hpb
    have e1 : 2 * (8388608 * 2 ^ L) * 2 ^ b = 2 * (8388608 * 2 ^ (b + L)) := by rw [Nat.mul_assoc, Nat.mul_assoc, ← Nat.pow_add, Nat.add_comm L b]
    rw [e1] at h3
    have h4 := hVlo.resolve_left hL0
    have h5 := hKlo.resolve_left hL0
    constructor
    · intro _; left; omega
    · intro _; omega

/-! ### What follows of being the nearest -/

theorem rnd_mono {n1 d1 w1 n2 d2 w2 : Nat} (h1 : Rnd n1 d1 w1) (h2 : Rnd n2 d2 w2) (hd1 : 0 < d1) (hd2 : 0 < d2) (h : n1 * d2 ≤ n2 * d1) : w1 ≤ w2 := by
  refine Nat.le_of_not_lt fun c => ?_
  have hlt : w2 < 2139095040 := Nat.lt_of_lt_of_le c h1.1
  have a1 := (h1.2 w2 hlt).1 c
  have a2 : ¬ (w2 + 1 ≤ w2) := by omega
  rw [h2.2 w2 hlt] at a2
  generalize 2 * rv w2 + ulp w2 = M at *
  have e1 : M * d1 * d2 = M * d2 * d1 := by rw [Nat.mul_assoc, Nat.mul_comm d1, ← Nat.mul_assoc]
  rcases a1 with a1 | ⟨a1, a3⟩
  · have b1 : M * d1 * d2 < 2 * n1 * d2 := Nat.mul_lt_mul_of_pos_right a1 hd2
    have b2 : ¬ (M * d2 < 2 * n2) := fun h => a2 (.inl h)
    have b3 : 2 * n2 * d1 ≤ M * d2 * d1 := Nat.mul_le_mul_right _ (by omega)
    have f1 : 2 * n1 * d2 = 2 * (n1 * d2) := Nat.mul_assoc 2 n1 d2
    have f2 : 2 * n2 * d1 = 2 * (n2 * d1) := Nat.mul_assoc 2 n2 d1
    omega
  · have b1 : M * d1 * d2 = 2 * n1 * d2 := by rw [a1]
    have b2 : M * d2 * d1 ≤ 2 * n2 * d1 := by rw [← e1, b1, Nat.mul_assoc, Nat.mul_assoc]; omega
    have b3 : M * d2 ≤ 2 * n2 := Nat.le_of_mul_le_mul_right b2 hd1
    rcases Nat.eq_or_lt_of_le b3 with b4 | b4
    · exact a2 (.inr ⟨b4, a3⟩)
    · exact a2 (.inl b4)

theorem rnd_ge {n d w r : Nat} (h : Rnd n d w) (hr : r ≤ 2139095040) (hd : 0 < d) (hn : rv r * d ≤ n) : r ≤ w := by
  cases r with
  | zero => exact Nat.zero_le _
  | succ r =>
    refine (h.2 r (by omega)).2 (.inl ?_)
    rw [rv_succ, Nat.add_mul] at hn
    rw [Nat.add_mul, Nat.mul_assoc]
    have : 0 < ulp r * d := Nat.mul_pos (ulp_pos r) hd
    omega

theorem rnd_le {n d w r : Nat} (h : Rnd n d w) (hd : 0 < d) (hn : n ≤ rv r * d) : w ≤ r := by
  refine Nat.le_of_not_lt fun c => ?_
  have hlt : r < 2139095040 := Nat.lt_of_lt_of_le c h.1
  have a1 := (h.2 r hlt).1 c
  rw [Nat.add_mul, Nat.mul_assoc] at a1
  have : 0 < ulp r * d := Nat.mul_pos (ulp_pos r) hd
  omega

theorem rnd_exact {n d w r : Nat} (h : Rnd n d w) (hr : r ≤ 2139095040) (hd : 0 < d) (hn : n = rv r * d) : w = r :=
  Nat.le_antisymm (rnd_le h hd (Nat.le_of_eq hn)) (rnd_ge h hr hd (Nat.le_of_eq hn.symm))

/-! ### The operations -/

theorem read_pos {x : Nat} (h : x < 2139095040) : ∃ m i : Nat, Ieee.single.read x = .number false m (-149 + (i : Int)) ∧ m * 2 ^ i = rv x := by
  have hb : Ieee.single.binade = 8388608 := by decide
  have hi : Ieee.single.infRung = 2139095040 := by decide
  have hl : Ieee.single.leastPlace = -149 := by decide
  have hw : Ieee.single.signWeight = 2147483648 := by decide
  unfold Ieee.Format.read rv
  simp only [hb, hi, hl, hw]
  rw [Nat.mod_eq_of_lt (show x < 2147483648 by omega), Nat.div_eq_of_lt (show x < 2147483648 by omega)]
  by_cases c : x < 8388608
  · rw [if_pos c, if_pos c]; exact ⟨x, 0, rfl, by simp⟩
  · rw [if_neg c, if_pos h, if_neg c]; exact ⟨_, _, rfl, rfl⟩

theorem mul_rnd {x y : Nat} (hx : x < 2139095040) (hy : y < 2139095040) : floatBits .mul .f32 x y = some (fmul x y) ∧ Rnd (rv x * rv y) (2 ^ 149) (fmul x y) := by
  obtain ⟨m, i, hr, hm⟩ := read_pos hx
  obtain ⟨n, j, hq, hn⟩ := read_pos hy
  have h : Ieee.single.mul x y = some (Ieee.single.nearest false (m * n) ((-149 + (i : Int)) + (-149 + (j : Int)))) := by
    unfold Ieee.Format.mul
    rw [hr, hq]; rfl
  have e1 : fmul x y = Ieee.single.nearest false (m * n) ((-149 + (i : Int)) + (-149 + (j : Int))) := by unfold fmul; rw [h]; rfl
  rw [e1]
  refine ⟨h, ?_⟩
  have e2 : rv x * rv y = m * n * 2 ^ (i + j) := by rw [← hm, ← hn, Nat.pow_add, Nat.mul_mul_mul_comm]
  rw [e2]
  exact nearest_rnd _ _ _ _ (by omega)

theorem signed_false (m u : Nat) : Ieee.signed false m u = ((m * 2 ^ u : Nat) : Int) := by
  unfold Ieee.signed
  rw [if_neg (by decide), Nat.shiftLeft_eq]

theorem add_rnd {x y : Nat} (hx : x < 2139095040) (hy : y < 2139095040) : floatBits .add .f32 x y = some (fadd x y) ∧ Rnd (rv x + rv y) 1 (fadd x y) := by
  obtain ⟨m, i, hr, hm⟩ := read_pos hx
  obtain ⟨n, j, hq, hn⟩ := read_pos hy
  have h : Ieee.single.add x y = some (Ieee.single.nearest false (m * 2 ^ (i - min i j) + n * 2 ^ (j - min i j)) (-149 + ((min i j : Nat) : Int))) := by
    unfold Ieee.Format.add
    rw [hr, hq]
    have e0 : min (-149 + (i : Int)) (-149 + (j : Int)) = -149 + ((min i j : Nat) : Int) := by omega
    simp only [Ieee.Datum.sum, Option.map_some, Ieee.Format.write, e0, signed_false]
    have e1 : (-149 + (i : Int) - (-149 + ((min i j : Nat) : Int))).toNat = i - min i j := by omega
    have e2 : (-149 + (j : Int) - (-149 + ((min i j : Nat) : Int))).toNat = j - min i j := by omega
    rw [e1, e2, ← Int.natCast_add, Int.natAbs_natCast]
    have e3 : (if ((m * 2 ^ (i - min i j) + n * 2 ^ (j - min i j) : Nat) : Int) = 0 then (false && false) else decide (((m * 2 ^ (i - min i j) + n * 2 ^ (j - min i j) : Nat) : Int) < 0)) = false := by
      split
      · rfl
      · exact decide_eq_false (by omega)
    rw [e3]
  have e1 : fadd x y = Ieee.single.nearest false (m * 2 ^ (i - min i j) + n * 2 ^ (j - min i j)) (-149 + ((min i j : Nat) : Int)) := by unfold fadd; rw [h]; rfl
  rw [e1]
  refine ⟨h, ?_⟩
  have e2 : rv x + rv y = (m * 2 ^ (i - min i j) + n * 2 ^ (j - min i j)) * 2 ^ (min i j) := by
    rw [← hm, ← hn, Nat.add_mul, Nat.mul_assoc, Nat.mul_assoc, ← Nat.pow_add, ← Nat.pow_add, Nat.sub_add_cancel (Nat.min_le_left _ _), Nat.sub_add_cancel (Nat.min_le_right _ _)]
  rw [e2]
  exact nearest_rnd _ _ _ 0 (by omega)

theorem sub_rnd {x y : Nat} (hx : x < 2139095040) (hy : y ≤ x) : floatBits .sub .f32 x y = some (fsub x y) ∧ Rnd (rv x - rv y) 1 (fsub x y) := by
  obtain ⟨m, i, hr, hm⟩ := read_pos hx
  obtain ⟨n, j, hq, hn⟩ := read_pos (Nat.lt_of_le_of_lt hy hx)
  have hle : n * 2 ^ (j - min i j) ≤ m * 2 ^ (i - min i j) := by
    have h1 := rv_le hy
    rw [← hm, ← hn] at h1
    have e1 : n * 2 ^ j = n * 2 ^ (j - min i j) * 2 ^ (min i j) := by rw [Nat.mul_assoc, ← Nat.pow_add, Nat.sub_add_cancel (Nat.min_le_right _ _)]
    have e2 : m * 2 ^ i = m * 2 ^ (i - min i j) * 2 ^ (min i j) := by rw [Nat.mul_assoc, ← Nat.pow_add, Nat.sub_add_cancel (Nat.min_le_left _ _)]
    rw [e1, e2] at h1
    exact Nat.le_of_mul_le_mul_right h1 (Nat.two_pow_pos _)
  have h : Ieee.single.sub x y = some (Ieee.single.nearest false (m * 2 ^ (i - min i j) - n * 2 ^ (j - min i j)) (-149 + ((min i j : Nat) : Int))) := by
    unfold Ieee.Format.sub
    rw [hr, hq]
    have e0 : min (-149 + (i : Int)) (-149 + (j : Int)) = -149 + ((min i j : Nat) : Int) := by omega
    have e1 : (-149 + (i : Int) - (-149 + ((min i j : Nat) : Int))).toNat = i - min i j := by omega
    have e2 : (-149 + (j : Int) - (-149 + ((min i j : Nat) : Int))).toNat = j - min i j := by omega
    have e3 : Ieee.signed (!false) n (j - min i j) = -((n * 2 ^ (j - min i j) : Nat) : Int) := by
      unfold Ieee.signed; rw [if_pos (by decide), Nat.shiftLeft_eq]
    simp only [Ieee.Datum.opposite, Ieee.Datum.sum, Option.map_some, Ieee.Format.write, e0, signed_false, e1, e2, e3]
    have e4 : ((m * 2 ^ (i - min i j) : Nat) : Int) + -((n * 2 ^ (j - min i j) : Nat) : Int) = ((m * 2 ^ (i - min i j) - n * 2 ^ (j - min i j) : Nat) : Int) := by omega
    rw [e4, Int.natAbs_natCast]
    have e5 : (if ((m * 2 ^ (i - min i j) - n * 2 ^ (j - min i j) : Nat) : Int) = 0 then (false && !false) else decide (((m * 2 ^ (i - min i j) - n * 2 ^ (j - min i j) : Nat) : Int) < 0)) = false := by
      split
      · rfl
      · exact decide_eq_false (by omega)
    rw [e5]
  have e1 : fsub x y = Ieee.single.nearest false (m * 2 ^ (i - min i j) - n * 2 ^ (j - min i j)) (-149 + ((min i j : Nat) : Int)) := by unfold fsub; rw [h]; rfl
  rw [e1]
  refine ⟨h, ?_⟩
  have e2 : rv x - rv y = (m * 2 ^ (i - min i j) - n * 2 ^ (j - min i j)) * 2 ^ (min i j) := by
    rw [← hm, ← hn, Nat.sub_mul, Nat.mul_assoc, Nat.mul_assoc, ← Nat.pow_add, ← Nat.pow_add, Nat.sub_add_cancel (Nat.min_le_left _ _), Nat.sub_add_cancel (Nat.min_le_right _ _)]
  rw [e2]
  exact nearest_rnd _ _ _ 0 (by omega)

/-- A quotient with its rest told by one more digit rounds as the quotient itself. -/
theorem quot_iff (M A B D n r : Nat) (hn : 0 < n) (hA : ∃ p, A = 2 ^ p) (hB : ∃ p, B = 2 ^ p) (hM : ∃ k L, M = (2 * k + 1) * 2 ^ L ∧ k < 16777216) (hbig : 16777216 * n ≤ D) :
    (M * (B * 2) < 2 * ((2 * (D / n) + (D % n != 0).toNat) * A) ∨ (M * (B * 2) = 2 * ((2 * (D / n) + (D % n != 0).toNat) * A) ∧ r % 2 = 1)) ↔
    (M * B * n < 2 * (D * A) ∨ (M * B * n = 2 * (D * A) ∧ r % 2 = 1)) := by
  obtain ⟨p, rfl⟩ := hA
  obtain ⟨q, rfl⟩ := hB
  obtain ⟨k, L, rfl, hk⟩ := hM
  have hq : n * (D / n) + D % n = D := Nat.div_add_mod D n
  have hr : D % n < n := Nat.mod_lt _ hn
  have hqb : 16777216 ≤ D / n := (Nat.le_div_iff_mul_le hn).2 hbig
  have hs : (D % n != 0).toNat = if D % n = 0 then 0 else 1 := by
    by_cases c : D % n = 0
    · simp [c]
    · simp [c]
  rw [hs]
  generalize D / n = Q at *
  generalize D % n = R at *
  have e0 : (2 * k + 1) * 2 ^ L * (2 ^ q * 2) = 2 * ((2 * k + 1) * 2 ^ (L + q)) := by
    rw [Nat.pow_add, Nat.mul_assoc, ← Nat.mul_assoc (2 ^ L), Nat.mul_comm _ 2, ← Nat.mul_assoc (2 * k + 1), Nat.mul_comm (2 * k + 1) 2, Nat.mul_assoc]
  have e1 : (2 * k + 1) * 2 ^ L * 2 ^ q * n = (2 * k + 1) * 2 ^ (L + q) * n := by rw [Nat.pow_add, Nat.mul_assoc (2 * k + 1)]
  rw [e0, e1]
  by_cases c : p + 1 ≤ L + q
  · -- the midpoint is a multiple of two units
    obtain ⟨t, ht⟩ : ∃ t, (2 * k + 1) * 2 ^ (L + q) = 2 * t * 2 ^ p := by
      refine ⟨(2 * k + 1) * 2 ^ (L + q - (p + 1)), ?_⟩
      have : 2 ^ (L + q) = 2 ^ (L + q - (p + 1)) * (2 ^ p * 2) := by rw [← Nat.pow_succ, ← Nat.pow_add]; congr 1; omega
      rw [this]
      generalize 2 ^ (L + q - (p + 1)) = X
      generalize 2 * k + 1 = Y
      ac_rfl
    rw [ht]
    have hp : 0 < 2 ^ p := Nat.two_pow_pos p
    have e2 : 2 * (2 * t * 2 ^ p) = (2 * (2 * t)) * 2 ^ p := (Nat.mul_assoc 2 (2 * t) (2 ^ p)).symm
    have e3 : 2 * ((2 * Q + if R = 0 then 0 else 1) * 2 ^ p) = (2 * (2 * Q + if R = 0 then 0 else 1)) * 2 ^ p := (Nat.mul_assoc 2 _ (2 ^ p)).symm
    have e4 : 2 * t * 2 ^ p * n = (2 * (t * n)) * 2 ^ p := by rw [Nat.mul_assoc (2 * t), Nat.mul_comm (2 ^ p), ← Nat.mul_assoc, Nat.mul_assoc 2]
    have e5 : 2 * (D * 2 ^ p) = (2 * D) * 2 ^ p := (Nat.mul_assoc 2 D (2 ^ p)).symm
    rw [e2, e3, e4, e5, scale_iff _ _ _ _ hp, scale_iff _ _ _ _ hp]
    have key : (t < Q → t * n + n ≤ n * Q) ∧ (t = Q → t * n = n * Q) ∧ (Q < t → n * Q + n ≤ t * n) := by
      refine ⟨fun h => ?_, fun h => ?_, fun h => ?_⟩
      · rw [← Nat.succ_mul, Nat.mul_comm]; exact Nat.mul_le_mul_left n h
      · rw [h, Nat.mul_comm]
      · rw [← Nat.mul_succ, Nat.mul_comm t]; exact Nat.mul_le_mul_left n h
    obtain ⟨k1, k2, k3⟩ := key
    split
    · rcases Nat.lt_trichotomy t Q with h | h | h
      · have := k1 h; constructor <;> intro _ <;> omega
      · have := k2 h; constructor <;> intro _ <;> omega
      · have := k3 h; constructor <;> intro _ <;> omega
    · rcases Nat.lt_trichotomy t Q with h | h | h
      · have := k1 h; constructor <;> intro _ <;> omega
      · have := k2 h; constructor <;> intro _ <;> omega
      · have := k3 h; constructor <;> intro _ <;> omega
  · -- the midpoint is far below
    have h1 : 2 ^ (L + q) ≤ 2 ^ p := Nat.pow_le_pow_right (by decide) (by omega)
    have h2 : (2 * k + 1) * 2 ^ (L + q) ≤ (2 * k + 1) * 2 ^ p := Nat.mul_le_mul_left _ h1
    have h3 : (2 * k + 1) * 2 ^ p < 33554432 * 2 ^ p := Nat.mul_lt_mul_of_pos_right (by omega) (Nat.two_pow_pos _)
    have h4 : 33554432 * 2 ^ p ≤ (2 * Q + if R = 0 then 0 else 1) * 2 ^ p := Nat.mul_le_mul_right _ (by omega)
    have h5 : (2 * k + 1) * 2 ^ (L + q) * n < 33554432 * 2 ^ p * n := Nat.mul_lt_mul_of_pos_right (by omega) hn
    have h6 : 33554432 * 2 ^ p * n ≤ 2 * (D * 2 ^ p) := by
      have : 16777216 * n * 2 ^ p ≤ D * 2 ^ p := Nat.mul_le_mul_right _ hbig
      have e : 33554432 * 2 ^ p * n = 2 * (16777216 * n * 2 ^ p) := by
        rw [Nat.mul_assoc 33554432, Nat.mul_comm (2 ^ p) n, Nat.mul_assoc 16777216]; omega
      omega
    constructor
    · intro _; left; omega
    · intro _; left; omega

theorem mid_form (r : Nat) : ∃ k L, 2 * rv r + ulp r = (2 * k + 1) * 2 ^ L ∧ k < 16777216 := by
  obtain ⟨L, k, rfl, hk, h⟩ := rv_split r
  refine ⟨k, L, ?_, hk⟩
  rw [rv_block L k (by omega) h, ulp_block L k hk h, ← Nat.mul_assoc, ← Nat.succ_mul]

theorem div_rnd {x y : Nat} (hx : x < 2139095040) (hy : y < 2139095040) (hy0 : 0 < y) : floatBits .quo .f32 x y = some (fdiv x y) ∧ Rnd (rv x * 2 ^ 149) (rv y) (fdiv x y) := by
  obtain ⟨m, i, hr, hm⟩ := read_pos hx
  obtain ⟨n, j, hq, hn⟩ := read_pos hy
  have hn0 : n ≠ 0 := by
    intro h; rw [h, Nat.zero_mul] at hn; have := rv_pos hy0; omega
  have h : Ieee.single.div x y = some (Ieee.single.nearest false (2 * (m <<< (25 + n.log2 - m.log2) / n) + (m <<< (25 + n.log2 - m.log2) % n != 0).toNat) ((-149 + (i : Int)) - (-149 + (j : Int)) - ((25 + n.log2 - m.log2 : Nat) : Int) - 1)) := by
    unfold Ieee.Format.div
    rw [hr, hq]
    have hf : Ieee.single.fractionBits + 2 = 25 := by decide
    simp only [hf, Ieee.Datum.quotient, if_neg hn0, Option.map_some, Ieee.Format.write]
    rfl
  have e1 : fdiv x y = Ieee.single.nearest false (2 * (m <<< (25 + n.log2 - m.log2) / n) + (m <<< (25 + n.log2 - m.log2) % n != 0).toNat) ((-149 + (i : Int)) - (-149 + (j : Int)) - ((25 + n.log2 - m.log2 : Nat) : Int) - 1) := by unfold fdiv; rw [h]; rfl
  rw [e1]
  refine ⟨h, ?_⟩
  rw [← hm, ← hn]
  clear h e1 hr hq hm hn
  by_cases hm0 : m = 0
  · subst hm0
    have e : ∀ t : Nat, (2 * (0 <<< t / n) + (0 <<< t % n != 0).toNat) = 0 := by intro t; simp
    rw [e]
    have hz : ∀ e : Int, Ieee.single.nearest false 0 e = 0 := fun _ => rfl
    rw [hz]
    refine ⟨Nat.zero_le _, fun r _ => ?_⟩
    have h1 := ulp_pos r
    have h2 : 0 < (2 * rv r + ulp r) * (n * 2 ^ j) := Nat.mul_pos (by omega) (Nat.mul_pos (by omega) (Nat.two_pow_pos _))
    constructor
    · intro h; omega
    · intro h; omega
  have hmore : m.log2 ≤ 25 + n.log2 ∨ 25 + n.log2 < m.log2 := by omega
  generalize hmo : 25 + n.log2 - m.log2 = more
  rw [Nat.shiftLeft_eq]
  have hbig : 16777216 * n ≤ m * 2 ^ more := by
    have h1 : 2 ^ m.log2 ≤ m := Nat.log2_self_le hm0
    have h2 : n < 2 ^ (n.log2 + 1) := Nat.lt_log2_self
    have h3 : 2 ^ m.log2 * 2 ^ more ≤ m * 2 ^ more := Nat.mul_le_mul_right _ h1
    rw [← Nat.pow_add] at h3
    have h4 : 2 ^ (24 + (n.log2 + 1)) ≤ 2 ^ (m.log2 + more) := Nat.pow_le_pow_right (by decide) (by omega)
    rw [Nat.pow_add] at h4
    have h5 : 2 ^ 24 * n ≤ 2 ^ 24 * 2 ^ (n.log2 + 1) := Nat.mul_le_mul_left _ (by omega)
    omega
  have hR := nearest_rnd (2 * (m * 2 ^ more / n) + (m * 2 ^ more % n != 0).toNat) ((-149 + (i : Int)) - (-149 + (j : Int)) - (more : Int) - 1) (i + 149) (j + more + 1) (by omega)
  generalize hD : m * 2 ^ more = D at *
  refine ⟨hR.1, fun r hr => ?_⟩
  rw [hR.2 r hr]
  obtain ⟨k, L, hM, hk⟩ := mid_form r
  have hq := quot_iff (2 * rv r + ulp r) (2 ^ (i + 149)) (2 ^ (j + more)) D n r (by omega) ⟨_, rfl⟩ ⟨_, rfl⟩ ⟨k, L, hM, hk⟩ hbig
  rw [Nat.pow_succ, hq]
  generalize 2 * rv r + ulp r = M
  have e1 : M * 2 ^ (j + more) * n = M * (n * 2 ^ j) * 2 ^ more := by
    rw [Nat.pow_add, Nat.mul_assoc, Nat.mul_assoc, Nat.mul_assoc]
    congr 1
    rw [Nat.mul_comm (2 ^ more) n, ← Nat.mul_assoc, Nat.mul_comm (2 ^ j) n, Nat.mul_assoc]
  have e2 : 2 * (D * 2 ^ (i + 149)) = 2 * (m * 2 ^ i * 2 ^ 149) * 2 ^ more := by
    rw [← hD, Nat.pow_add, Nat.mul_assoc 2]
    congr 1
    rw [Nat.mul_assoc m, Nat.mul_comm (2 ^ more), ← Nat.mul_assoc, ← Nat.mul_assoc]
  rw [e1, e2, scale_iff _ _ _ _ (Nat.two_pow_pos _)]

/-! ### The order -/

theorem order_pos {x y : Nat} (hx : x < 2139095040) (hy : y < 2139095040) : FloatKind.f32.format.order x y = some (compare x y) := by
  obtain ⟨m, i, hr, hm⟩ := read_pos hx
  obtain ⟨n, j, hq, hn⟩ := read_pos hy
  show (Ieee.single.read x).order (Ieee.single.read y) = _
  rw [hr, hq]
  have e0 : min (-149 + (i : Int)) (-149 + (j : Int)) = -149 + ((min i j : Nat) : Int) := by omega
  have e1 : (-149 + (i : Int) - (-149 + ((min i j : Nat) : Int))).toNat = i - min i j := by omega
  have e2 : (-149 + (j : Int) - (-149 + ((min i j : Nat) : Int))).toNat = j - min i j := by omega
  simp only [Ieee.Datum.order, e0, e1, e2, signed_false]
  have f1 : rv x = m * 2 ^ (i - min i j) * 2 ^ (min i j) := by rw [← hm, Nat.mul_assoc, ← Nat.pow_add, Nat.sub_add_cancel (Nat.min_le_left _ _)]
  have f2 : rv y = n * 2 ^ (j - min i j) * 2 ^ (min i j) := by rw [← hn, Nat.mul_assoc, ← Nat.pow_add, Nat.sub_add_cancel (Nat.min_le_right _ _)]
  have hp : 0 < 2 ^ (min i j) := Nat.two_pow_pos _
  generalize m * 2 ^ (i - min i j) = a at *
  generalize n * 2 ^ (j - min i j) = b at *
  congr 1
  rcases Nat.lt_trichotomy x y with c | c | c
  · have h1 := rv_lt c
    rw [f1, f2] at h1
    have h2 : a < b := Nat.lt_of_mul_lt_mul_right h1
    rw [Nat.compare_eq_lt.2 c, Int.compare_eq_lt.2 (by omega)]
  · subst c
    have h2 : a = b := Nat.eq_of_mul_eq_mul_right hp (by rw [← f1, ← f2])
    rw [Nat.compare_eq_eq.2 rfl, Int.compare_eq_eq.2 (by omega)]
  · have h1 := rv_lt c
    rw [f1, f2] at h1
    have h2 : b < a := Nat.lt_of_mul_lt_mul_right h1
    rw [Nat.compare_eq_gt.2 c, Int.compare_eq_gt.2 (by omega)]

end Go.Proofs.YtmbgmpeiicjlaaaGreatDoor
