/-
  PlP, MapOp, PlQ, Box, PlR, List, PlS, RwA, RwC, RwD, ListLaw, PlM, PlT, PlU.
-/
import Derived.Lib.Hide
import Derived.Maps.Keyed
import Derived.DeepKeys4
import Derived.MapViews
import Derived.Carry
import Derived.OwnWalk
import Derived.Test.YtddnfbpgldchcaaDoorTake
import Derived.Test.YtddnfbpgldchcaaDoorRow
import Derived.Test.YtddnfbpgldchcaaDoorEtA
import Derived.WalkMore
import Derived.Outline
import Derived.Test.YtddnfbpgldchcaaDoorLaw
import Derived.Test.YtddnfbpgldchcaaDoorRows
import Derived.WalkSpells
import Derived.WalkLawsBesides
import Derived.Deep.Cut
import Derived.Deep.DeepCutAuto
import Derived.Test.YtddnfbpgldchcaaDoorEtC
import Derived.Great.BuildSlice
import Derived.Test.YtddnfbpgldchcaaDoorRoomK
import Derived.Test.YtddnfbpgldchcaaDoorRoomL
import Derived.Test.YtddnfbpgldchcaaDoorLightA
import Derived.Test.YtddnfbpgldchcaaDoorPlace
import Derived.Laws.AppendOwn
import Derived.Test.YtddnfbpgldchcaaDoorSgn
import Derived.Test.YtddnfbpgldchcaaDoorLtA
import Derived.Test.YtddnfbpgldchcaaDoorErrs
import Derived.Test.YtddnfbpgldchcaaDoorRoundL

namespace Go.Proofs.YtddnfbpgldchcaaDoor

/-- Two tiles share a side or a corner, or are the same. -/
def nearT (a b : Int × Int) : Bool := decide ((a.1 - b.1) * (a.1 - b.1) ≤ 1) && decide ((a.2 - b.2) * (a.2 - b.2) ≤ 1)

theorem sq_leT {z : Int} : z * z ≤ 1 ↔ (-1 ≤ z ∧ z ≤ 1) := by
  constructor
  · intro h
    refine ⟨?_, ?_⟩
    · by_cases c : -1 ≤ z
      · exact c
      · have h1 : (-z) * (-z) = z * z := Int.neg_mul_neg z z
        have h2 : 2 ≤ -z := by omega
        have h3 : 2 * 2 ≤ (-z) * (-z) := Int.mul_le_mul h2 h2 (by decide) (by omega)
        omega
    · by_cases c : z ≤ 1
      · exact c
      · have h2 : 2 ≤ z := by omega
        have h3 : 2 * 2 ≤ z * z := Int.mul_le_mul h2 h2 (by decide) (by omega)
        omega
  · rintro ⟨h1, h2⟩
    have : z = -1 ∨ z = 0 ∨ z = 1 := by omega
    rcases this with rfl | rfl | rfl <;> decide

theorem nearT_iff {a b : Int × Int} : nearT a b = true ↔ (-1 ≤ a.1 - b.1 ∧ a.1 - b.1 ≤ 1) ∧ (-1 ≤ a.2 - b.2 ∧ a.2 - b.2 ≤ 1) := by
  unfold nearT
  rw [Bool.and_eq_true, decide_eq_true_iff, decide_eq_true_iff, sq_leT, sq_leT]

/-- Nine looks find what touches. -/
theorem touch_nine (o : List (Int × Int)) (b : Int × Int) :
    o.any (fun a => nearT a b) = ([-1, 0, 1] : List Int).any (fun y => ([-1, 0, 1] : List Int).any (fun x => o.contains (b.1 + x, b.2 + y))) := by
  rw [Bool.eq_iff_iff, List.any_eq_true, List.any_eq_true]
  constructor
  · rintro ⟨a, ha, hn⟩
    obtain ⟨⟨h1, h2⟩, h3, h4⟩ := nearT_iff.1 hn
    refine ⟨a.2 - b.2, ?_, ?_⟩
    · have : a.2 - b.2 = -1 ∨ a.2 - b.2 = 0 ∨ a.2 - b.2 = 1 := by omega
      rcases this with h | h | h <;> rw [h] <;> simp
    · rw [List.any_eq_true]
      refine ⟨a.1 - b.1, ?_, ?_⟩
      · have : a.1 - b.1 = -1 ∨ a.1 - b.1 = 0 ∨ a.1 - b.1 = 1 := by omega
        rcases this with h | h | h <;> rw [h] <;> simp
      · rw [List.contains_iff_mem]
        have e : (b.1 + (a.1 - b.1), b.2 + (a.2 - b.2)) = a := Prod.ext (by show b.1 + (a.1 - b.1) = a.1; omega) (by show b.2 + (a.2 - b.2) = a.2; omega)
        rw [e]; exact ha
  · rintro ⟨y, hy, h⟩
    rw [List.any_eq_true] at h
    obtain ⟨x, hx, hc⟩ := h
    refine ⟨_, List.contains_iff_mem.1 hc, nearT_iff.2 ?_⟩
    have hy' : y = -1 ∨ y = 0 ∨ y = 1 := by simpa using hy
    have hx' : x = -1 ∨ x = 0 ∨ x = 1 := by simpa using hx
    show (-1 ≤ b.1 + x - b.1 ∧ b.1 + x - b.1 ≤ 1) ∧ (-1 ≤ b.2 + y - b.2 ∧ b.2 + y - b.2 ≤ 1)
    omega

/-- The first list of so many more tiles, from an index on, that touch none of those chosen. -/
def putT (ts : List (Int × Int)) : Nat → List (Int × Int) → Nat → Option (List (Int × Int))
  | 0, o, _ => some o
  | m + 1, o, f => (List.range' f (ts.length - f)).findSome? (fun i => if o.any (fun a => nearT a (ts.getD i (0, 0))) then none else putT ts m (o ++ [ts.getD i (0, 0)]) (i + 1))

/-- One index more. -/
theorem put_step {ts : List (Int × Int)} {f : Nat} {g : Nat → Option (List (Int × Int))} (h : f < ts.length) :
    (List.range' f (ts.length - f)).findSome? g = (match g f with | some r => some r | none => (List.range' (f + 1) (ts.length - (f + 1))).findSome? g) := by
  have e : ts.length - f = (ts.length - (f + 1)) + 1 := by omega
  rw [e, List.range'_succ, List.findSome?_cons]
  cases g f <;> rfl

theorem put_end {ts : List (Int × Int)} {g : Nat → Option (List (Int × Int))} : (List.range' ts.length (ts.length - ts.length)).findSome? g = none := by
  rw [Nat.sub_self]; rfl

end Go.Proofs.YtddnfbpgldchcaaDoor

namespace Go.Proofs.YtddnfbpgldchcaaDoor
open Go Go.RowKit Go.ChangeMaps Go.MapKept
open Go.Maps (Keyed)

section
variable {P : Program}

theorem wpList_mapUpdate_new {w : World} {ops : Array Oper} {rest : List Oper} {o : Oper} {a : Act} {Q : Exit → Act → World → Prop}
    (hg : o.guard = none) (m x v : Operand) (t : TypeId) (hop : o.op = Op.mapUpdate t m x v)
    (k e : TypeId) (K : Keyed P k) (ht : P.underlying t = some (.map k e)) (b : Nat) (es : Array MapEntry) (clock : Nat) (hb : w.heap[b]? = some (.map es clock))
    (hm : a.eval m = .map (some b)) (key val : Value) (hx : a.eval x = key) (hv : a.eval v = val) (hkey : ∃ l, keyOf P k key = some l)
    (hes : ∀ y ∈ es.toList, ∃ l, keyOf P k y.key = some l) (hne : ∀ y ∈ es.toList, y.key ≠ key)
    (h : wpList P ops Q rest (a.put o.dst undef) (setBlock w b (.map (es.push { key, val, born := clock }) (clock + 1)))) : wpList P ops Q (o :: rest) a w := by
  obtain ⟨kl, hkey⟩ := hkey
  refine wpList_plain hg fun K' hK' => ?_
  have h1 : (Instr.findKey k key es.toList).run P w = .ok none w := by
    rcases K.find w hkey es.toList hes with ⟨h1, _⟩ | ⟨j, e0, _, h2, h3⟩
    · exact h1
    · exact absurd h3 (hne _ (List.mem_of_getElem? h2))
  have hrun : (Instr.mapUpdate t (.map (some b)) key val).run P w = .ok () (setBlock w b (.map (es.push { key, val, born := clock }) (clock + 1))) := by
    simp [Instr.mapUpdate, run_underlying ht, MapKept.run_getObj_map hb, K.check w false hkey, h1, MapKept.run_setObj_map _ hb, Result.andThen, setBlock]
  unfold Oper.wp
  simp [execOp, hop, hm, hx, hv, hrun, Result.andThen]
  exact hK' _ _ h

theorem run_lookup_cases {w : World} {t k e : TypeId} (K : Keyed P k) (ht : P.underlying t = some (.map k e)) {b : Nat} {es : Array MapEntry} {clock : Nat} (hb : w.heap[b]? = some (.map es clock))
    {key : Value} (hkey : ∃ l, keyOf P k key = some l) (hes : ∀ y ∈ es.toList, ∃ l, keyOf P k y.key = some l) {z : Value} (hz : (zeroValue e).run P w = .ok z w) (c : Bool) :
    (∃ e0 ∈ es.toList, e0.key = key ∧ (Instr.lookup t (.map (some b)) key c).run P w = .ok (if c then .tuple #[e0.val, .bool true] else e0.val) w) ∨
    ((∀ y ∈ es.toList, y.key ≠ key) ∧ (Instr.lookup t (.map (some b)) key c).run P w = .ok (if c then .tuple #[z, .bool false] else z) w) := by
  obtain ⟨kl, hkey⟩ := hkey
  rcases K.find w hkey es.toList hes with ⟨h1, h2⟩ | ⟨j, e1, h1, h2, h3⟩
  · exact .inr ⟨h2, by simp [Instr.lookup, run_underlying ht, MapKept.run_getObj_map hb, K.check w _ hkey, h1, hz, Result.andThen]⟩
  · exact .inl ⟨e1, List.mem_of_getElem? h2, h3, by simp [Instr.lookup, run_underlying ht, MapKept.run_getObj_map hb, K.check w _ hkey, h1, Result.andThen]⟩

theorem wpList_lookup_run {w : World} {ops : Array Oper} {rest : List Oper} {o : Oper} {a : Act} {Q : Exit → Act → World → Prop}
    (hg : o.guard = none) (m x : Operand) (t : TypeId) (c : Bool) (hop : o.op = Op.lookup t m x c) (mv key val : Value) (hm : a.eval m = mv) (hx : a.eval x = key)
    (hrun : (Instr.lookup t mv key c).run P w = .ok val w) (h : wpList P ops Q rest (a.put o.dst val) w) : wpList P ops Q (o :: rest) a w := by
  refine wpList_plain hg fun K' hK' => ?_
  unfold Oper.wp
  simp [execOp, hop, hm, hx, hrun, Result.andThen]
  exact hK' _ _ h

theorem below_setBlock {B : Nat} {a w : World} (h : Below B a w) {b : Nat} {es : Array MapEntry} {clock : Nat} {o' : Obj} (hp : B ≤ b) (hb : w.heap[b]? = some (.map es clock)) : Below B a (setBlock w b o') :=
  ⟨h.os, h.tape, h.output, by simpa [setBlock] using h.size, fun k hk => (heap_setBlock_other hb _ (by omega)).trans (h.block k hk)⟩
end

end Go.Proofs.YtddnfbpgldchcaaDoor

namespace Go.Proofs.YtddnfbpgldchcaaDoor
open Go Go.RowKit Go.ChangeMaps Go.MapKept
open Go.Maps (Keyed)

/-- The entries of a map are the members of a list, in their order. -/
def TM (kv : Int × Int → Value) (o : List (Int × Int)) (es : Array MapEntry) : Prop := es.toList.map (fun y => (y.key, y.val)) = o.map (fun p => (kv p, Value.bool true))

theorem map_eraseIdxQ {α β : Type} (f : α → β) : ∀ (l : List α) (i : Nat), (l.eraseIdx i).map f = (l.map f).eraseIdx i
  | [], _ => by simp
  | a :: l, 0 => by simp
  | a :: l, i + 1 => by simp [map_eraseIdxQ f l i]

theorem tm_nil (kv : Int × Int → Value) : TM kv [] #[] := rfl

theorem tm_of {kv : Int × Int → Value} {o : List (Int × Int)} {es : Array MapEntry} (h : TM kv o es) {y : MapEntry} (hy : y ∈ es.toList) : ∃ p ∈ o, y.key = kv p ∧ y.val = .bool true := by
  have h1 : (y.key, y.val) ∈ es.toList.map (fun y => (y.key, y.val)) := List.mem_map.2 ⟨y, hy, rfl⟩
  rw [h] at h1
  obtain ⟨p, hp, e⟩ := List.mem_map.1 h1
  exact ⟨p, hp, (congrArg Prod.fst e).symm, (congrArg Prod.snd e).symm⟩

theorem tm_has {kv : Int × Int → Value} {o : List (Int × Int)} {es : Array MapEntry} (h : TM kv o es) {p : Int × Int} (hp : p ∈ o) : ∃ y ∈ es.toList, y.key = kv p := by
  have h1 : (kv p, Value.bool true) ∈ o.map (fun p => (kv p, Value.bool true)) := List.mem_map.2 ⟨p, hp, rfl⟩
  rw [← h] at h1
  obtain ⟨y, hy, e⟩ := List.mem_map.1 h1
  exact ⟨y, hy, congrArg Prod.fst e⟩

section
variable {P : Program}

theorem tm_look {w : World} {t k e : TypeId} (K : Keyed P k) (ht : P.underlying t = some (.map k e)) {b : Nat} {es : Array MapEntry} {clock : Nat} (hb : w.heap[b]? = some (.map es clock))
    {kv : Int × Int → Value} (hinj : ∀ p q, kv p = kv q → p = q) {o : List (Int × Int)} (h : TM kv o es) (hko : ∀ q ∈ o, ∃ l, keyOf P k (kv q) = some l) {p : Int × Int} (hkey : ∃ l, keyOf P k (kv p) = some l)
    (hz : (zeroValue e).run P w = .ok (.bool false) w) : (Instr.lookup t (.map (some b)) (kv p) false).run P w = .ok (.bool (o.contains p)) w := by
  have hes : ∀ y ∈ es.toList, ∃ l, keyOf P k y.key = some l := fun y hy => by obtain ⟨q, hq, e1, -⟩ := tm_of h hy; rw [e1]; exact hko q hq
  rcases run_lookup_cases K ht hb hkey hes hz false with ⟨y, hy, h1, h2⟩ | ⟨h1, h2⟩
  · obtain ⟨q, hq, e1, e2⟩ := tm_of h hy
    have e3 : q = p := hinj _ _ (e1.symm.trans h1)
    subst e3
    rw [h2, e2, List.contains_iff_mem.2 hq]
    rfl
  · have hn : ¬ p ∈ o := fun hp => by obtain ⟨y, hy, e1⟩ := tm_has h hp; exact h1 y hy e1
    rw [h2]
    have : o.contains p = false := by
      cases hc : o.contains p with
      | false => rfl
      | true => exact absurd (List.contains_iff_mem.1 hc) hn
    rw [this]
    rfl

theorem tm_put {w : World} {t k e : TypeId} (K : Keyed P k) (ht : P.underlying t = some (.map k e)) {b : Nat} {es : Array MapEntry} {clock : Nat} (hb : w.heap[b]? = some (.map es clock))
    {kv : Int × Int → Value} (hinj : ∀ p q, kv p = kv q → p = q) {o : List (Int × Int)} (h : TM kv o es) (hko : ∀ q ∈ o, ∃ l, keyOf P k (kv q) = some l) {p : Int × Int} (hkey : ∃ l, keyOf P k (kv p) = some l) (hp : ¬ p ∈ o) :
    ∃ es' clock', (Instr.mapUpdate t (.map (some b)) (kv p) (.bool true)).run P w = .ok () (setBlock w b (.map es' clock')) ∧ TM kv (o ++ [p]) es' := by
  have hes : ∀ y ∈ es.toList, ∃ l, keyOf P k y.key = some l := fun y hy => by obtain ⟨q, hq, e1, -⟩ := tm_of h hy; rw [e1]; exact hko q hq
  obtain ⟨kl, hkey⟩ := hkey
  rcases K.find w hkey es.toList hes with ⟨h1, _⟩ | ⟨j, e0, h1, h2, h3⟩
  · refine ⟨es.push { key := kv p, val := .bool true, born := clock }, clock + 1, ?_, ?_⟩
    · simp [Instr.mapUpdate, run_underlying ht, MapKept.run_getObj_map hb, K.check w false hkey, h1, MapKept.run_setObj_map _ hb, Result.andThen, setBlock]
    · unfold TM at h ⊢
      rw [Array.toList_push, List.map_append, List.map_append, h]
      rfl
  · exfalso
    obtain ⟨q, hq, e1, -⟩ := tm_of h (List.mem_of_getElem? h2)
    exact hp (by rw [← hinj _ _ (e1.symm.trans h3)]; exact hq)

theorem tm_del {w : World} {t k e : TypeId} (K : Keyed P k) (ht : P.underlying t = some (.map k e)) {b : Nat} {es : Array MapEntry} {clock : Nat} (hb : w.heap[b]? = some (.map es clock))
    {kv : Int × Int → Value} (hinj : ∀ p q, kv p = kv q → p = q) {o : List (Int × Int)} {p : Int × Int} (h : TM kv (o ++ [p]) es) (hko : ∀ q ∈ o, ∃ l, keyOf P k (kv q) = some l) (hkey : ∃ l, keyOf P k (kv p) = some l) (hp : ¬ p ∈ o) :
    ∃ es', (∀ ty, (Builtin.delete_ #[t, k] ty #[.map (some b), kv p]).run P w = .ok (.tuple #[]) (setBlock w b (.map es' clock))) ∧ TM kv o es' := by
  have hes : ∀ y ∈ es.toList, ∃ l, keyOf P k y.key = some l := fun y hy => by
    obtain ⟨q, hq, e1, -⟩ := tm_of h hy
    rw [e1]
    rcases List.mem_append.1 hq with hq | hq
    · exact hko q hq
    · rw [List.mem_singleton.1 hq]; exact hkey
  obtain ⟨kl, hkey⟩ := hkey
  rcases K.find w hkey es.toList hes with ⟨_, h2⟩ | ⟨j, e0, h1, h2, h3⟩
  · exfalso
    obtain ⟨y, hy, e1⟩ := tm_has h (p := p) (by simp)
    exact h2 y hy e1
  · have hjl : j < es.toList.length := (List.getElem?_eq_some_iff.1 h2).1
    have hjs : j < es.size := by simpa using hjl
    have hlen : es.toList.length = o.length + 1 := by
      have := congrArg List.length h
      simpa using this
    have hj : j = o.length := by
      by_cases c : j < o.length
      · exfalso
        have e1 : (es.toList.map (fun y => (y.key, y.val)))[j]? = some (e0.key, e0.val) := by rw [List.getElem?_map, h2]; rfl
        rw [h, List.getElem?_map, List.getElem?_append_left c, List.getElem?_eq_getElem c] at e1
        have e2 : kv o[j] = e0.key := congrArg Prod.fst (Option.some.inj e1)
        have e3 := hinj _ _ (e2.trans h3)
        exact hp (e3 ▸ List.getElem_mem c)
      · omega
    have hsub : (es.eraseIdxIfInBounds j).toList = es.toList.eraseIdx j := by
      unfold Array.eraseIdxIfInBounds
      rw [dif_pos hjs]
      simp
    refine ⟨es.eraseIdxIfInBounds j, fun ty => ?_, ?_⟩
    · simp [Builtin.delete_, run_underlying ht, MapKept.run_getObj_map hb, K.check w _ hkey, h1, MapKept.run_setObj_map _ hb, Result.andThen, setBlock]
    · unfold TM at h ⊢
      rw [hsub, hj, map_eraseIdxQ, h, List.map_append]
      have e4 : (o.map (fun p => (kv p, Value.bool true))).length = o.length := List.length_map _
      rw [List.eraseIdx_append_of_length_le (by rw [e4]; exact Nat.le_refl _), e4, Nat.sub_self]
      simp

/-- What a key of two whole numbers reads as. -/
theorem keyOf_two {k : TypeId} {f0 f1 : Field} {q0 q1 : IntKind} {a b : Int} (hu : P.underlying k = some (.struct #[f0, f1])) (ht : P.keyType k = true) (hf : Value.formed P k (.agg #[.int q0 a, .int q1 b]) = true)
    (hc : P.cellsOf k = 2) (o0 : f0.offset = 0) (o1 : f1.offset = 1) (u0 : P.underlying f0.type = some (.int q0)) (u1 : P.underlying f1.type = some (.int q1))
    (c0 : P.cellsOf f0.type = 1) (c1 : P.cellsOf f1.type = 1) (n0 : f0.name ≠ "_") (n1 : f1.name ≠ "_")
    (w0 : (Lit.int q0 a).wf = true) (w1 : (Lit.int q1 b).wf = true) (hs : 0 < P.types.size) : ∃ l, keyOf P k (.agg #[.int q0 a, .int q1 b]) = some l := by
  obtain ⟨d, hd⟩ : ∃ d, P.types.size = d + 1 := ⟨P.types.size - 1, by omega⟩
  unfold keyOf
  rw [hu]
  simp [ht, hf, Value.cells, Program.keyLits, hd, hu, u0, u1, hc, o0, o1, c0, c1, n0, n1, w0, w1]

theorem wpList_delete_run {w : World} {ops : Array Oper} {rest : List Oper} {o : Oper} {a : Act} {Q : Exit → Act → World → Prop}
    (hg : o.guard = none) (m x : Operand) (t k : TypeId) (hop : o.op = Op.call { callee := Callee.builtin Builtin.delete, args := #[m, x], argTypes := #[t, k] }) (mv key : Value) (hm : a.eval m = mv) (hx : a.eval x = key)
    {w' : World} (hrun : ∀ ty, (Builtin.delete_ #[t, k] ty #[mv, key]).run P w = .ok (.tuple #[]) w') (h : wpList P ops Q rest (a.put o.dst (.tuple #[])) w') : wpList P ops Q (o :: rest) a w := by
  refine wpList_plain hg fun K' hK' => ?_
  unfold Oper.wp
  simp [execOp, hop, resolve, invoke, builtin, hm, hx, hrun, Result.andThen]
  exact hK' _ _ h

theorem wpList_update_run {w : World} {ops : Array Oper} {rest : List Oper} {o : Oper} {a : Act} {Q : Exit → Act → World → Prop}
    (hg : o.guard = none) (m x v : Operand) (t : TypeId) (hop : o.op = Op.mapUpdate t m x v) (mv key val : Value) (hm : a.eval m = mv) (hx : a.eval x = key) (hv : a.eval v = val)
    {w' : World} (hrun : (Instr.mapUpdate t mv key val).run P w = .ok () w') (h : wpList P ops Q rest (a.put o.dst undef) w') : wpList P ops Q (o :: rest) a w := by
  refine wpList_plain hg fun K' hK' => ?_
  unfold Oper.wp
  simp [execOp, hop, hm, hx, hv, hrun, Result.andThen]
  exact hK' _ _ h
end

end Go.Proofs.YtddnfbpgldchcaaDoor

namespace Go.Proofs.YtddnfbpgldchcaaDoor
open Go Go.RowKit

theorem alloc_at (w : World) (o : Obj) (i : Nat) : (w.alloc o).heap[i]? = if i = w.heap.size then some o else w.heap[i]? := by
  show (w.heap.push o)[i]? = _
  exact Array.getElem?_push
theorem box2 (w : World) (a b : Obj) : ((w.alloc a).alloc b).heap[w.heap.size]? = some a ∧ ((w.alloc a).alloc b).heap[w.heap.size + 1]? = some b ∧ Below w.heap.size w ((w.alloc a).alloc b) := by
  refine ⟨?_, ?_, ((Below.refl _ _).alloc (Nat.le_refl _) _).alloc (by simp) _⟩
  all_goals simp only [alloc_at, World.size_alloc]
  · rw [if_neg (by omega), if_true]
  · rw [if_true]
theorem box3 (w : World) (a b c : Obj) : (((w.alloc a).alloc b).alloc c).heap[w.heap.size]? = some a ∧ (((w.alloc a).alloc b).alloc c).heap[w.heap.size + 1]? = some b ∧ (((w.alloc a).alloc b).alloc c).heap[w.heap.size + 1 + 1]? = some c ∧ Below w.heap.size w (((w.alloc a).alloc b).alloc c) := by
  refine ⟨?_, ?_, ?_, (((Below.refl _ _).alloc (Nat.le_refl _) _).alloc (by simp) _).alloc (by simp; omega) _⟩
  all_goals simp only [alloc_at, World.size_alloc]
  · rw [if_neg (by omega), if_neg (by omega), if_true]
  · rw [if_neg (by omega), if_true]
  · rw [if_true]
theorem box4 (w : World) (a b c d : Obj) : ((((w.alloc a).alloc b).alloc c).alloc d).heap[w.heap.size]? = some a ∧ ((((w.alloc a).alloc b).alloc c).alloc d).heap[w.heap.size + 1]? = some b ∧ ((((w.alloc a).alloc b).alloc c).alloc d).heap[w.heap.size + 1 + 1]? = some c ∧ ((((w.alloc a).alloc b).alloc c).alloc d).heap[w.heap.size + 1 + 1 + 1]? = some d ∧ Below w.heap.size w ((((w.alloc a).alloc b).alloc c).alloc d) := by
  refine ⟨?_, ?_, ?_, ?_, ((((Below.refl _ _).alloc (Nat.le_refl _) _).alloc (by simp) _).alloc (by simp; omega) _).alloc (by simp; omega) _⟩
  all_goals simp only [alloc_at, World.size_alloc]
  · rw [if_neg (by omega), if_neg (by omega), if_neg (by omega), if_true]
  · rw [if_neg (by omega), if_neg (by omega), if_true]
  · rw [if_neg (by omega), if_true]
  · rw [if_true]
theorem cell_belowB {W W' : World} (hb : Below W.heap.size W W') {a : Addr} {v : Value} (h : W.cell? a = some v) : W'.cell? a = some v :=
  (hb.cell (World.block_lt_of_cell? W a h)).trans h

theorem wpList_load_partG {P : Program} {ops : Array Oper} {rest : List Oper} {o : Oper} {a : Act} {w : World} {Q : Exit → Act → World → Prop} (ty : TypeId) (x : Operand) (ho : o.op = .load ty x)
    (g off n : Nat) (hx : a.eval x = .pointer (some ⟨g, off, none⟩)) (hw : Region.wanted o (yielded ops a.tmps) = true) (t : TypeId) (cs : Array Value) (fr : Nat × Nat) (d : TypeDesc) (hg : w.heap[g]? = some (.cells cs t fr))
    (hu : P.underlying ty = some d) (hd : (match d with | .struct _ | .array _ _ => true | _ => false) = true) (hi : (P.info? ty).map (·.size) = some n) (hn : off + n ≤ cs.size)
    (vs : Array Value) (hvs : cs.extract off (off + n) = vs) (h : wpList P ops Q rest (a.put o.dst (.agg vs)) w) : wpList P ops Q (o :: rest) a w := by
  subst hvs
  refine wpList_step fun K hK => ?_
  simp only [hw, if_true]
  unfold Oper.wp execOp
  simp only [ho, hx, Instr.loadAt, Instr.sureAddr, Sem.run_bind, Sem.run_pure, Result.andThen_ok, run_loadVar_part w g off n t ty cs fr d hg hu hd hi hn]
  exact hK _ _ h

end Go.Proofs.YtddnfbpgldchcaaDoor

namespace Go.Proofs.YtddnfbpgldchcaaDoor
open Go Go.RowKit Go.ChangeMaps Go.MapKept

/-- A tile as a value. -/
def kvT (p : Int × Int) : Value := .agg (tileC p.1 p.2)

theorem kvT_inj (p q : Int × Int) (h : kvT p = kvT q) : p = q := by
  simp only [kvT, tileC, Value.agg.injEq, Array.mk.injEq, List.cons.injEq, Value.int.injEq, true_and, and_true] at h
  exact Prod.ext h.1 h.2

/-- A tile of the greatest room. -/
def okT (p : Int × Int) : Prop := (0 ≤ p.1 ∧ p.1 ≤ 9) ∧ (0 ≤ p.2 ∧ p.2 ≤ 9)

set_option maxRecDepth 100000 in
theorem kT_law2 : Go.Maps.Keyed Tryd.prog 48 := Go.Maps.Keyed.of_law (deep_law_laid law_laidOut (m := 2) (by omega) (of_decide_eq_true (by kernel_rfl)) (by kernel_rfl) (by kernel_rfl))
theorem kT_zero (w : World) : (zeroValue 4).run Tryd.prog w = .ok (.bool false) w := by kernel_rfl
set_option maxRecDepth 100000 in
theorem kT_type : Tryd.prog.keyType 48 = true := by kernel_rfl
set_option maxRecDepth 100000 in
theorem kT_cells : Tryd.prog.cellsOf 48 = 2 := by kernel_rfl
set_option maxRecDepth 100000 in
theorem kT_formed (a b : Int) : Value.formed Tryd.prog 48 (.agg #[.int .i8 a, .int .i8 b]) = true := by kernel_rfl

set_option maxRecDepth 100000 in
theorem kT_key {p : Int × Int} (h : -1 ≤ p.1 ∧ p.1 ≤ 10 ∧ -1 ≤ p.2 ∧ p.2 ≤ 10) : ∃ l, keyOf Tryd.prog 48 (kvT p) = some l := by
  have w0 : (Lit.int .i8 p.1).wf = true := by simp [Lit.wf, IntKind.min, IntKind.max, IntKind.signed, IntKind.bits]; omega
  have w1 : (Lit.int .i8 p.2).wf = true := by simp [Lit.wf, IntKind.min, IntKind.max, IntKind.signed, IntKind.bits]; omega
  exact keyOf_two Tryd.underlying48 kT_type (kT_formed p.1 p.2) kT_cells rfl rfl Tryd.underlying22 Tryd.underlying22 (by kernel_rfl) (by kernel_rfl) (by decide) (by decide) w0 w1 (of_decide_eq_true (by kernel_rfl))

theorem kT_ok {p : Int × Int} (h : okT p) : ∃ l, keyOf Tryd.prog 48 (kvT p) = some l := kT_key (by obtain ⟨⟨a, b⟩, c, d⟩ := h; omega)

theorem nine_hit {o : List (Int × Int)} {p : Int × Int} {i j : Nat} (hi : i < 3) (hj : j < 3) (h : o.contains (p.1 - 1 + (i : Int), p.2 - 1 + (j : Int)) = true) : o.any (fun a => nearT a p) = true := by
  rw [List.any_eq_true]
  refine ⟨_, List.contains_iff_mem.1 h, nearT_iff.2 ?_⟩
  show (-1 ≤ p.1 - 1 + (i : Int) - p.1 ∧ p.1 - 1 + (i : Int) - p.1 ≤ 1) ∧ (-1 ≤ p.2 - 1 + (j : Int) - p.2 ∧ p.2 - 1 + (j : Int) - p.2 ≤ 1)
  omega

theorem nine_miss {o : List (Int × Int)} {p : Int × Int} (h : ∀ j, j < 3 → ∀ i, i < 3 → o.contains (p.1 - 1 + ((i : Nat) : Int), p.2 - 1 + ((j : Nat) : Int)) = false) : o.any (fun a => nearT a p) = false := by
  cases hc : o.any (fun a => nearT a p) with
  | false => rfl
  | true =>
    exfalso
    rw [List.any_eq_true] at hc
    obtain ⟨a, ha, hn⟩ := hc
    obtain ⟨⟨h1, h2⟩, h3, h4⟩ := nearT_iff.1 hn
    have hh := h (a.2 - p.2 + 1).toNat (by omega) (a.1 - p.1 + 1).toNat (by omega)
    have e : (p.1 - 1 + (((a.1 - p.1 + 1).toNat : Nat) : Int), p.2 - 1 + (((a.2 - p.2 + 1).toNat : Nat) : Int)) = a := Prod.ext (by show p.1 - 1 + (((a.1 - p.1 + 1).toNat : Nat) : Int) = a.1; omega) (by show p.2 - 1 + (((a.2 - p.2 + 1).toNat : Nat) : Int) = a.2; omega)
    rw [e, List.contains_iff_mem.2 ha] at hh
    cases hh

set_option maxRecDepth 100000 in
set_option maxHeartbeats 4000000 in
theorem touches_any (p : Int × Int) (hp : okT p) (o : List (Int × Int)) (ho : ∀ q ∈ o, okT q) (b : Nat) (es : Array MapEntry) (clock : Nat) (w : World) (hb : w.heap[b]? = some (.map es clock)) (h : TM kvT o es) :
    Calls Tryd.prog 40 #[.map (some b), .agg (tileC p.1 p.2)] w fun e w' => e = .returned (.bool (o.any (fun a => nearT a p))) ∧ Below w.heap.size w w' := by
  obtain ⟨⟨x0, x1⟩, y0, y1⟩ := hp
  have HBI : Hid (∀ x y : Int, Tryd.prog.built 48 [(0, .int .i8 x), (1, .int .i8 y)] = some (tileC x y)) := Lib.hid (fun x y => by kernel_rfl)
  have hbi := HBI.out
  have HL : Hid (∀ V : World, V.heap[b]? = some (.map es clock) → ∀ x y : Int, -1 ≤ x ∧ x ≤ 10 ∧ -1 ≤ y ∧ y ≤ 10 → (Instr.lookup 77 (.map (some b)) (.agg (tileC x y)) false).run Tryd.prog V = .ok (.bool (o.contains (x, y))) V) := Lib.hid (fun V hV x y hk => tm_look kT_law2 Tryd.underlying77 hV kvT_inj h (fun q hq => kT_ok (ho q hq)) (p := (x, y)) (kT_key hk) (kT_zero V))
  have HH := Lib.hid (fun i j (hi : i < 3) (hj : j < 3) => @nine_hit o p i j hi hj)
  have HMI := Lib.hid (@nine_miss o p)
  have HB := Lib.hid hb
  clear h ho hb
  obtain ⟨X, Y⟩ := p
  dsimp only at *
  have w1 := i8_small (X - 1) (by omega) (by omega)
  have w2 := i8_small (X + 1) (by omega) (by omega)
  have w3 := i8_small (Y - 1) (by omega) (by omega)
  have w4 := i8_small (Y + 1) (by omega) (by omega)
  go_enter Tryd.func40, Tryd.ntmps40
  go_upto_region 1 with (fail)
  refine abs_world (fun V => V.heap[w.heap.size]? = some (.cells (tileC X Y) 48 (0, 0)) ∧ Below w.heap.size w V) ⟨heap_alloc_new _ _, (Below.refl _ _).alloc (Nat.le_refl _) _⟩ ?_
  rintro V ⟨h0, hbv⟩
  have c0 : V.cell? ⟨w.heap.size, 0, none⟩ = some (.int .i8 X) := by rw [cell_of_row _ _ _ _ _ _ h0]; rfl
  have c1 : V.cell? ⟨w.heap.size, 1, none⟩ = some (.int .i8 Y) := by rw [cell_of_row _ _ _ _ _ _ h0]; rfl
  have HBV := Lib.hid (below_row hbv HB.out)
  have H0 := Lib.hid h0
  have HBW := Lib.hid hbv
  clear h0 HB hbv
  go_wp2
  go_loopw [5] (fun v V0 => ∃ j : Nat, j ≤ 3 ∧ v = .int .i8 (Y - 1 + (j : Int)) ∧ V0.heap[w.heap.size]? = some (.cells (tileC X Y) 48 (0, 0)) ∧ V0.heap[b]? = some (.map es clock) ∧ Below w.heap.size w V0 ∧ ∀ j', j' < j → ∀ i, i < 3 → o.contains (X - 1 + ((i : Nat) : Int), Y - 1 + ((j' : Nat) : Int)) = false) (fun v _ => (Y + 2 - intOf v).toNat)
  case atStart => exact ⟨0, Nat.zero_le _, by rw [Int.natCast_zero, Int.add_zero], H0.out, HBV.out, HBW.out, fun j' h => absurd h (Nat.not_lt_zero _)⟩
  case round =>
    clear H0 HBV HBW c0 c1
    obtain ⟨j, hj, rfl, h0, hbm, hbv, hmj⟩ := hrel
    have c0 : wr.cell? ⟨w.heap.size, 0, none⟩ = some (.int .i8 X) := by rw [cell_of_row _ _ _ _ _ _ h0]; rfl
    have c1 : wr.cell? ⟨w.heap.size, 1, none⟩ = some (.int .i8 Y) := by rw [cell_of_row _ _ _ _ _ _ h0]; rfl
    have H0 := Lib.hid h0
    have HBV := Lib.hid hbm
    have HBW := Lib.hid hbv
    have HMJ := Lib.hid hmj
    clear hmj h0 hbm hbv
    by_cases hlt : j < 3
    · have z1 : Y - 1 + (j : Int) ≤ Y + 1 := by omega
      have w5 := i8_small (Y - 1 + (j : Int) + 1) (by omega) (by omega)
      go_wp2
      go_loopw [6] (fun v V0 => ∃ i : Nat, i ≤ 3 ∧ v = .int .i8 (X - 1 + (i : Int)) ∧ V0.heap[w.heap.size]? = some (.cells (tileC X Y) 48 (0, 0)) ∧ V0.heap[b]? = some (.map es clock) ∧ Below w.heap.size w V0 ∧ ∀ i', i' < i → o.contains (X - 1 + ((i' : Nat) : Int), Y - 1 + (j : Int)) = false) (fun v _ => (X + 2 - intOf v).toNat)
      case atStart => exact ⟨0, Nat.zero_le _, by rw [Int.natCast_zero, Int.add_zero], H0.out, HBV.out, HBW.out, fun i' h => absurd h (Nat.not_lt_zero _)⟩
      case round =>
        clear H0 HBV HBW c0 c1
        obtain ⟨i, hi, rfl, h0, hbm, hbv, hmi⟩ := hrel
        have c0 : wr.cell? ⟨w.heap.size, 0, none⟩ = some (.int .i8 X) := by rw [cell_of_row _ _ _ _ _ _ h0]; rfl
        have c1 : wr.cell? ⟨w.heap.size, 1, none⟩ = some (.int .i8 Y) := by rw [cell_of_row _ _ _ _ _ _ h0]; rfl
        have H0 := Lib.hid h0
        have HBV := Lib.hid hbm
        have HBW := Lib.hid hbv
        have HMX := Lib.hid hmi
        clear hmi h0 hbm hbv
        by_cases hlx : i < 3
        · have z2 : X - 1 + (i : Int) ≤ X + 1 := by omega
          have w6 := i8_small (X - 1 + (i : Int) + 1) (by omega) (by omega)
          have HLK := Lib.hid (HL.out _ HBV.out (X - 1 + (i : Int)) (Y - 1 + (j : Int)) (by omega))
          have HHX := Lib.hid (HH.out i j hlx hlt)
          cases hc : o.contains (X - 1 + (i : Int), Y - 1 + (j : Int)) with
          | true =>
            rw [hc] at HLK HHX
            have ha := HHX.out rfl
            go_wp2_with (at_lookup; refine wpList_lookup_run rfl _ _ _ _ rfl _ _ _ rfl rfl HLK.out ?_)
            go_ret
            exact ⟨by first | rfl | (rw [ha]; rfl), HBW.out⟩
          | false =>
            rw [hc] at HLK
            go_wp2_with (at_lookup; refine wpList_lookup_run rfl _ _ _ _ rfl _ _ _ rfl rfl HLK.out ?_)
            go_roundw
            case rel => exact ⟨i + 1, by omega, by rw [Int.natCast_add, Int.natCast_one, Int.add_assoc], H0.out, HBV.out, HBW.out, fun i' hi' => by
              by_cases e : i' = i
              · rw [e]; exact hc
              · exact HMX.out i' (by omega)⟩
            case measure => simp [intOf]; omega
        · obtain rfl : i = 3 := by omega
          have z2 : ¬ (X - 1 + ((3 : Nat) : Int) ≤ X + 1) := by omega
          have z3 : decide (X - 1 + ((3 : Nat) : Int) ≤ X + 1) = false := decide_eq_false z2
          go_wp2
          go_roundw
          case rel => exact ⟨j + 1, by omega, by rw [Int.natCast_add, Int.natCast_one, Int.add_assoc], H0.out, HBV.out, HBW.out, fun j' hj' => by
            by_cases e : j' = j
            · rw [e]; exact HMX.out
            · exact HMJ.out j' (by omega)⟩
          case measure => simp [intOf]; omega
    · obtain rfl : j = 3 := by omega
      have z2 : ¬ (Y - 1 + ((3 : Nat) : Int) ≤ Y + 1) := by omega
      have z3 : decide (Y - 1 + ((3 : Nat) : Int) ≤ Y + 1) = false := decide_eq_false z2
      have ha := HMI.out HMJ.out
      go_wp2
      go_ret
      exact ⟨by first | rfl | (rw [ha]; rfl), HBW.out⟩

end Go.Proofs.YtddnfbpgldchcaaDoor

namespace Go.Proofs.YtddnfbpgldchcaaDoor
open Go.RowKit

/-- A slice of the call's own, from block number base on, that holds the elements xs. -/
def Own {α : Type} (w : World) (base : Nat) (E : TypeId) (mk : α → Value) (v : Value) (xs : List α) : Prop :=
  ∃ a cap, v = .slice a xs.length cap ∧ cap ≤ maxLen ∧ xs.length ≤ cap ∧
    ((a = none ∧ xs = []) ∨ ∃ g cur, a = some ⟨g, 0, none⟩ ∧ base ≤ g ∧ w.heap[g]? = some (.cells cur E (0, 0)) ∧ ∀ k, k < xs.length → cur[k]? = (xs[k]?).map mk)

theorem own_below {α : Type} {w w' : World} {base B : Nat} {E : TypeId} {mk : α → Value} {v : Value} {xs : List α} (h : Own w base E mk v xs) (hb : Below w.heap.size w w') (hB : B ≤ base) : Own w' B E mk v xs := by
  obtain ⟨a, cap, h1, h2, h3, h4⟩ := h
  refine ⟨a, cap, h1, h2, h3, h4.imp id ?_⟩
  rintro ⟨g, cur, e, hg, hc, hk⟩
  exact ⟨g, cur, e, by omega, below_row hb hc, hk⟩

/-- The block of a list that is not empty. -/
theorem own_get {α : Type} {w : World} {base : Nat} {E : TypeId} {mk : α → Value} {a : Option Addr} {n cap : Nat} {xs : List α} (h : Own w base E mk (.slice a n cap) xs) (k : Nat) (hk : k < n) :
    ∃ g cur, a = some ⟨g, 0, none⟩ ∧ base ≤ g ∧ w.heap[g]? = some (.cells cur E (0, 0)) ∧ n ≤ cap ∧ cap ≤ maxLen ∧ ∃ x, xs[k]? = some x ∧ cur[k]? = some (mk x) := by
  obtain ⟨a', cap', h1, h2, h3, h4⟩ := h
  injection h1 with e1 e2 e3
  subst e1 e3
  rcases h4 with ⟨_, rfl⟩ | ⟨g, cur, e, hg, hc, hx⟩
  · simp at e2; omega
  · have h5 := hx k (by omega)
    rw [List.getElem?_eq_getElem (by omega)] at h5
    exact ⟨g, cur, e, hg, hc, by omega, h2, _, List.getElem?_eq_getElem (by omega), h5⟩

theorem own_len {α : Type} {w : World} {base : Nat} {E : TypeId} {mk : α → Value} {v : Value} {xs : List α} (h : Own w base E mk v xs) : ∃ a cap, v = .slice a xs.length cap ∧ xs.length ≤ maxLen := by
  obtain ⟨a, cap, h1, h2, h3, h4⟩ := h
  exact ⟨a, cap, h1, by omega⟩

theorem cell_k {w : World} {g : Nat} {cur : Array Value} {E : TypeId} {fr : Nat × Nat} {k : Nat} {v : Value} (hc : w.heap[g]? = some (.cells cur E fr)) (hk : cur[k]? = some v) : w.cell? ⟨g, k, none⟩ = some v := by
  rw [cell_of_row w g k cur E fr hc, hk]

/-- The numbers that the helpers write. -/
def marks (k : Int) (n : Nat) : List Int := (List.range n).map (fun i : Nat => k + (i : Int))

theorem marks_len (k : Int) (n : Nat) : (marks k n).length = n := by simp [marks]

theorem marks_get (k : Int) (n i : Nat) (h : i < n) : (marks k n)[i]? = some (k + (i : Int)) := by simp [marks, h]

/-- What writing into a list does: it holds other elements, and all else is as it was. -/
def Marked (w : World) (E : TypeId) (b : Nat) (v : Value) (m : Int) (n : Nat) (e : Ending) (w' : World) : Prop :=
  e = .returned (.int .i64 (m + n)) ∧ Own w' b E (Value.int .i64) v (marks m n) ∧ Below b w w' ∧ ∀ k o, w.heap[k]? = some o → (∀ g n c, v = .slice (some ⟨g, 0, none⟩) n c → k ≠ g) → w'.heap[k]? = some o

end Go.Proofs.YtddnfbpgldchcaaDoor

namespace Go.Proofs.YtddnfbpgldchcaaDoor
open Go.ChangeShapes Go.WideShapes Go.ChangeAt Go.RowKit Go.Deep Go.Joins Go.ChangeMaps

attribute [local go_sem] run_store_f

/-- Tiles, one after the other, as cells. -/
def tlV (ts : List (Int × Int)) : List Value := ts.flatMap (fun p => [.int .i8 p.1, .int .i8 p.2])

theorem tlV_len (ts : List (Int × Int)) : (tlV ts).length = ts.length * 2 := by
  induction ts with
  | nil => rfl
  | cons p ts ih => rw [tlV, List.flatMap_cons, List.length_append]; show 2 + (tlV ts).length = _; rw [ih, List.length_cons]; omega

theorem tlV_snoc (ts : List (Int × Int)) (p : Int × Int) : tlV (ts ++ [p]) = tlV ts ++ [.int .i8 p.1, .int .i8 p.2] := by
  rw [tlV, List.flatMap_append]; rfl

theorem tlV_drop (ts : List (Int × Int)) (k : Nat) (p : Int × Int) (h : ts[k]? = some p) : ((tlV ts).drop (k * 2)).take 2 = [.int .i8 p.1, .int .i8 p.2] := by
  induction ts generalizing k with
  | nil => simp at h
  | cons q ts ih =>
    cases k with
    | zero =>
      simp at h; subst h
      rfl
    | succ k =>
      have e : (k + 1) * 2 = k * 2 + 2 := by omega
      rw [e]
      simpa [tlV] using ih k (by simpa using h)

/-- A tile of a list of one's own. -/
theorem tl_get {V : World} {base : Nat} {v : Value} {ts : List (Int × Int)} (h : V.ownsRow base 48 2 v ts.length (tlV ts)) {k : Nat} {p : Int × Int} (hk : ts[k]? = some p) :
    ∃ g cap cur, v = .slice (some ⟨g, 0, none⟩) ts.length cap ∧ base ≤ g ∧ V.heap[g]? = some (.cells cur 48 (0, 0)) ∧ k * 2 + 2 ≤ cur.size ∧ cur.extract (k * 2) (k * 2 + 2) = tileC p.1 p.2 := by
  have hlt := (List.getElem?_eq_some_iff.1 hk).1
  rcases h.2 with ⟨-, hz⟩ | ⟨g, cap, cur, rfl, hbg, hg, hnc, hcm, hsz, htk⟩
  · omega
  · refine ⟨g, cap, cur, rfl, hbg, hg, by omega, ?_⟩
    apply Array.ext'
    have h1 : (cur.extract (k * 2) (k * 2 + 2)).toList = (cur.toList.drop (k * 2)).take 2 := by
      rw [Array.toList_extract, List.extract_eq_take_drop]
      congr 1
      omega
    have h2 := tlV_drop ts k p hk
    rw [← htk, List.drop_take, List.take_take, Nat.min_eq_left (by omega)] at h2
    rw [h1, h2]
    rfl

/-- What the search keeps: how many desks there are to be, the bright tiles, those placed so far, the map of them, itself. -/
structure QS (W0 : World) (D : Nat) (od : Obj) (n : Nat) (g5 g8 gt g10 gm g11 g12 : Nat) (bv : Value) (ts : List (Int × Int)) (fv : Value) (o : List (Int × Int)) (V : World) : Prop where
  h5 : V.heap[g5]? = some (.cells #[.int .i64 (n : Int)] 3 (0, 0))
  h8 : V.heap[g8]? = some (.cells #[bv] 28 (0, 0))
  hbr : V.ownsRow W0.heap.size 48 2 bv ts.length (tlV ts)
  hlt : ∀ j, bv.ownBlock = some j → j < gt
  ht : ∃ (cur : Array Value) (rest : List Value), V.heap[gt]? = some (.cells cur 48 (0, 0)) ∧ cur.toList = tlV o ++ rest ∧ cur.size = n * 2
  h10 : V.heap[g10]? = some (.cells #[.slice (some ⟨gt, 0, none⟩) n n] 28 (0, 0))
  hm : ∃ es clock, V.heap[gm]? = some (.map es clock) ∧ TM kvT o es
  h11 : V.heap[g11]? = some (.cells #[.map (some gm)] 77 (0, 0))
  h12 : V.heap[g12]? = some (.cells #[fv] 78 (0, 0))
  hb : Below W0.heap.size W0 V
  b0 : W0.heap.size ≤ g5
  l0 : g5 < g8
  l1 : g8 < gt
  l2 : gt < g10
  l3 : g10 < gm
  l4 : gm < g11
  l5 : g11 < g12
  hD : V.heap[D]? = some od
  lD : D < gt

section
variable {W0 : World} {D : Nat} {od : Obj} {n g5 g8 gt g10 gm g11 g12 : Nat} {bv fv : Value} {ts o : List (Int × Int)}

theorem QS.below {V V' : World} (h : QS W0 D od n g5 g8 gt g10 gm g11 g12 bv ts fv o V) (hb : Below V.heap.size V V') : QS W0 D od n g5 g8 gt g10 gm g11 g12 bv ts fv o V' := by
  obtain ⟨cur, rest, h2, h3, h4⟩ := h.ht
  obtain ⟨es, ck, k1, k2⟩ := h.hm
  exact ⟨below_row hb h.h5, below_row hb h.h8, owns_bE h.hbr hb, h.hlt, ⟨cur, rest, below_row hb h2, h3, h4⟩, below_row hb h.h10, ⟨es, ck, below_row hb k1, k2⟩, below_row hb h.h11, below_row hb h.h12, h.hb.trans (hb.mono h.hb.size), h.b0, h.l0, h.l1, h.l2, h.l3, h.l4, h.l5, below_row hb h.hD, h.lD⟩

theorem QS.cells {V : World} (h : QS W0 D od n g5 g8 gt g10 gm g11 g12 bv ts fv o V) : V.cell? ⟨g5, 0, none⟩ = some (.int .i64 (n : Int)) ∧ V.cell? ⟨g8, 0, none⟩ = some bv ∧ V.cell? ⟨g10, 0, none⟩ = some (.slice (some ⟨gt, 0, none⟩) n n) ∧ V.cell? ⟨g11, 0, none⟩ = some (.map (some gm)) ∧ V.cell? ⟨g12, 0, none⟩ = some fv :=
  ⟨cell_k (k := 0) h.h5 rfl, cell_k (k := 0) h.h8 rfl, cell_k (k := 0) h.h10 rfl, cell_k (k := 0) h.h11 rfl, cell_k (k := 0) h.h12 rfl⟩

/-- Rows of which the search writes none. -/
structure SL (g8 gb gt g10 gm g11 : Nat) (bv : Value) (cur : Array Value) (n : Nat) (X : World) : Prop where
  h8 : X.heap[g8]? = some (.cells #[bv] 28 (0, 0))
  hr : X.heap[gb]? = some (.cells cur 48 (0, 0))
  h10 : X.heap[g10]? = some (.cells #[.slice (some ⟨gt, 0, none⟩) n n] 28 (0, 0))
  h11 : X.heap[g11]? = some (.cells #[.map (some gm)] 77 (0, 0))

/-- A tile is written. -/
theorem QS.tile {V : World} {p : Int × Int} {cur : Array Value} {rest : List Value} (h : QS W0 D od n g5 g8 gt g10 gm g11 g12 bv ts fv o V) (hl : o.length < n) (h2 : V.heap[gt]? = some (.cells cur 48 (0, 0))) (h3 : cur.toList = tlV o ++ rest) (h4 : cur.size = n * 2) :
    QS W0 D od n g5 g8 gt g10 gm g11 g12 bv ts fv o (V.setRow gt (cur.toList.take (o.length * 2) ++ (tileC p.1 p.2).toList ++ cur.toList.drop (o.length * 2 + 2)).toArray) ∧
    ∃ (cur2 : Array Value) (rest2 : List Value), (V.setRow gt (cur.toList.take (o.length * 2) ++ (tileC p.1 p.2).toList ++ cur.toList.drop (o.length * 2 + 2)).toArray).heap[gt]? = some (.cells cur2 48 (0, 0)) ∧ cur2.toList = tlV (o ++ [p]) ++ rest2 ∧ cur2.size = n * 2 := by
  obtain ⟨b0, l0, l1, l2, l3, l4, l5⟩ := And.intro h.b0 (And.intro h.l0 (And.intro h.l1 (And.intro h.l2 (And.intro h.l3 (And.intro h.l4 h.l5)))))
  have hlo := tlV_len o
  have hlen : cur.toList.length = n * 2 := by rw [← h4]; rfl
  have hrest : rest.length = n * 2 - o.length * 2 := by
    have := congrArg List.length h3
    rw [List.length_append, hlo, hlen] at this
    omega
  have e1 : cur.toList.take (o.length * 2) = tlV o := by rw [h3, List.take_left' hlo]
  have e2 : cur.toList.drop (o.length * 2 + 2) = rest.drop 2 := by rw [h3, ← hlo, List.drop_append]; simp
  have e3 : (tileC p.1 p.2).toList = [.int .i8 p.1, .int .i8 p.2] := rfl
  rw [e1, e2, e3]
  have hrow := setRow_heap V gt cur (tlV o ++ [Value.int .i8 p.1, Value.int .i8 p.2] ++ rest.drop 2).toArray _ _ h2
  have hsz : (tlV o ++ [Value.int .i8 p.1, Value.int .i8 p.2] ++ rest.drop 2).toArray.size = n * 2 := by
    rw [List.size_toArray, List.length_append, List.length_append, hlo, List.length_drop, hrest]
    show o.length * 2 + 2 + (n * 2 - o.length * 2 - 2) = n * 2
    omega
  have O : ∀ {g : Nat} {ob : Obj}, V.heap[g]? = some ob → g ≠ gt → (V.setRow gt (tlV o ++ [Value.int .i8 p.1, Value.int .i8 p.2] ++ rest.drop 2).toArray).heap[g]? = some ob := fun hh hn => (setRow_other _ _ _ _ hn).trans hh
  obtain ⟨es, ck, k1, k2⟩ := h.hm
  refine ⟨⟨O h.h5 (by omega), O h.h8 (by omega), ?_, h.hlt, ⟨_, [.int .i8 p.1, .int .i8 p.2] ++ rest.drop 2, hrow, by simp, hsz⟩, O h.h10 (by omega), ⟨es, ck, O k1 (by omega), k2⟩, O h.h11 (by omega), O h.h12 (by omega), below_setRow h.hb (by omega) _, b0, l0, l1, l2, l3, l4, l5, O h.hD (by have := h.lD; omega), h.lD⟩, ⟨_, rest.drop 2, hrow, by rw [tlV_snoc], hsz⟩⟩
  refine ⟨h.hbr.1, h.hbr.2.imp id ?_⟩
  rintro ⟨g, cap, cu, e, hg, hc, hk⟩
  exact ⟨g, cap, cu, e, hg, O hc (by have := h.hlt g (by rw [e]; rfl); omega), hk⟩

/-- The map is written: a tile more. -/
theorem QS.more {V : World} {p : Int × Int} {es es' : Array MapEntry} {ck ck' : Nat} (h : QS W0 D od n g5 g8 gt g10 gm g11 g12 bv ts fv o V) (hq : ∃ (cur2 : Array Value) (rest2 : List Value), V.heap[gt]? = some (.cells cur2 48 (0, 0)) ∧ cur2.toList = tlV (o ++ [p]) ++ rest2 ∧ cur2.size = n * 2) (hmm : V.heap[gm]? = some (.map es ck)) (hm2 : TM kvT (o ++ [p]) es') :
    QS W0 D od n g5 g8 gt g10 gm g11 g12 bv ts fv (o ++ [p]) (Go.ChangeMaps.setBlock V gm (.map es' ck')) := by
  obtain ⟨b0, l0, l1, l2, l3, l4, l5⟩ := And.intro h.b0 (And.intro h.l0 (And.intro h.l1 (And.intro h.l2 (And.intro h.l3 (And.intro h.l4 h.l5)))))
  have O : ∀ {g : Nat} {ob : Obj}, V.heap[g]? = some ob → g ≠ gm → (Go.ChangeMaps.setBlock V gm (.map es' ck')).heap[g]? = some ob := fun hh hn => (heap_setBlock_other hmm _ hn).trans hh
  obtain ⟨cur, rest, h2, h3, h4⟩ := hq
  refine ⟨O h.h5 (by omega), O h.h8 (by omega), ?_, h.hlt, ⟨cur, rest, O h2 (by omega), h3, h4⟩, O h.h10 (by omega), ⟨es', ck', heap_setBlock_same hmm _, hm2⟩, O h.h11 (by omega), O h.h12 (by omega), below_setBlock h.hb (by omega) hmm, b0, l0, l1, l2, l3, l4, l5, O h.hD (by have := h.lD; omega), h.lD⟩
  refine ⟨h.hbr.1, h.hbr.2.imp id ?_⟩
  rintro ⟨g, cap, cu, e, hg, hc, hk⟩
  exact ⟨g, cap, cu, e, hg, O hc (by have := h.hlt g (by rw [e]; rfl); omega), hk⟩

/-- The map is written: a tile less. -/
theorem QS.less {V : World} {p : Int × Int} {es es' : Array MapEntry} {ck ck' : Nat} (h : QS W0 D od n g5 g8 gt g10 gm g11 g12 bv ts fv (o ++ [p]) V) (hmm : V.heap[gm]? = some (.map es ck)) (hm2 : TM kvT o es') :
    QS W0 D od n g5 g8 gt g10 gm g11 g12 bv ts fv o (Go.ChangeMaps.setBlock V gm (.map es' ck')) := by
  obtain ⟨b0, l0, l1, l2, l3, l4, l5⟩ := And.intro h.b0 (And.intro h.l0 (And.intro h.l1 (And.intro h.l2 (And.intro h.l3 (And.intro h.l4 h.l5)))))
  have O : ∀ {g : Nat} {ob : Obj}, V.heap[g]? = some ob → g ≠ gm → (Go.ChangeMaps.setBlock V gm (.map es' ck')).heap[g]? = some ob := fun hh hn => (heap_setBlock_other hmm _ hn).trans hh
  obtain ⟨cur, rest, h2, h3, h4⟩ := h.ht
  refine ⟨O h.h5 (by omega), O h.h8 (by omega), ?_, h.hlt, ⟨cur, [.int .i8 p.1, .int .i8 p.2] ++ rest, O h2 (by omega), by rw [h3, tlV_snoc, List.append_assoc], h4⟩, O h.h10 (by omega), ⟨es', ck', heap_setBlock_same hmm _, hm2⟩, O h.h11 (by omega), O h.h12 (by omega), below_setBlock h.hb (by omega) hmm, b0, l0, l1, l2, l3, l4, l5, O h.hD (by have := h.lD; omega), h.lD⟩
  refine ⟨h.hbr.1, h.hbr.2.imp id ?_⟩
  rintro ⟨g, cap, cu, e, hg, hc, hk⟩
  exact ⟨g, cap, cu, e, hg, O hc (by have := h.hlt g (by rw [e]; rfl); omega), hk⟩
end

end Go.Proofs.YtddnfbpgldchcaaDoor

namespace Go.Proofs.YtddnfbpgldchcaaDoor
open Go.RowKit

attribute [local go_sem] run_store_f

theorem wpList_buildRR {P : Program} {ops : Array Oper} {rest : List Oper} {o : Oper} {a : Act} {w : World} {Q : Exit → Act → World → Prop} (hg : o.guard = none) (t : TypeId) (parts : Array (Nat × Operand)) (ho : o.op = .build t parts)
    (d : Option Tmp) (hd : o.dst = d) (l : List (Nat × Value)) (hp : parts.toList.map (fun x => (x.1, a.eval x.2)) = l) (cells : Array Value) (hf : P.built t l = some cells)
    (h : wpList P ops Q rest (a.put d (.agg cells)) w) : wpList P ops Q (o :: rest) a w := by
  refine wpList_buildTo hg t parts ho d hd cells ?_ h
  rw [Array.toList_map, ← hf, ← hp]

theorem built_room (a b : Int) (v : Option Addr) (n c : Nat) : Tryd.prog.built 33 [(0, .int .i8 a), (1, .int .i8 b), (2, .slice v n c)] = some (roomC a b (.slice v n c)) := by kernel_rfl

theorem built_room0 : Tryd.prog.built 33 [] = some (roomC 0 0 (.slice none 0 0)) := by kernel_rfl

theorem room_oneS (wd hg : Int) (a : Option Addr) (n c : Nat) : ∀ u ∈ roomC wd hg (.slice a n c), u.oneCell' = true := by
  intro u hu
  simp only [roomC, List.mem_toArray, List.mem_cons, List.not_mem_nil, or_false] at hu
  rcases hu with rfl | rfl | rfl <;> rfl

theorem rwZ (V : World) (o : Obj) (cs : Array Value) : Below V.heap.size V ((V.alloc o).setRow V.heap.size cs) := below_setRow ((Below.refl _ _).alloc (Nat.le_refl _) _) (Nat.le_refl _) _

end Go.Proofs.YtddnfbpgldchcaaDoor

namespace Go.Proofs.YtddnfbpgldchcaaDoor
open Go.ChangeShapes Go.WideShapes Go.ChangeAt Go.RowKit Go.Deep Go.Joins

attribute [local go_sem] run_store_f

/-- Windows that lie at the head of a block of the call's own. -/
def OwnV (w : World) (b : Nat) (v : Value) (ws : List Wn) : Prop :=
  ∃ g cap cur, v = .slice (some ⟨g, 0, none⟩) ws.length cap ∧ b ≤ g ∧ w.heap[g]? = some (.cells cur 68 (0, 0)) ∧ ws.length ≤ cap ∧ cap ≤ maxLen ∧ ws.length * 3 ≤ cur.size ∧ ∀ k x, ws[k]? = some x → cur.extract (k * 3) (k * 3 + 3) = winC x

theorem ownV_below {w w' : World} {b B : Nat} {v : Value} {ws : List Wn} (h : OwnV w b v ws) (hb : Below w.heap.size w w') (hB : B ≤ b) : OwnV w' B v ws := by
  obtain ⟨g, cap, cur, h1, h2, h3, h4, h5, h6, h7⟩ := h
  exact ⟨g, cap, cur, h1, by omega, below_row hb h3, h4, h5, h6, h7⟩

theorem ownV_at {w : World} {b : Nat} {v : Value} {ws : List Wn} (h : OwnV w b v ws) : WinsAt w v ws := by
  obtain ⟨g, cap, cur, rfl, h2, h3, h4, h5, h6, h7⟩ := h
  refine ⟨_, _, rfl, h4, h5, fun k x hx => ⟨g, 0, rfl, ?_, ?_, ?_⟩⟩
  all_goals
    have hk : k < ws.length := (List.getElem?_eq_some_iff.1 hx).1
    have he := h7 k x hx
    rw [cell_of_row w _ _ _ _ _ h3]
  · have : (cur.extract (k * 3) (k * 3 + 3))[0]? = some (.int .i8 x.1) := by rw [he]; rfl
    rw [Array.getElem?_extract] at this
    split at this
    · simpa using this
    · cases this
  · have : (cur.extract (k * 3) (k * 3 + 3))[1]? = some (.int .i8 x.2.1) := by rw [he]; rfl
    rw [Array.getElem?_extract] at this
    split at this
    · simpa using this
    · cases this
  · have : (cur.extract (k * 3) (k * 3 + 3))[2]? = some (.float .f32 x.2.2) := by rw [he]; rfl
    rw [Array.getElem?_extract] at this
    split at this
    · simpa using this
    · cases this

theorem cur_one {ws : List Wn} {cur : Array Value} (hs : cur.size = ws.length * 3) (h : ∀ k x, ws[k]? = some x → cur.extract (k * 3) (k * 3 + 3) = winC x) : ∀ u ∈ cur.toList, u.oneCell' = true := by
  intro u hu
  obtain ⟨j, hj⟩ := List.mem_iff_getElem?.1 hu
  rw [Array.getElem?_toList] at hj
  have hjl := (Array.getElem?_eq_some_iff.1 hj).1
  have hk : j / 3 < ws.length := by omega
  have hx : ws[j / 3]? = some (ws[j / 3]'hk) := List.getElem?_eq_getElem _
  have he := h _ _ hx
  have hm : (cur.extract (j / 3 * 3) (j / 3 * 3 + 3))[j % 3]? = some u := by
    rw [Array.getElem?_extract, if_pos (by omega)]
    rw [show j / 3 * 3 + j % 3 = j from by omega]
    exact hj
  rw [he] at hm
  exact win_one _ u (Array.mem_of_getElem? hm)

theorem run_store_rowR {P : Program} (w : World) (g : Nat) (t : TypeId) (vs old : Array Value) (hg : w.heap[g]? = some (.cells old t (0, 0))) (hs : old.size = vs.size) (h1 : ∀ v ∈ vs, v.oneCell' = true) :
    (storeCells ⟨g, 0, none⟩ vs.toList).run P w = .ok () (w.setRow g vs) := by
  have hst := run_storeCells_at P g 0 t vs.toList 0 old w hg (by simp; omega) (fun v hv => h1 v (by simpa using hv))
  have hl := laid_allr old vs hs
  unfold laid at hl
  simp only [Nat.add_zero] at hst
  rw [hst]
  simp at hl ⊢
  rw [hl]

theorem infoW3 : (Tryd.prog.info? 68).map (fun i => (i.zero, i.size, i.bytes)) = some (some (.agg #[.int .i8 0, .int .i8 0, .float .f32 0]), 3, 8) := by kernel_rfl

end Go.Proofs.YtddnfbpgldchcaaDoor

namespace Go.Proofs.YtddnfbpgldchcaaDoor
open Go.ChangeShapes Go.WideShapes Go.ChangeAt Go.RowKit Go.Deep Go.Joins

theorem run_store_flR (P : Program) (w : World) (a : Addr) (k : FloatKind) (b : Nat) (m : Mode) : (store a (.float k b) m).run P w = stored P w a (.float k b) m := run_store P w a _ m rfl

attribute [local go_sem] run_store_f run_store_flR

theorem mark_num_natR : ∀ n : Nat, n < 601 → floatOfInt .f32 (n : Int) < 2139095040 := by decide +kernel

theorem mark_orderR (j : Int) (h0 : 0 ≤ j) (h1 : j ≤ 600) : FloatKind.f32.format.order (floatOfInt .f32 j) (floatOfInt .f32 j) = some .eq := by
  obtain ⟨n, rfl⟩ := Int.eq_ofNat_of_zero_le h0
  have h := mark_num_natR n (by omega)
  rw [order_num (.inl h) (.inl h)]
  simp

theorem cell_kR {W : World} {g k : Nat} {cur : Array Value} {T : TypeId} {x : Value} (hg : W.heap[g]? = some (.cells cur T (0, 0))) (hk : cur[k]? = some x) : W.cell? ⟨g, k, none⟩ = some x := by
  rw [cell_of_row W _ _ _ _ _ hg]; exact hk

theorem sgo {cur : Array Value} {i j : Nat} {v : Value} (h : i ≠ j) : (cur.setIfInBounds i v)[j]? = cur[j]? := by rw [Array.getElem?_setIfInBounds, if_neg h]

theorem sgs {cur : Array Value} {i : Nat} {v : Value} (h : i < cur.size) : (cur.setIfInBounds i v)[i]? = some v := by rw [Array.getElem?_setIfInBounds, if_pos rfl, if_pos h]

/-- Marks in the first windows of a row. -/
def Mk3 (cur : Array Value) (n : Nat) : Prop := ∀ j, j < n → cur[j * 3]? = some (.int .i8 (IntKind.i8.wrap (1 + 3 * (j : Int)))) ∧ cur[j * 3 + 1]? = some (.int .i8 (IntKind.i8.wrap (1 + 3 * (j : Int) + 1))) ∧ cur[j * 3 + 2]? = some (.float .f32 (floatOfInt .f32 (1 + 3 * (j : Int) + 1 + 1)))

/-- All rows but one are as they were. -/
def KeptBut (w wr : World) (v : Value) : Prop := ∀ j cs T fr, w.heap[j]? = some (.cells cs T fr) → Value.ownBlock v ≠ some j → wr.heap[j]? = some (.cells cs T fr)

theorem keptBut_refl (w : World) (v : Value) : KeptBut w w v := fun _ _ _ _ h _ => h

theorem keptBut_trans {w w1 w2 : World} {v : Value} (h1 : KeptBut w w1 v) (h2 : KeptBut w1 w2 v) : KeptBut w w2 v := fun j cs T fr h hn => h2 j cs T fr (h1 j cs T fr h hn) hn

theorem keptBut_below {w w1 : World} {v : Value} (h : Below w.heap.size w w1) : KeptBut w w1 v := fun _ _ _ _ hr _ => below_row h hr

theorem keptBut_set {w : World} {g i : Nat} {n c : Nat} (x : Value) : KeptBut w (w.setCell ⟨g, i, none⟩ x) (.slice (some ⟨g, 0, none⟩) n c) := fun j cs T fr h hn => by
  rw [heap_setCell_other _ _ _ _ (by intro e; exact hn (by rw [e]; rfl))]
  exact h

def MkW (w : World) (b g n cap : Nat) (wr : World) : Prop := Below b w wr ∧ KeptBut w wr (.slice (some ⟨g, 0, none⟩) n cap) ∧ ∃ cur : Array Value, wr.heap[g]? = some (.cells cur 68 (0, 0)) ∧ n * 3 ≤ cur.size ∧ Mk3 cur n

set_option maxRecDepth 100000 in
set_option maxHeartbeats 4000000 in
theorem markWinS_any (b g n cap : Nat) (hn : n ≤ 1048576) (cur0 : Array Value) (w : World) (hg : w.heap[g]? = some (.cells cur0 68 (0, 0))) (hs : n * 3 ≤ cur0.size) (hbg : b ≤ g) :
    Calls Tryd.prog 29 #[.slice (some ⟨g, 0, none⟩) n cap, .int .i64 1] w fun e w' => e = .returned (.int .i64 (1 + 3 * (n : Int))) ∧ MkW w b g n cap w' := by
  have HG0 := Lib.hid hg
  clear hg
  go_enter Tryd.func29, Tryd.ntmps29
  go_wp2
  go_loopw [1, 5] (fun q i wr => ∃ (k : Nat) (q' : Int), k ≤ n ∧ i = .int .i64 k ∧ q' = 1 + 3 * (k : Int) ∧ q = .int .i64 q' ∧ Below b w wr ∧ KeptBut w wr (.slice (some ⟨g, 0, none⟩) n cap) ∧ ∃ cur : Array Value, wr.heap[g]? = some (.cells cur 68 (0, 0)) ∧ n * 3 ≤ cur.size ∧ Mk3 cur k) (fun _ i _ => n - (intOf i).toNat)
  case atStart => exact ⟨0, 1, Nat.zero_le _, rfl, rfl, rfl, Below.refl _ _, keptBut_refl _ _, cur0, HG0.out, hs, fun j h => by omega⟩
  case round =>
    clear HG0 hs
    obtain ⟨k, q, hk, rfl, hq, rfl, hb, hot, cur, hg, hs, hp⟩ := hrel
    have Hp := Lib.hid hp
    have HG := Lib.hid hg
    have Hot := Lib.hid hot
    have HB := Lib.hid hb
    have HQ := Lib.hid hq
    by_cases hlt : k < n
    · have z0 : (0 : Int) ≤ (k : Int) := by omega
      have z1 : (k : Int) < (n : Int) := by omega
      have hks : k * 3 + 3 ≤ cur.size := by omega
      have hw1 : IntKind.i64.wrap (q + 1) = q + 1 := by rw [IntWalk.i64_in _ (by omega)]
      have hw2 : IntKind.i64.wrap (q + 1 + 1) = q + 1 + 1 := by rw [IntWalk.i64_in _ (by omega)]
      have hw3 : IntKind.i64.wrap (q + 1 + 1 + 1) = q + 1 + 1 + 1 := by rw [IntWalk.i64_in _ (by omega)]
      clear hp hg hot hb hq
      obtain ⟨hin, q1, q2⟩ : k * 3 < cur.size ∧ wr.cell? ⟨g, k * 3, none⟩ = some (cur[k * 3]'(by first | omega | (simp; omega))) ∧ wr.frozen? ⟨g, k * 3, none⟩ = false := ⟨by first | omega | (simp; omega), cell_kR HG.out (Array.getElem?_eq_getElem _), frozen_of_row wr g (k * 3) _ _ HG.out⟩
      clear hin
      go_upto_region 6 with (fail)
      refine abs_world (fun X => X.heap[g]? = some (.cells (cur.setIfInBounds (k * 3) (.int .i8 (IntKind.i8.wrap q))) 68 (0, 0)) ∧ KeptBut w X (.slice (some ⟨g, 0, none⟩) n cap) ∧ Below b w X) ⟨heap_setCell_same _ _ _ _ _ _ HG.out, keptBut_trans Hot.out (keptBut_set _), HB.out.setCell (p := ⟨g, k * 3, none⟩) hbg _⟩ ?_
      clear HG Hot HB q1 q2
      rintro X1 ⟨hgx, hotx, hbx⟩
      have HG := Lib.hid hgx
      have Hot := Lib.hid hotx
      have HB := Lib.hid hbx
      clear hgx hotx hbx
      obtain ⟨hin, q1, q2⟩ : k * 3 + 1 < (cur.setIfInBounds (k * 3) (.int .i8 (IntKind.i8.wrap q))).size ∧ X1.cell? ⟨g, k * 3 + 1, none⟩ = some ((cur.setIfInBounds (k * 3) (.int .i8 (IntKind.i8.wrap q)))[k * 3 + 1]'(by first | omega | (simp; omega))) ∧ X1.frozen? ⟨g, k * 3 + 1, none⟩ = false := ⟨by first | omega | (simp; omega), cell_kR HG.out (Array.getElem?_eq_getElem _), frozen_of_row X1 g (k * 3 + 1) _ _ HG.out⟩
      clear hin
      go_upto_region 8 with (fail)
      refine abs_world (fun X => X.heap[g]? = some (.cells ((cur.setIfInBounds (k * 3) (.int .i8 (IntKind.i8.wrap q))).setIfInBounds (k * 3 + 1) (.int .i8 (IntKind.i8.wrap (q + 1)))) 68 (0, 0)) ∧ KeptBut w X (.slice (some ⟨g, 0, none⟩) n cap) ∧ Below b w X) ⟨heap_setCell_same _ _ _ _ _ _ HG.out, keptBut_trans Hot.out (keptBut_set _), HB.out.setCell (p := ⟨g, k * 3 + 1, none⟩) hbg _⟩ ?_
      clear HG Hot HB q1 q2
      rintro X2 ⟨hgx, hotx, hbx⟩
      have HG := Lib.hid hgx
      have Hot := Lib.hid hotx
      have HB := Lib.hid hbx
      clear hgx hotx hbx
      obtain ⟨hin, q1, q2⟩ : k * 3 + 2 < ((cur.setIfInBounds (k * 3) (.int .i8 (IntKind.i8.wrap q))).setIfInBounds (k * 3 + 1) (.int .i8 (IntKind.i8.wrap (q + 1)))).size ∧ X2.cell? ⟨g, k * 3 + 2, none⟩ = some (((cur.setIfInBounds (k * 3) (.int .i8 (IntKind.i8.wrap q))).setIfInBounds (k * 3 + 1) (.int .i8 (IntKind.i8.wrap (q + 1))))[k * 3 + 2]'(by first | omega | (simp; omega))) ∧ X2.frozen? ⟨g, k * 3 + 2, none⟩ = false := ⟨by first | omega | (simp; omega), cell_kR HG.out (Array.getElem?_eq_getElem _), frozen_of_row X2 g (k * 3 + 2) _ _ HG.out⟩
      clear hin
      go_upto_region 9 with (fail)
      refine abs_world (fun X => X.heap[g]? = some (.cells (((cur.setIfInBounds (k * 3) (.int .i8 (IntKind.i8.wrap q))).setIfInBounds (k * 3 + 1) (.int .i8 (IntKind.i8.wrap (q + 1)))).setIfInBounds (k * 3 + 2) (.float .f32 (floatOfInt .f32 (q + 1 + 1)))) 68 (0, 0)) ∧ KeptBut w X (.slice (some ⟨g, 0, none⟩) n cap) ∧ Below b w X) ⟨heap_setCell_same _ _ _ _ _ _ HG.out, keptBut_trans Hot.out (keptBut_set _), HB.out.setCell (p := ⟨g, k * 3 + 2, none⟩) hbg _⟩ ?_
      clear HG Hot HB q1 q2
      rintro X3 ⟨hgx, hotx, hbx⟩
      have HG := Lib.hid hgx
      have Hot := Lib.hid hotx
      have HB := Lib.hid hbx
      clear hgx hotx hbx
      go_wp2
      go_roundw
      case rel =>
        have hq := HQ.out
        refine ⟨k + 1, q + 1 + 1 + 1, by omega, by go_num, by omega, by first | trivial | rfl, HB.out, Hot.out, _, HG.out, by simp; omega, fun j hj => ?_⟩
        by_cases e : j = k
        · subst e
          rw [← hq]
          refine ⟨?_, ?_, ?_⟩
          · rw [sgo (by omega), sgo (by omega), sgs (by omega)]
          · rw [sgo (by omega), sgs (by simp; omega)]
          · rw [sgs (by simp; omega)]
        · obtain ⟨a1, a2, a3⟩ := Hp.out j (by omega)
          refine ⟨?_, ?_, ?_⟩
          · rw [sgo (by omega), sgo (by omega), sgo (by omega)]; exact a1
          · rw [sgo (by omega), sgo (by omega), sgo (by omega)]; exact a2
          · rw [sgo (by omega), sgo (by omega), sgo (by omega)]; exact a3
      case measure => simp [intOf]; omega
    · obtain rfl : k = n := by omega
      clear hp hg hot hb hq
      go_wp2
      go_ret
      exact ⟨by rw [HQ.out]; rfl, HB.out, Hot.out, cur, HG.out, hs, Hp.out⟩

set_option maxRecDepth 100000 in
set_option maxHeartbeats 4000000 in
theorem markWinS_nil (w : World) : Calls Tryd.prog 29 #[.slice none 0 0, .int .i64 1] w fun e w' => e = .returned (.int .i64 1) ∧ w = w' := by
  go_enter Tryd.func29, Tryd.ntmps29
  go_wp2
  go_loopw [1, 5] (fun q i wr => q = .int .i64 1 ∧ i = .int .i64 0 ∧ wr = w) (fun _ _ _ => 0)
  case atStart => exact ⟨rfl, rfl, rfl⟩
  case round =>
    obtain ⟨rfl, rfl, rfl⟩ := hrel
    go_wp2
    go_ret
    exact ⟨rfl, rfl⟩

/-- Windows of the call's own, or none. -/
def OwnQ (w : World) (lo : Nat) (v : Value) (ws : List Wn) : Prop := (v = .slice none 0 0 ∧ ws = []) ∨ OwnV w lo v ws

/-- Marked windows, or none. -/
def MarkedQ (w : World) (v : Value) (n : Nat) : Prop := (v = .slice none 0 0 ∧ n = 0) ∨ ∃ g cap cur, v = .slice (some ⟨g, 0, none⟩) n cap ∧ w.heap[g]? = some (.cells cur 68 (0, 0)) ∧ Mk3 cur n

theorem ownQ_rng {w : World} {lo : Nat} {v : Value} {ws : List Wn} (h : OwnQ w lo v ws) : ∀ j, Value.ownBlock v = some j → lo ≤ j ∧ j < w.heap.size := by
  intro j hj
  rcases h with ⟨rfl, _⟩ | ⟨g, cap, cur, rfl, h2, h3, _⟩
  · cases hj
  · have : g = j := by simpa [Value.ownBlock] using hj
    subst this
    exact ⟨h2, row_lt h3⟩

theorem ownQ_at {w : World} {lo : Nat} {v : Value} {ws : List Wn} (h : OwnQ w lo v ws) : WinsAt w v ws := by
  rcases h with ⟨rfl, rfl⟩ | h
  · exact ⟨none, 0, rfl, Nat.le_refl _, by unfold maxLen; omega, fun i x hx => by simp at hx⟩
  · exact ownV_at h

theorem ownQ_below {w w' : World} {lo : Nat} {v : Value} {ws : List Wn} (h : OwnQ w lo v ws) (hb : Below w.heap.size w w') : OwnQ w' lo v ws := by
  rcases h with h | h
  · exact .inl h
  · exact .inr (ownV_below h hb (Nat.le_refl _))

theorem ownQ_keep {w w' : World} {lo : Nat} {v v' : Value} {ws : List Wn} (h : OwnQ w lo v ws) (hk : KeptBut w w' v') (hn : ∀ j, Value.ownBlock v = some j → Value.ownBlock v' ≠ some j) : OwnQ w' lo v ws := by
  rcases h with h | ⟨g, cap, cur, rfl, h2, h3, h4⟩
  · exact .inl h
  · exact .inr ⟨g, cap, cur, rfl, h2, hk g cur _ _ h3 (hn g rfl), h4⟩

theorem ownQ_ofW {w : World} {lo : Nat} {v : Value} {ws : List Wn} (h : OwnW w lo v ws) : OwnQ w lo v ws := by
  obtain ⟨g, cur, rfl, h2, h3, h4, h5, h6⟩ := h
  exact .inr ⟨g, ws.length, cur, rfl, h2, h3, Nat.le_refl _, by unfold maxLen; omega, by omega, h6⟩

theorem markedQ_keep {w w' : World} {v v' : Value} {n : Nat} (h : MarkedQ w v n) (hk : KeptBut w w' v') (hn : ∀ j, Value.ownBlock v = some j → Value.ownBlock v' ≠ some j) : MarkedQ w' v n := by
  rcases h with h | ⟨g, cap, cur, rfl, h3, h4⟩
  · exact .inl h
  · exact .inr ⟨g, cap, cur, rfl, hk g cur _ _ h3 (hn g rfl), h4⟩

theorem markedQ_below {w w' : World} {v : Value} {n : Nat} (h : MarkedQ w v n) (hb : Below w.heap.size w w') : MarkedQ w' v n := markedQ_keep (v' := .slice none 0 0) h (keptBut_below hb) (fun j _ h => by cases h)

set_option maxRecDepth 100000 in
set_option maxHeartbeats 4000000 in
theorem markRoomQ (wd hg : Int) (b : Nat) (v : Value) (ws : List Wn) (hlen : ws.length ≤ 1048576) (w : World) (h : OwnQ w b v ws) :
    Calls Tryd.prog 10 #[.agg (roomC wd hg v), .int .i64 1] w fun e w' => e = .returned (.int .i64 (1 + 3 * (ws.length : Int))) ∧ MarkedQ w' v ws.length ∧ KeptBut w w' v ∧ (b ≤ w.heap.size → Below b w w') := by
  rcases h with ⟨rfl, rfl⟩ | ⟨g, cap, cur, rfl, h2, h3, h4, h5, h6, h7⟩
  · go_enter Tryd.func10, Tryd.ntmps10
    go_upto_region 1 with (fail)
    refine abs_world (fun W => W.heap[w.heap.size]? = some (.cells (roomC wd hg (.slice none 0 0)) 33 (0, 0)) ∧ Below w.heap.size w W) ⟨heap_alloc_new _ _, (Below.refl _ _).alloc (Nat.le_refl _) _⟩ ?_
    rintro W ⟨h0, hb⟩
    obtain ⟨-, -, r2⟩ := room_cells h0
    clear h0
    go_wp2_with (go_at_call 29; refine (markWinS_nil _).mono ?_; rintro e w1 ⟨rfl, rfl⟩)
    go_ret
    exact ⟨rfl, .inl ⟨rfl, rfl⟩, keptBut_below hb, fun h => hb.mono h⟩
  · generalize ws.length = n at *
    have hgl := row_lt h3
    have HM := Lib.hid (fun W (h : W.heap[g]? = some (.cells cur 68 (0, 0))) => markWinS_any b g n cap hlen cur W h h6 h2)
    have HR := Lib.hid h3
    clear h3 h7
    go_enter Tryd.func10, Tryd.ntmps10
    go_upto_region 1 with (fail)
    refine abs_world (fun W => W.heap[w.heap.size]? = some (.cells (roomC wd hg (.slice (some ⟨g, 0, none⟩) n cap)) 33 (0, 0)) ∧ Below w.heap.size w W) ⟨heap_alloc_new _ _, (Below.refl _ _).alloc (Nat.le_refl _) _⟩ ?_
    rintro W ⟨h0, hb⟩
    obtain ⟨-, -, r2⟩ := room_cells h0
    have HMW := Lib.hid (HM.out W (below_row hb HR.out))
    clear h0 HM
    go_wp2_with (go_at_call 29; refine HMW.out.mono ?_; rintro e W1 ⟨rfl, hb1, hkb, cur', hg', hs', hm'⟩)
    go_ret
    exact ⟨rfl, .inr ⟨g, cap, cur', rfl, hg', hm'⟩, keptBut_trans (keptBut_below hb) hkb, fun h => (hb.mono h).trans hb1⟩

end Go.Proofs.YtddnfbpgldchcaaDoor

namespace Go.Proofs.YtddnfbpgldchcaaDoor
open Go.RowKit

/-- The block of a list lies below B, or from B on. -/
def Under (v : Value) (B : Nat) : Prop := ∀ g n c, v = .slice (some ⟨g, 0, none⟩) n c → g < B

def Above (v : Value) (B : Nat) : Prop := ∀ g n c, v = .slice (some ⟨g, 0, none⟩) n c → B ≤ g

theorem under_of {α : Type} {w : World} {b : Nat} {E : TypeId} {mk : α → Value} {v : Value} {xs : List α} (h : Own w b E mk v xs) : Under v w.heap.size := by
  obtain ⟨a, c, rfl, _, _, h4⟩ := h
  intro g n c' e
  injection e with e1 e2 e3
  rcases h4 with ⟨ea, _⟩ | ⟨g', cur, ea, _, hc, _⟩
  · rw [ea] at e1; cases e1
  · rw [ea] at e1
    injection e1 with e1
    injection e1 with e1
    subst e1
    exact row_lt hc

theorem above_of {α : Type} {w : World} {b : Nat} {E : TypeId} {mk : α → Value} {v : Value} {xs : List α} (h : Own w b E mk v xs) : Above v b := by
  obtain ⟨a, c, rfl, _, _, h4⟩ := h
  intro g n c' e
  injection e with e1 e2 e3
  rcases h4 with ⟨ea, _⟩ | ⟨g', cur, ea, hb, hc, _⟩
  · rw [ea] at e1; cases e1
  · rw [ea] at e1
    injection e1 with e1
    injection e1 with e1
    subst e1
    exact hb

theorem under_mono {v : Value} {B C : Nat} (h : Under v B) (hBC : B ≤ C) : Under v C := fun g n c e => Nat.lt_of_lt_of_le (h g n c e) hBC

/-- A list is as it was, when another one has been written into. -/
theorem own_marked {α : Type} {w w' : World} {b B : Nat} {E : TypeId} {mk : α → Value} {v v1 : Value} {xs : List α} {m : Int} {n : Nat} {e : Ending} {E1 : TypeId} (h : Own w b E mk v xs) (hu : Under v B) (ha : Above v1 B) (hm : Marked w E1 B v1 m n e w') : Own w' b E mk v xs := by
  obtain ⟨a, c, rfl, h2, h3, h4⟩ := h
  refine ⟨a, c, rfl, h2, h3, h4.imp id ?_⟩
  rintro ⟨g, cur, rfl, hg, hc, hk⟩
  refine ⟨g, cur, rfl, hg, hm.2.2.2 g _ hc ?_, hk⟩
  intro g' n' c' e'
  have h5 := hu g _ _ rfl
  have h6 := ha g' _ _ e'
  omega

theorem row_marked {w w' : World} {B g : Nat} {v1 : Value} {m : Int} {n : Nat} {e : Ending} {E1 : TypeId} {o : Obj} (h : w.heap[g]? = some o) (hg : g < B) (ha : Above v1 B) (hm : Marked w E1 B v1 m n e w') : w'.heap[g]? = some o := by
  refine hm.2.2.2 g o h ?_
  intro g' n' c' e'
  have h6 := ha g' _ _ e'
  omega

/-- A list and a code, the list being the call's own. -/
def RetList (xs : List Int) (c : Int) (w : World) (e : Ending) (w' : World) : Prop := (∃ v, e = .returned (.tuple #[v, .int .i64 c]) ∧ Own w' w.heap.size 2 (Value.int .i64) v xs) ∧ Below w.heap.size w w'

end Go.Proofs.YtddnfbpgldchcaaDoor

namespace Go.Proofs.YtddnfbpgldchcaaDoor
open Go.ChangeShapes Go.WideShapes Go.ChangeAt Go.RowKit Go.Deep Go.Joins Go.Shelf

theorem ol_kept {W W' : World} {b k : Nat} {v v' : Value} {xs : List Value} (h : W.ownsRow b 48 2 v k xs) (hk : KeptBut W W' v') (hn : ∀ j, Value.ownBlock v = some j → Value.ownBlock v' ≠ some j) : W'.ownsRow b 48 2 v k xs := by
  refine ⟨h.1, h.2.imp id ?_⟩
  rintro ⟨g, cap, cur, rfl, hg, hc, hr⟩
  exact ⟨g, cap, cur, rfl, hg, hk _ _ _ _ hc (hn g rfl), hr⟩

theorem ol_form {W : World} {b : Nat} {v : Value} {ts : List (Int × Int)} (h : W.ownsRow b 48 2 v ts.length (tlV ts)) : ∃ a c, v = .slice a ts.length c := by
  rcases h.2 with ⟨e, hz⟩ | ⟨g, c, cu, e, -⟩
  · exact ⟨none, 0, by rw [e, hz]⟩
  · exact ⟨_, c, e⟩

theorem i64M {z : Int} (h0 : -1000 ≤ z) (h1 : z ≤ 1000) : IntKind.i64.wrap z = z := by rw [IntWalk.i64_in _ (by omega)]

set_option maxRecDepth 100000 in
set_option maxHeartbeats 4000000 in
theorem eqTile_anyP (p q : Int) (w : World) : Calls Tryd.prog 27 #[.agg (tileC p q), .agg (tileC p q)] w fun e w' => e = .returned (.bool true) ∧ Below w.heap.size w w' := by
  go_enter Tryd.func27, Tryd.ntmps27
  go_upto_region 1 with (fail)
  refine abs_world (fun V => V.heap[w.heap.size]? = some (.cells (tileC p q) 48 (0, 0)) ∧ V.heap[w.heap.size + 1]? = some (.cells (tileC p q) 48 (0, 0)) ∧ Below w.heap.size w V) (two_at w (.cells (tileC p q) 48) (.cells (tileC p q) 48)) ?_
  rintro V ⟨h0, h1, hb⟩
  generalize w.heap.size + 1 = b1 at *
  have c0 : V.cell? ⟨w.heap.size, 0, none⟩ = some (.int .i8 p) := by rw [cell_of_row _ _ _ _ _ _ h0]; rfl
  have c1 : V.cell? ⟨w.heap.size, 1, none⟩ = some (.int .i8 q) := by rw [cell_of_row _ _ _ _ _ _ h0]; rfl
  have c2 : V.cell? ⟨b1, 0, none⟩ = some (.int .i8 p) := by rw [cell_of_row _ _ _ _ _ _ h1]; rfl
  have c3 : V.cell? ⟨b1, 1, none⟩ = some (.int .i8 q) := by rw [cell_of_row _ _ _ _ _ _ h1]; rfl
  clear h0 h1
  have zp : (p != p) = false := by simp
  have zq : (q != q) = false := by simp
  go_wp2
  go_ret
  exact ⟨rfl, hb⟩

set_option maxRecDepth 100000 in
set_option maxHeartbeats 4000000 in
theorem eqTl_same (ts : List (Int × Int)) (hl : ts.length ≤ 100) (v1 v2 : Value) (b1 b2 : Nat) (w : World) (h1 : w.ownsRow b1 48 2 v1 ts.length (tlV ts)) (h2 : w.ownsRow b2 48 2 v2 ts.length (tlV ts)) :
    Calls Tryd.prog 8 #[v1, v2] w fun e w' => e = .returned (.bool true) ∧ Below w.heap.size w w' := by
  obtain ⟨a1, c1, rfl⟩ := ol_form h1
  obtain ⟨a2, c2, rfl⟩ := ol_form h2
  have HO1 : Hid (∀ wr, Below w.heap.size w wr → wr.ownsRow b1 48 2 (.slice a1 ts.length c1) ts.length (tlV ts)) := fun wr hb => owns_bE h1 hb
  have HO2 : Hid (∀ wr, Below w.heap.size w wr → wr.ownsRow b2 48 2 (.slice a2 ts.length c2) ts.length (tlV ts)) := fun wr hb => owns_bE h2 hb
  have hnl : ((ts.length : Int) != (ts.length : Int)) = false := by simp
  clear h1 h2
  go_enter Tryd.func8, Tryd.ntmps8
  go_upto_region 4 with (fail)
  go_loopw [5] (fun i wr => ∃ k : Nat, k ≤ ts.length ∧ i = .int .i64 (k : Int) ∧ Below w.heap.size w wr) (fun i _ => ts.length - (intOf i).toNat)
  case atStart => exact ⟨0, Nat.zero_le _, rfl, Below.refl _ _⟩
  case round =>
    obtain ⟨k, hk, rfl, hb⟩ := hrel
    by_cases hlt : k < ts.length
    · obtain ⟨p, hp⟩ : ∃ p, ts[k]? = some p := ⟨_, List.getElem?_eq_getElem hlt⟩
      obtain ⟨g1, k1, cur1, e1, -, r1, s1, x1⟩ := tl_get (HO1.out wr hb) hp
      obtain ⟨g2, k2, cur2, e2, -, r2, s2, x2⟩ := tl_get (HO2.out wr hb) hp
      injection e1 with e1 _ _
      injection e2 with e2 _ _
      subst e1 e2
      have HR1 := Lib.hid r1
      have HS1 := Lib.hid s1
      have HE1 := Lib.hid x1
      have HR2 := Lib.hid r2
      have HS2 := Lib.hid s2
      have HE2 := Lib.hid x2
      have z0 : (0 : Int) ≤ (k : Int) := by omega
      have z1 : (k : Int) < (ts.length : Int) := by omega
      have w1 : IntKind.i64.wrap (k : Int) = (k : Int) := i64M (by omega) (by omega)
      have e7 : IntKind.i64.wrap ((k : Int) + 1) = (k : Int) + 1 := i64M (by omega) (by omega)
      clear r1 s1 x1 r2 s2 x2 hp
      go_upto_region 6 with (fail)
      refine wp_region_held_drew (S := (fun X => Below wr.heap.size wr X)) (by kernel_rfl) ((Below.refl _ _).drew) (fun hHeld => ?_)
      refine take_op (i := 0) (d := 17) (v := ?_) rfl rfl (by kernel_rfl) (by kernel_rfl) (by kernel_rfl) (fun _ _ _ h => h) (Or.inl ⟨by rfl, ?hy0u1⟩) hHeld ?rest0u1
      case hy0u1 =>
        intro w' hS'
        go_simp
        try with_reducible rfl
      simp only [List.setIfInBounds_toArray, List.set_cons_zero, List.set_cons_succ]
      refine take_op (i := 1) (d := 18) (v := ?_) rfl rfl (by kernel_rfl) (by kernel_rfl) (by kernel_rfl) (fun _ _ _ h => h) (Or.inl ⟨by rfl, ?hy1u2⟩) hHeld ?rest1u2
      case hy1u2 =>
        intro w' hS'
        go_simp
        try with_reducible rfl
      simp only [List.setIfInBounds_toArray, List.set_cons_zero, List.set_cons_succ]
      refine take_op (i := 2) (d := 19) (v := ?_) rfl rfl (by kernel_rfl) (by kernel_rfl) (by kernel_rfl) (fun _ _ _ h => h) (Or.inl ⟨by rfl, ?hy2u3⟩) hHeld ?rest2u3
      case hy2u3 =>
        intro w' hS'
        go_simp
        try with_reducible rfl
      simp only [List.setIfInBounds_toArray, List.set_cons_zero, List.set_cons_succ]
      refine take_op (i := 3) (d := 20) (v := .agg (tileC p.1 p.2)) rfl rfl (by kernel_rfl) (by kernel_rfl) (by kernel_rfl) (fun _ _ _ h => h) (yields_row (by rfl) 48 (.tmp 19) (by rfl) g1 (k * 2) 2 (by rfl) 48 cur1 (0, 0) _ (fun _ hX => below_row hX HR1.out) Tryd.underlying48 rfl info_tile HS1.out (tileC p.1 p.2) HE1.out) hHeld ?_
      simp only [List.setIfInBounds_toArray, List.set_cons_zero, List.set_cons_succ]
      refine take_op (i := 4) (d := 21) (v := ?_) rfl rfl (by kernel_rfl) (by kernel_rfl) (by kernel_rfl) (fun _ _ _ h => h) (Or.inl ⟨by rfl, ?hy4u4⟩) hHeld ?rest4u4
      case hy4u4 =>
        intro w' hS'
        go_simp
        try with_reducible rfl
      simp only [List.setIfInBounds_toArray, List.set_cons_zero, List.set_cons_succ]
      refine take_op (i := 5) (d := 22) (v := ?_) rfl rfl (by kernel_rfl) (by kernel_rfl) (by kernel_rfl) (fun _ _ _ h => h) (Or.inl ⟨by rfl, ?hy5u5⟩) hHeld ?rest5u5
      case hy5u5 =>
        intro w' hS'
        go_simp
        try with_reducible rfl
      simp only [List.setIfInBounds_toArray, List.set_cons_zero, List.set_cons_succ]
      refine take_op (i := 6) (d := 23) (v := ?_) rfl rfl (by kernel_rfl) (by kernel_rfl) (by kernel_rfl) (fun _ _ _ h => h) (Or.inl ⟨by rfl, ?hy6u6⟩) hHeld ?rest6u6
      case hy6u6 =>
        intro w' hS'
        go_simp
        try with_reducible rfl
      simp only [List.setIfInBounds_toArray, List.set_cons_zero, List.set_cons_succ]
      refine take_op (i := 7) (d := 24) (v := .agg (tileC p.1 p.2)) rfl rfl (by kernel_rfl) (by kernel_rfl) (by kernel_rfl) (fun _ _ _ h => h) (yields_row (by rfl) 48 (.tmp 23) (by rfl) g2 (k * 2) 2 (by rfl) 48 cur2 (0, 0) _ (fun _ hX => below_row hX HR2.out) Tryd.underlying48 rfl info_tile HS2.out (tileC p.1 p.2) HE2.out) hHeld ?_
      simp only [List.setIfInBounds_toArray, List.set_cons_zero, List.set_cons_succ]
      refine wpAnyH_ready (rs := [8]) (by kernel_rfl) (by simp) ?_
      refine AllReadyH.cons rfl (fun K hK => ?_) AllReadyH.nil
      go_simp
      refine (eqTile_anyP _ _ _).mono ?_
      rintro e W1 ⟨rfl, hb1⟩
      refine hK.out _ _ (hHeld.trans (hb1.mono hHeld.size)) (fun hHeld2 => ?_)
      clear hK K
      replace hHeld := hHeld2
      clear hHeld2
      clear hb1
      refine take_op (i := 9) (d := 26) (v := ?_) rfl rfl (by kernel_rfl) (by kernel_rfl) (by kernel_rfl) (fun _ _ _ h => h) (Or.inl ⟨by rfl, ?hy9u7⟩) hHeld ?rest9u7
      case hy9u7 =>
        intro w' hS'
        go_simp
        try with_reducible rfl
      simp only [List.setIfInBounds_toArray, List.set_cons_zero, List.set_cons_succ]
      refine wpAnyH_done (by kernel_rfl) ?_ _
      have HBZ := Lib.hid (hb.trans (hHeld.mono hb.size))
      clear hHeld
      go_wp2
      go_roundw
      case rel => exact ⟨k + 1, by omega, by first | rfl | go_num, HBZ.out⟩
      case measure => simp [intOf]; omega
    · obtain rfl : k = ts.length := by omega
      have z1 : decide ((ts.length : Int) < (ts.length : Int)) = false := decide_eq_false (by omega)
      go_wp2
      go_ret
      exact ⟨rfl, hb⟩

/-- A list of tiles that is marked from 1 on. -/
def MkT (W : World) (b : Nat) (v : Value) (n : Nat) : Prop := (∃ a c, v = .slice a n c) ∧ (n = 0 ∨ ∃ g cap cur, v = .slice (some ⟨g, 0, none⟩) n cap ∧ b ≤ g ∧ W.heap[g]? = some (.cells cur 48 (0, 0)) ∧ ∀ i, i < 2 * n → cur[i]? = some (.int .i8 (IntKind.i8.wrap (1 + (i : Int)))))

theorem mkT_below {W W' : World} {b : Nat} {v : Value} {n : Nat} (h : MkT W b v n) (hb : Below W.heap.size W W') : MkT W' b v n :=
  ⟨h.1, h.2.imp id (fun ⟨g, cap, cur, e, hg, hr, hx⟩ => ⟨g, cap, cur, e, hg, below_row hb hr, hx⟩)⟩

set_option maxRecDepth 100000 in
set_option maxHeartbeats 4000000 in
theorem markT_any (ts : List (Int × Int)) (hl : ts.length ≤ 100) (v : Value) (b : Nat) (w : World) (h : w.ownsRow b 48 2 v ts.length (tlV ts)) :
    Calls Tryd.prog 11 #[v, .int .i64 1] w fun e w' => e = .returned (.int .i64 (1 + 2 * (ts.length : Int))) ∧ MkT w' b v ts.length ∧ Below b w w' ∧ KeptBut w w' v := by
  rcases h.2 with ⟨rfl, hz⟩ | ⟨g, cap, cur0, rfl, hbg, hg, hnc, hcm, hsz, -⟩
  · rw [hz]
    go_enter Tryd.func11, Tryd.ntmps11
    go_wp2
    go_loopw [1, 5] (fun q i wr => q = .int .i64 1 ∧ i = .int .i64 0 ∧ wr = w) (fun _ _ _ => 0)
    case atStart => exact ⟨rfl, rfl, rfl⟩
    case round =>
      obtain ⟨rfl, rfl, rfl⟩ := hrel
      go_wp2
      go_ret
      exact ⟨rfl, ⟨⟨_, _, rfl⟩, .inl rfl⟩, Below.refl _ _, keptBut_refl _ _⟩
  · have HG0 := Lib.hid hg
    have hs : ts.length * 2 ≤ cur0.size := by omega
    generalize ts.length = n at *
    clear hg h hsz
    go_enter Tryd.func11, Tryd.ntmps11
    go_wp2
    go_loopw [1, 5] (fun q i wr => ∃ k : Nat, k ≤ n ∧ i = .int .i64 (k : Int) ∧ q = .int .i64 (1 + 2 * (k : Int)) ∧ Below b w wr ∧ KeptBut w wr (.slice (some ⟨g, 0, none⟩) n cap) ∧ ∃ cur : Array Value, wr.heap[g]? = some (.cells cur 48 (0, 0)) ∧ n * 2 ≤ cur.size ∧ ∀ i, i < 2 * k → cur[i]? = some (.int .i8 (IntKind.i8.wrap (1 + (i : Int))))) (fun _ i _ => n - (intOf i).toNat)
    case atStart => exact ⟨0, Nat.zero_le _, rfl, rfl, Below.refl _ _, keptBut_refl _ _, cur0, HG0.out, hs, fun i hi => by omega⟩
    case round =>
      clear HG0 hs
      obtain ⟨k, hk, rfl, rfl, hb, hot, cur, hg, hs, hx⟩ := hrel
      have HG := Lib.hid hg
      have Hot := Lib.hid hot
      have HB := Lib.hid hb
      have HXX := Lib.hid hx
      by_cases hlt : k < n
      · have z0 : (0 : Int) ≤ (k : Int) := by omega
        have z1 : (k : Int) < (n : Int) := by omega
        have hks : k * 2 + 2 ≤ cur.size := by omega
        have hw0 : IntKind.i64.wrap (k : Int) = (k : Int) := i64M (by omega) (by omega)
        have hw1 : IntKind.i64.wrap (1 + 2 * (k : Int) + 1) = 1 + 2 * (k : Int) + 1 := i64M (by omega) (by omega)
        have hw2 : IntKind.i64.wrap (1 + 2 * (k : Int) + 1 + 1) = 1 + 2 * (k : Int) + 1 + 1 := i64M (by omega) (by omega)
        have hw3 : IntKind.i64.wrap ((k : Int) + 1) = (k : Int) + 1 := i64M (by omega) (by omega)
        clear hg hot hb hx
        obtain ⟨hin, q1, q2⟩ : k * 2 < cur.size ∧ wr.cell? ⟨g, k * 2, none⟩ = some (cur[k * 2]'(by first | omega | (simp; omega))) ∧ wr.frozen? ⟨g, k * 2, none⟩ = false := ⟨by first | omega | (simp; omega), cell_kR HG.out (Array.getElem?_eq_getElem _), frozen_of_row wr g (k * 2) _ _ HG.out⟩
        clear hin
        go_upto_region 6 with (fail)
        refine abs_world (fun X => X.heap[g]? = some (.cells (cur.setIfInBounds (k * 2) (.int .i8 (IntKind.i8.wrap (1 + 2 * (k : Int))))) 48 (0, 0)) ∧ KeptBut w X (.slice (some ⟨g, 0, none⟩) n cap) ∧ Below b w X) ⟨heap_setCell_same _ _ _ _ _ _ HG.out, keptBut_trans Hot.out (keptBut_set _), HB.out.setCell (p := ⟨g, k * 2, none⟩) hbg _⟩ ?_
        clear HG Hot HB q1 q2
        rintro X1 ⟨hgx, hotx, hbx⟩
        have HG := Lib.hid hgx
        have Hot := Lib.hid hotx
        have HB := Lib.hid hbx
        clear hgx hotx hbx
        obtain ⟨hin, q1, q2⟩ : k * 2 + 1 < (cur.setIfInBounds (k * 2) (.int .i8 (IntKind.i8.wrap (1 + 2 * (k : Int))))).size ∧ X1.cell? ⟨g, k * 2 + 1, none⟩ = some ((cur.setIfInBounds (k * 2) (.int .i8 (IntKind.i8.wrap (1 + 2 * (k : Int)))))[k * 2 + 1]'(by first | omega | (simp; omega))) ∧ X1.frozen? ⟨g, k * 2 + 1, none⟩ = false := ⟨by first | omega | (simp; omega), cell_kR HG.out (Array.getElem?_eq_getElem _), frozen_of_row X1 g (k * 2 + 1) _ _ HG.out⟩
        clear hin
        go_upto_region 7 with (fail)
        refine abs_world (fun X => X.heap[g]? = some (.cells ((cur.setIfInBounds (k * 2) (.int .i8 (IntKind.i8.wrap (1 + 2 * (k : Int))))).setIfInBounds (k * 2 + 1) (.int .i8 (IntKind.i8.wrap (1 + 2 * (k : Int) + 1)))) 48 (0, 0)) ∧ KeptBut w X (.slice (some ⟨g, 0, none⟩) n cap) ∧ Below b w X) ⟨heap_setCell_same _ _ _ _ _ _ HG.out, keptBut_trans Hot.out (keptBut_set _), HB.out.setCell (p := ⟨g, k * 2 + 1, none⟩) hbg _⟩ ?_
        clear HG Hot HB q1 q2
        rintro X2 ⟨hgx, hotx, hbx⟩
        have HG := Lib.hid hgx
        have Hot := Lib.hid hotx
        have HB := Lib.hid hbx
        clear hgx hotx hbx
        go_wp2
        go_roundw
        case rel =>
          refine ⟨k + 1, by omega, by first | rfl | go_num, by first | (congr 1; done) | (congr 1; push_cast; omega), HB.out, Hot.out, _, HG.out, by simp; omega, fun i hi => ?_⟩
          rw [Array.getElem?_setIfInBounds]
          by_cases c1 : k * 2 + 1 = i
          · rw [if_pos c1, if_pos (by simp; omega)]
            have : 1 + 2 * (k : Int) + 1 = 1 + (i : Int) := by omega
            rw [this]
          · rw [if_neg c1, Array.getElem?_setIfInBounds]
            by_cases c2 : k * 2 = i
            · rw [if_pos c2, if_pos (by omega)]
              have : 1 + 2 * (k : Int) = 1 + (i : Int) := by omega
              rw [this]
            · rw [if_neg c2]
              exact HXX.out i (by omega)
        case measure => simp [intOf]; omega
      · obtain rfl : k = n := by omega
        clear hg hot hb hx
        go_wp2
        go_ret
        exact ⟨rfl, ⟨⟨_, _, rfl⟩, .inr ⟨g, cap, cur, rfl, hbg, HG.out, HXX.out⟩⟩, HB.out, Hot.out⟩

set_option maxRecDepth 100000 in
set_option maxHeartbeats 4000000 in
theorem heldT_any (n : Nat) (hn : n ≤ 100) (v : Value) (b : Nat) (w : World) (h : MkT w b v n) :
    Calls Tryd.prog 12 #[v, .int .i64 1] w fun e w' => e = .returned (.int .i64 (1 + 2 * (n : Int))) ∧ Below w.heap.size w w' := by
  rcases h with ⟨⟨a, c, rfl⟩, h⟩
  have hc : n ≠ 0 → ∃ g cur, a = some ⟨g, 0, none⟩ ∧ w.heap[g]? = some (.cells cur 48 (0, 0)) ∧ ∀ i, i < 2 * n → cur[i]? = some (.int .i8 (IntKind.i8.wrap (1 + (i : Int)))) := fun hn0 => by
    rcases h with h | ⟨g, cap, cur, e, -, hr, hx⟩
    · exact absurd h hn0
    · injection e with e1 _ _
      exact ⟨g, cur, e1, hr, hx⟩
  have HC := Lib.hid hc
  clear h hc
  go_enter Tryd.func12, Tryd.ntmps12
  go_wp2
  go_loopw [1, 5] (fun q i wr => ∃ k : Nat, k ≤ n ∧ i = .int .i64 (k : Int) ∧ q = .int .i64 (1 + 2 * (k : Int)) ∧ Below w.heap.size w wr) (fun _ i _ => n - (intOf i).toNat)
  case atStart => exact ⟨0, Nat.zero_le _, rfl, rfl, Below.refl _ _⟩
  case round =>
    obtain ⟨k, hk, rfl, rfl, hb⟩ := hrel
    by_cases hlt : k < n
    · obtain ⟨g, cur, rfl, hr, hx⟩ := HC.out (by omega)
      have hr2 := below_row hb hr
      have q1 : wr.cell? ⟨g, k * 2, none⟩ = some (.int .i8 (IntKind.i8.wrap (1 + 2 * (k : Int)))) := by
        have := cell_kR hr2 (hx (k * 2) (by omega))
        rw [this]
        have e : 1 + ((k * 2 : Nat) : Int) = 1 + 2 * (k : Int) := by omega
        rw [e]
      have q2 : wr.cell? ⟨g, k * 2 + 1, none⟩ = some (.int .i8 (IntKind.i8.wrap (1 + 2 * (k : Int) + 1))) := by
        have := cell_kR hr2 (hx (k * 2 + 1) (by omega))
        rw [this]
        have e : 1 + ((k * 2 + 1 : Nat) : Int) = 1 + 2 * (k : Int) + 1 := by omega
        rw [e]
      have z0 : (0 : Int) ≤ (k : Int) := by omega
      have z1 : (k : Int) < (n : Int) := by omega
      have hw0 : IntKind.i64.wrap (k : Int) = (k : Int) := i64M (by omega) (by omega)
      have hw1 : IntKind.i64.wrap (1 + 2 * (k : Int) + 1) = 1 + 2 * (k : Int) + 1 := i64M (by omega) (by omega)
      have hw2 : IntKind.i64.wrap (1 + 2 * (k : Int) + 1 + 1) = 1 + 2 * (k : Int) + 1 + 1 := i64M (by omega) (by omega)
      have hw3 : IntKind.i64.wrap ((k : Int) + 1) = (k : Int) + 1 := i64M (by omega) (by omega)
      have e1 : (IntKind.i8.wrap (1 + 2 * (k : Int)) != IntKind.i8.wrap (1 + 2 * (k : Int))) = false := by simp
      have e2 : (IntKind.i8.wrap (1 + 2 * (k : Int) + 1) != IntKind.i8.wrap (1 + 2 * (k : Int) + 1)) = false := by simp
      clear hr hx hr2
      go_wp2
      go_roundw
      case rel => exact ⟨k + 1, by omega, by first | rfl | go_num, by first | (congr 1; done) | (congr 1; push_cast; omega), hb⟩
      case measure => simp [intOf]; omega
    · obtain rfl : k = n := by omega
      have z1 : decide ((k : Int) < (k : Int)) = false := decide_eq_false (by omega)
      go_wp2
      go_ret
      exact ⟨rfl, hb⟩

end Go.Proofs.YtddnfbpgldchcaaDoor

namespace Go.Proofs.YtddnfbpgldchcaaDoor
open Go.ChangeShapes Go.WideShapes Go.ChangeAt Go.RowKit Go.Deep Go.Joins Go.ChangeMaps

/-- What the search answers, and which tiles it has chosen then. -/
def resT (o : List (Int × Int)) : Option (List (Int × Int)) → Bool × List (Int × Int)
  | some r => (true, r)
  | none => (false, o)

/-- Places that are chosen one by one. -/
def gT (ts : List (Int × Int)) (m : Nat) (o : List (Int × Int)) (i : Nat) : Option (List (Int × Int)) := if o.any (fun a => nearT a (ts.getD i (0, 0))) then none else putT ts m (o ++ [ts.getD i (0, 0)]) (i + 1)

theorem put_gT (ts : List (Int × Int)) (m : Nat) (o : List (Int × Int)) (f : Nat) : putT ts (m + 1) o f = (List.range' f (ts.length - f)).findSome? (gT ts m o) := rfl

theorem i64P {z : Int} (h0 : -1000 ≤ z) (h1 : z ≤ 1000) : IntKind.i64.wrap z = z := by rw [IntWalk.i64_in _ (by omega)]

theorem nearT_self (p : Int × Int) : nearT p p = true := nearT_iff.2 (by omega)

set_option maxRecDepth 100000 in
theorem enterPl (args : Array Value) (w : World) : (callFunc 39 args).run Tryd.prog w = .ok (.enter 39 args) w := by
  first | kernel_rfl | rfl | simp [callFunc]

set_option maxRecDepth 100000 in
set_option maxHeartbeats 8000000 in
theorem place_any (W0 : World) (D : Nat) (od : Obj) (n g5 g8 gt g10 gm g11 g12 : Nat) (bv : Value) (ts : List (Int × Int)) (hts : ∀ p ∈ ts, okT p) (hn : n ≤ 100) (hl : ts.length ≤ 100) :
    ∀ (m : Nat) (o : List (Int × Int)) (f : Nat) (W : World), o.length + m = n → f ≤ ts.length → (∀ p ∈ o, okT p) → QS W0 D od n g5 g8 gt g10 gm g11 g12 bv ts (.func (.func 39) #[] #[.pointer (some ⟨g5, 0, none⟩), .pointer (some ⟨g8, 0, none⟩), .pointer (some ⟨g11, 0, none⟩), .pointer (some ⟨g10, 0, none⟩), .pointer (some ⟨g12, 0, none⟩)]) (o) W →
    Calls Tryd.prog 39 #[.int .i64 (o.length : Int), .int .i64 (f : Int), .pointer (some ⟨g5, 0, none⟩), .pointer (some ⟨g8, 0, none⟩), .pointer (some ⟨g11, 0, none⟩), .pointer (some ⟨g10, 0, none⟩), .pointer (some ⟨g12, 0, none⟩)] W fun e W' => e = .returned (.bool (resT o (putT ts m o f)).1) ∧ QS W0 D od n g5 g8 gt g10 gm g11 g12 bv ts (.func (.func 39) #[] #[.pointer (some ⟨g5, 0, none⟩), .pointer (some ⟨g8, 0, none⟩), .pointer (some ⟨g11, 0, none⟩), .pointer (some ⟨g10, 0, none⟩), .pointer (some ⟨g12, 0, none⟩)]) ((resT o (putT ts m o f)).2) W' := by
  intro m
  induction m with
  | zero =>
    intro o f W hom hf hok hqs
    have HQS := Lib.hid hqs
    have c5 := hqs.cells.1
    have ze : ((o.length : Int) == (n : Int)) = true := by rw [beq_iff_eq]; omega
    clear hqs
    go_enter Tryd.func39, Tryd.ntmps39
    go_wp2
    go_ret
    exact ⟨rfl, HQS.out⟩
  | succ m ih =>
    intro o f W hom hf hok hqs
    have HQS := Lib.hid hqs
    have HOK := Lib.hid hok
    have HIH := Lib.hid ih
    have HTS := Lib.hid hts
    have c5 := hqs.cells.1
    have ze : ((o.length : Int) == (n : Int)) = false := beq_eq_false_iff_ne.2 (by omega)
    obtain ⟨R, hR⟩ : ∃ R, R = putT ts (m + 1) o f := ⟨_, rfl⟩
    rw [← hR]
    rw [put_gT] at hR
    have HR := Lib.hid hR
    clear hqs hok ih hts hR
    go_enter Tryd.func39, Tryd.ntmps39
    go_upto_region 4 with (fail)
    clear c5 ze
    go_loopw [10] (fun i wr => ∃ k : Nat, k ≤ ts.length ∧ i = .int .i64 (k : Int) ∧ QS W0 D od n g5 g8 gt g10 gm g11 g12 bv ts (.func (.func 39) #[] #[.pointer (some ⟨g5, 0, none⟩), .pointer (some ⟨g8, 0, none⟩), .pointer (some ⟨g11, 0, none⟩), .pointer (some ⟨g10, 0, none⟩), .pointer (some ⟨g12, 0, none⟩)]) (o) wr ∧ R = (List.range' k (ts.length - k)).findSome? (gT ts m o)) (fun i _ => ts.length - (intOf i).toNat)
    case atStart => exact ⟨f, hf, rfl, HQS.out, HR.out⟩
    case round =>
      clear HQS HR
      obtain ⟨k, hk, rfl, hqs, hR⟩ := hrel
      have HQS := Lib.hid hqs
      have c8 := hqs.cells.2.1
      by_cases hlt : k < ts.length
      · obtain ⟨p, hp⟩ : ∃ p, ts[k]? = some p := ⟨_, List.getElem?_eq_getElem hlt⟩
        obtain ⟨gb, cap, cur, rfl, -, hrow, hsz, hex⟩ := tl_get hqs.hbr hp
        have HROW := Lib.hid hrow
        have HSZ := Lib.hid hsz
        have HEX := Lib.hid hex
        have HP := Lib.hid hp
        have HPO := Lib.hid (HTS.out p (List.mem_of_getElem? hp))
        have hgp : ts.getD k (0, 0) = p := by rw [List.getD_eq_getElem?_getD, hp]; rfl
        rw [put_step hlt] at hR
        have hgt : gT ts m o k = if o.any (fun a => nearT a p) then none else putT ts m (o ++ [p]) (k + 1) := by unfold gT; rw [hgp]
        rw [hgt] at hR
        have HR := Lib.hid hR
        have HTO := Lib.hid (fun es ck V hm htm => touches_any p HPO.out o HOK.out gm es ck V hm htm)
        have z0 : (0 : Int) ≤ (k : Int) := by omega
        have z1 : (k : Int) < (ts.length : Int) := by omega
        have hln : o.length < n := by omega
        have z2 : (0 : Int) ≤ (o.length : Int) := by omega
        have z3 : (o.length : Int) < (n : Int) := by omega
        have w1 : IntKind.i64.wrap (k : Int) = (k : Int) := i64P (by omega) (by omega)
        have w2 : IntKind.i64.wrap (o.length : Int) = (o.length : Int) := i64P (by omega) (by omega)
        have e6 : IntKind.i64.wrap ((k : Int) + 1) = ((k + 1 : Nat) : Int) := by rw [i64P (by omega) (by omega)]; rfl
        clear hqs hrow hsz hex hp hgp hgt hR
        go_upto_region 6 with (fail)
        clear c8
        refine wp_region_held_drew (S := (fun X => SL g8 gb gt g10 gm g11 (.slice (some ⟨gb, 0, none⟩) ts.length cap) cur n X)) (by kernel_rfl) ⟨HQS.out.h8, HROW.out, HQS.out.h10, HQS.out.h11⟩ (fun hHeld => ?_)
        refine take_op (i := 0) (d := 21) (v := ?_) rfl rfl (by kernel_rfl) (by kernel_rfl) (by kernel_rfl) (fun _ _ _ h => h) (Or.inl ⟨by rfl, ?hy0u1⟩) hHeld ?rest0u1
        case hy0u1 =>
          intro w' hS'
          have c8 := cell_k (k := 0) hS'.h8 rfl
          have c10 := cell_k (k := 0) hS'.h10 rfl
          have c11 := cell_k (k := 0) hS'.h11 rfl
          go_simp
          try with_reducible rfl
        simp only [List.setIfInBounds_toArray, List.set_cons_zero, List.set_cons_succ]
        refine take_op (i := 1) (d := 22) (v := ?_) rfl rfl (by kernel_rfl) (by kernel_rfl) (by kernel_rfl) (fun _ _ _ h => h) (Or.inl ⟨by rfl, ?hy1u2⟩) hHeld ?rest1u2
        case hy1u2 =>
          intro w' hS'
          have c8 := cell_k (k := 0) hS'.h8 rfl
          have c10 := cell_k (k := 0) hS'.h10 rfl
          have c11 := cell_k (k := 0) hS'.h11 rfl
          go_simp
          try with_reducible rfl
        simp only [List.setIfInBounds_toArray, List.set_cons_zero, List.set_cons_succ]
        refine take_op (i := 2) (d := 23) (v := ?_) rfl rfl (by kernel_rfl) (by kernel_rfl) (by kernel_rfl) (fun _ _ _ h => h) (Or.inl ⟨by rfl, ?hy2u3⟩) hHeld ?rest2u3
        case hy2u3 =>
          intro w' hS'
          go_simp
          try with_reducible rfl
        simp only [List.setIfInBounds_toArray, List.set_cons_zero, List.set_cons_succ]
        refine take_op (i := 3) (d := 24) (v := ?_) rfl rfl (by kernel_rfl) (by kernel_rfl) (by kernel_rfl) (fun _ _ _ h => h) (Or.inl ⟨by rfl, ?hy3u4⟩) hHeld ?rest3u4
        case hy3u4 =>
          intro w' hS'
          go_simp
          try with_reducible rfl
        simp only [List.setIfInBounds_toArray, List.set_cons_zero, List.set_cons_succ]
        refine take_op (i := 4) (d := 25) (v := .agg (tileC p.1 p.2)) rfl rfl (by kernel_rfl) (by kernel_rfl) (by kernel_rfl) (fun _ _ _ h => h) (yields_row (by rfl) 48 (.tmp 24) (by rfl) gb (k * 2) 2 (by rfl) 48 cur (0, 0) _ (fun _ hX => hX.hr) Tryd.underlying48 rfl info_tile HSZ.out (tileC p.1 p.2) HEX.out) hHeld ?_
        simp only [List.setIfInBounds_toArray, List.set_cons_zero, List.set_cons_succ]
        have HQD := Lib.hid (HQS.out.below ((Below.refl _ _).drew))
        clear HQS
        obtain ⟨es0, ck0, hm0, htm0⟩ := HQD.out.hm
        refine wpAnyH_ready (rs := [5]) (by kernel_rfl) (by simp) ?_
        refine AllReadyH.cons rfl (fun K hK => ?_) AllReadyH.nil
        go_simp
        refine (HTO.out es0 ck0 _ hm0 htm0).mono ?_
        rintro e W1 ⟨rfl, hb1⟩
        refine hK.out _ _ (⟨below_row hb1 hHeld.h8, below_row hb1 hHeld.hr, below_row hb1 hHeld.h10, below_row hb1 hHeld.h11⟩) (fun hHeld2 => ?_)
        clear hK K
        replace hHeld := hHeld2
        clear hHeld2
        have HQS := Lib.hid (HQD.out.below hb1)
        have HROW := Lib.hid hHeld.hr
        clear HQD hm0 htm0 hb1 hHeld
        refine wpAnyH_done (by kernel_rfl) ?_ _
        cases hnear : o.any (fun a => nearT a p) with
        | true =>
          rw [hnear] at HR
          have e7 : IntKind.i64.wrap ((k : Int) + 1) = (k : Int) + 1 := by rw [e6]; rfl
          clear e6
          go_wp2
          go_roundw
          case rel => exact ⟨k + 1, by omega, by first | rfl | go_num, HQS.out, HR.out⟩
          case measure => simp [intOf]; omega
        | false =>
          rw [hnear] at HR
          have HPN : Hid (¬ p ∈ o) := Lib.hid (fun hpo => by
            have : o.any (fun a => nearT a p) = true := List.any_eq_true.2 ⟨p, hpo, nearT_self p⟩
            rw [hnear] at this
            cases this)
          clear hnear
          go_upto_region 7 with (fail)
          refine wp_region_held_drew (S := (fun X => SL g8 gb gt g10 gm g11 (.slice (some ⟨gb, 0, none⟩) ts.length cap) cur n X)) (by kernel_rfl) ⟨HQS.out.h8, HROW.out, HQS.out.h10, HQS.out.h11⟩ (fun hHeld => ?_)
          refine take_op (i := 0) (d := 27) (v := ?_) rfl rfl (by kernel_rfl) (by kernel_rfl) (by kernel_rfl) (fun _ _ _ h => h) (Or.inl ⟨by rfl, ?hy0u5⟩) hHeld ?rest0u5
          case hy0u5 =>
            intro w' hS'
            have c8 := cell_k (k := 0) hS'.h8 rfl
            have c10 := cell_k (k := 0) hS'.h10 rfl
            have c11 := cell_k (k := 0) hS'.h11 rfl
            go_simp
            try with_reducible rfl
          simp only [List.setIfInBounds_toArray, List.set_cons_zero, List.set_cons_succ]
          refine take_op (i := 1) (d := 28) (v := ?_) rfl rfl (by kernel_rfl) (by kernel_rfl) (by kernel_rfl) (fun _ _ _ h => h) (Or.inl ⟨by rfl, ?hy1u6⟩) hHeld ?rest1u6
          case hy1u6 =>
            intro w' hS'
            go_simp
            try with_reducible rfl
          simp only [List.setIfInBounds_toArray, List.set_cons_zero, List.set_cons_succ]
          refine take_op (i := 2) (d := 29) (v := ?_) rfl rfl (by kernel_rfl) (by kernel_rfl) (by kernel_rfl) (fun _ _ _ h => h) (Or.inl ⟨by rfl, ?hy2u7⟩) hHeld ?rest2u7
          case hy2u7 =>
            intro w' hS'
            have c8 := cell_k (k := 0) hS'.h8 rfl
            have c10 := cell_k (k := 0) hS'.h10 rfl
            have c11 := cell_k (k := 0) hS'.h11 rfl
            go_simp
            try with_reducible rfl
          simp only [List.setIfInBounds_toArray, List.set_cons_zero, List.set_cons_succ]
          refine take_op (i := 3) (d := 30) (v := ?_) rfl rfl (by kernel_rfl) (by kernel_rfl) (by kernel_rfl) (fun _ _ _ h => h) (Or.inl ⟨by rfl, ?hy3u8⟩) hHeld ?rest3u8
          case hy3u8 =>
            intro w' hS'
            go_simp
            try with_reducible rfl
          simp only [List.setIfInBounds_toArray, List.set_cons_zero, List.set_cons_succ]
          refine take_op (i := 4) (d := 31) (v := ?_) rfl rfl (by kernel_rfl) (by kernel_rfl) (by kernel_rfl) (fun _ _ _ h => h) (Or.inl ⟨by rfl, ?hy4u9⟩) hHeld ?rest4u9
          case hy4u9 =>
            intro w' hS'
            go_simp
            try with_reducible rfl
          simp only [List.setIfInBounds_toArray, List.set_cons_zero, List.set_cons_succ]
          refine take_op (i := 5) (d := 32) (v := .agg (tileC p.1 p.2)) rfl rfl (by kernel_rfl) (by kernel_rfl) (by kernel_rfl) (fun _ _ _ h => h) (yields_row (by rfl) 48 (.tmp 31) (by rfl) gb (k * 2) 2 (by rfl) 48 cur (0, 0) _ (fun _ hX => hX.hr) Tryd.underlying48 rfl info_tile HSZ.out (tileC p.1 p.2) HEX.out) hHeld ?_
          simp only [List.setIfInBounds_toArray, List.set_cons_zero, List.set_cons_succ]
          refine take_op (i := 6) (d := 33) (v := ?_) rfl rfl (by kernel_rfl) (by kernel_rfl) (by kernel_rfl) (fun _ _ _ h => h) (Or.inl ⟨by rfl, ?hy6u10⟩) hHeld ?rest6u10
          case hy6u10 =>
            intro w' hS'
            go_simp
            try with_reducible rfl
          simp only [List.setIfInBounds_toArray, List.set_cons_zero, List.set_cons_succ]
          have HQD := Lib.hid (HQS.out.below ((Below.refl _ _).drew))
          clear HQS
          generalize W1.drew = X1 at *
          obtain ⟨ct, rest, ht1, ht2, ht3⟩ := HQD.out.ht
          have hst : (storeCells ⟨gt, o.length * 2, none⟩ (tileC p.1 p.2).toList).run Tryd.prog X1 = .ok () (X1.setRow gt (ct.toList.take (o.length * 2) ++ (tileC p.1 p.2).toList ++ ct.toList.drop (o.length * 2 + 2)).toArray) := run_storeCells_at (P := Tryd.prog) gt (o.length * 2) 48 (tileC p.1 p.2).toList 0 ct X1 ht1 (by show o.length * 2 + 0 + 2 ≤ ct.size; omega) (fun v hv => tile_one p.1 p.2 v (by simpa using hv))
          have hti := HQD.out.tile (p := p) hln ht1 ht2 ht3
          obtain ⟨cn, hcn⟩ : ∃ cn, cn = (ct.toList.take (o.length * 2) ++ (tileC p.1 p.2).toList ++ ct.toList.drop (o.length * 2 + 2)).toArray := ⟨_, rfl⟩
          rw [← hcn] at hst hti
          clear hcn ht2 ht3
          have hgb := HQD.out.hlt gb rfl
          refine wpAnyH_ready (rs := [7]) (by kernel_rfl) (by simp) ?_
          refine AllReadyH.cons rfl (fun K hK => ?_) AllReadyH.nil
          go_simp
          refine hK.out _ _ ⟨(setRow_other _ _ _ _ (by have := HQD.out.l1; omega)).trans hHeld.h8, (setRow_other _ _ _ _ (by omega)).trans hHeld.hr, (setRow_other _ _ _ _ (by have := HQD.out.l2; omega)).trans hHeld.h10, (setRow_other _ _ _ _ (by have := HQD.out.l2; have := HQD.out.l3; have := HQD.out.l4; omega)).trans hHeld.h11⟩ (fun hHeld2 => ?_)
          clear hK K hst ht1
          replace hHeld := hHeld2
          clear hHeld2 HQD
          generalize X1.setRow gt cn = X2 at *
          obtain ⟨hq1, hq2⟩ := hti
          have HQS := Lib.hid hq1
          have HTI := Lib.hid hq2
          clear hq1 hq2
          refine wpAnyH_done (by kernel_rfl) ?_ _
          replace HROW := Lib.hid hHeld.hr
          clear hHeld
          go_upto_region 8 with (fail)
          try dsimp only [Act.put]
          refine wp_region_held_drew (S := (fun X => SL g8 gb gt g10 gm g11 (.slice (some ⟨gb, 0, none⟩) ts.length cap) cur n X)) (by kernel_rfl) ⟨HQS.out.h8, HROW.out, HQS.out.h10, HQS.out.h11⟩ (fun hHeld => ?_)
          refine take_op (i := 0) (d := 34) (v := ?_) rfl rfl (by kernel_rfl) (by kernel_rfl) (by kernel_rfl) (fun _ _ _ h => h) (Or.inl ⟨by rfl, ?hy0u11⟩) hHeld ?rest0u11
          case hy0u11 =>
            intro w' hS'
            have c8 := cell_k (k := 0) hS'.h8 rfl
            have c10 := cell_k (k := 0) hS'.h10 rfl
            have c11 := cell_k (k := 0) hS'.h11 rfl
            go_simp
            try with_reducible rfl
          simp only [List.setIfInBounds_toArray, List.set_cons_zero, List.set_cons_succ]
          refine take_op (i := 1) (d := 35) (v := ?_) rfl rfl (by kernel_rfl) (by kernel_rfl) (by kernel_rfl) (fun _ _ _ h => h) (Or.inl ⟨by rfl, ?hy1u12⟩) hHeld ?rest1u12
          case hy1u12 =>
            intro w' hS'
            have c8 := cell_k (k := 0) hS'.h8 rfl
            have c10 := cell_k (k := 0) hS'.h10 rfl
            have c11 := cell_k (k := 0) hS'.h11 rfl
            go_simp
            try with_reducible rfl
          simp only [List.setIfInBounds_toArray, List.set_cons_zero, List.set_cons_succ]
          refine take_op (i := 2) (d := 36) (v := ?_) rfl rfl (by kernel_rfl) (by kernel_rfl) (by kernel_rfl) (fun _ _ _ h => h) (Or.inl ⟨by rfl, ?hy2u13⟩) hHeld ?rest2u13
          case hy2u13 =>
            intro w' hS'
            go_simp
            try with_reducible rfl
          simp only [List.setIfInBounds_toArray, List.set_cons_zero, List.set_cons_succ]
          refine take_op (i := 3) (d := 37) (v := ?_) rfl rfl (by kernel_rfl) (by kernel_rfl) (by kernel_rfl) (fun _ _ _ h => h) (Or.inl ⟨by rfl, ?hy3u14⟩) hHeld ?rest3u14
          case hy3u14 =>
            intro w' hS'
            go_simp
            try with_reducible rfl
          simp only [List.setIfInBounds_toArray, List.set_cons_zero, List.set_cons_succ]
          refine take_op (i := 4) (d := 38) (v := .agg (tileC p.1 p.2)) rfl rfl (by kernel_rfl) (by kernel_rfl) (by kernel_rfl) (fun _ _ _ h => h) (yields_row (by rfl) 48 (.tmp 37) (by rfl) gb (k * 2) 2 (by rfl) 48 cur (0, 0) _ (fun _ hX => hX.hr) Tryd.underlying48 rfl info_tile HSZ.out (tileC p.1 p.2) HEX.out) hHeld ?_
          simp only [List.setIfInBounds_toArray, List.set_cons_zero, List.set_cons_succ]
          have HQD := Lib.hid (HQS.out.below ((Below.refl _ _).drew))
          have HTD : Hid (∃ (cur2 : Array Value) (rest2 : List Value), X2.drew.heap[gt]? = some (.cells cur2 48 (0, 0)) ∧ cur2.toList = tlV (o ++ [p]) ++ rest2 ∧ cur2.size = n * 2) := HTI.out
          clear HQS HTI
          generalize X2.drew = X3 at *
          obtain ⟨es0, ck0, hm0, htm0⟩ := HQD.out.hm
          obtain ⟨es1, ck1, hrun, htm1⟩ := tm_put kT_law2 Tryd.underlying77 hm0 kvT_inj htm0 (fun q hq => kT_ok (HOK.out q hq)) (kT_ok HPO.out) HPN.out
          have hrun' : (Instr.mapUpdate 77 (.map (some gm)) (.agg (tileC p.1 p.2)) (.bool true)).run Tryd.prog X3 = .ok () (setBlock X3 gm (.map es1 ck1)) := hrun
          clear hrun
          have hmo := Lib.hid (HQD.out.more (ck' := ck1) HTD.out hm0 htm1)
          have hgb := HQD.out.hlt gb rfl
          refine wpAnyH_ready (rs := [5]) (by kernel_rfl) (by simp) ?_
          refine AllReadyH.cons rfl (fun K hK => ?_) AllReadyH.nil
          go_simp
          refine hK.out _ _ ⟨(heap_setBlock_other hm0 _ (by have := HQD.out.l1; have := HQD.out.l2; have := HQD.out.l3; omega)).trans hHeld.h8, (heap_setBlock_other hm0 _ (by have := HQD.out.l2; have := HQD.out.l3; omega)).trans hHeld.hr, (heap_setBlock_other hm0 _ (by have := HQD.out.l3; omega)).trans hHeld.h10, (heap_setBlock_other hm0 _ (by have := HQD.out.l4; omega)).trans hHeld.h11⟩ (fun hHeld2 => ?_)
          clear hK K hrun' htm1 htm0 hHeld2 hHeld HQD HTD
          generalize setBlock X3 gm (.map es1 ck1) = X4 at *
          have HQS := Lib.hid hmo.out
          clear hmo hm0 HROW
          refine wpAnyH_done (by kernel_rfl) ?_ _
          have e5 : IntKind.i64.wrap ((o.length : Int) + 1) = (o.length : Int) + 1 := i64P (by omega) (by omega)
          have e7 : IntKind.i64.wrap ((k : Int) + 1) = (k : Int) + 1 := i64P (by omega) (by omega)
          have hpl : (((o ++ [p]).length : Nat) : Int) = (o.length : Int) + 1 := by rw [List.length_append, List.length_singleton]; rfl
          have hkl : ((k + 1 : Nat) : Int) = (k : Int) + 1 := rfl
          clear e6
          have hI2 := fun V hV => HIH.out (o ++ [p]) (k + 1) V (by rw [List.length_append, List.length_singleton]; omega) (by omega) (fun q hq => by
            rcases List.mem_append.1 hq with hq | hq
            · exact HOK.out q hq
            · rw [List.mem_singleton.1 hq]; exact HPO.out) hV
          have c12 := HQS.out.cells.2.2.2.2
          have enterPl' := enterPl
          rw [hpl, hkl] at hI2
          clear hpl hkl
          cases hr : putT ts m (o ++ [p]) (k + 1) with
          | some r =>
            rw [hr] at hI2 HR
            have HI2 := Lib.hid hI2
            have HRR : Hid (R = some r) := Lib.hid HR.out
            clear hI2 HR
            go_wp2_with (go_at_call 39; refine (HI2.out _ HQS.out).mono ?_; rintro e V5 ⟨rfl, hq5⟩; have HQ5 := Lib.hid hq5; clear hq5; dsimp only [resT])
            go_ret
            exact ⟨by rw [HRR.out]; rfl, by rw [HRR.out]; exact HQ5.out⟩
          | none =>
            rw [hr] at hI2 HR
            have HI2 := Lib.hid hI2
            have HRR : Hid (R = (List.range' (k + 1) (ts.length - (k + 1))).findSome? (gT ts m o)) := Lib.hid HR.out
            clear hI2 HR
            go_upto_region 11 with (go_at_call 39; refine (HI2.out _ HQS.out).mono ?_; rintro e V5 ⟨rfl, hq5⟩; have HQ5 := Lib.hid hq5; clear hq5; dsimp only [resT])
            clear HQS HI2 c12 enterPl'
            have HQS := HQ5
            clear HQ5
            obtain ⟨gb2, cap2, cur2, hbe, -, hrow2, hsz2, hex2⟩ := tl_get HQS.out.hbr HP.out
            injection hbe with hbe1 hbe2 hbe3
            obtain rfl : gb = gb2 := by simpa using hbe1
            have HROW := Lib.hid hrow2
            have HSZ2 := Lib.hid hsz2
            have HEX2 := Lib.hid hex2
            clear hrow2 hsz2 hex2 hbe1 hbe2
            refine wp_region_held_drew (S := (fun X => SL g8 gb gt g10 gm g11 (.slice (some ⟨gb, 0, none⟩) ts.length cap) cur2 n X)) (by kernel_rfl) ⟨HQS.out.h8, HROW.out, HQS.out.h10, HQS.out.h11⟩ (fun hHeld => ?_)
            refine take_op (i := 0) (d := 45) (v := ?_) rfl rfl (by kernel_rfl) (by kernel_rfl) (by kernel_rfl) (fun _ _ _ h => h) (Or.inl ⟨by rfl, ?hy0u15⟩) hHeld ?rest0u15
            case hy0u15 =>
              intro w' hS'
              have c8 := cell_k (k := 0) hS'.h8 rfl
              have c10 := cell_k (k := 0) hS'.h10 rfl
              have c11 := cell_k (k := 0) hS'.h11 rfl
              go_simp
              try with_reducible rfl
            simp only [List.setIfInBounds_toArray, List.set_cons_zero, List.set_cons_succ]
            refine take_op (i := 1) (d := 46) (v := ?_) rfl rfl (by kernel_rfl) (by kernel_rfl) (by kernel_rfl) (fun _ _ _ h => h) (Or.inl ⟨by rfl, ?hy1u16⟩) hHeld ?rest1u16
            case hy1u16 =>
              intro w' hS'
              have c8 := cell_k (k := 0) hS'.h8 rfl
              have c10 := cell_k (k := 0) hS'.h10 rfl
              have c11 := cell_k (k := 0) hS'.h11 rfl
              go_simp
              try with_reducible rfl
            simp only [List.setIfInBounds_toArray, List.set_cons_zero, List.set_cons_succ]
            refine take_op (i := 2) (d := 47) (v := ?_) rfl rfl (by kernel_rfl) (by kernel_rfl) (by kernel_rfl) (fun _ _ _ h => h) (Or.inl ⟨by rfl, ?hy2u17⟩) hHeld ?rest2u17
            case hy2u17 =>
              intro w' hS'
              go_simp
              try with_reducible rfl
            simp only [List.setIfInBounds_toArray, List.set_cons_zero, List.set_cons_succ]
            refine take_op (i := 3) (d := 48) (v := ?_) rfl rfl (by kernel_rfl) (by kernel_rfl) (by kernel_rfl) (fun _ _ _ h => h) (Or.inl ⟨by rfl, ?hy3u18⟩) hHeld ?rest3u18
            case hy3u18 =>
              intro w' hS'
              go_simp
              try with_reducible rfl
            simp only [List.setIfInBounds_toArray, List.set_cons_zero, List.set_cons_succ]
            refine take_op (i := 4) (d := 49) (v := .agg (tileC p.1 p.2)) rfl rfl (by kernel_rfl) (by kernel_rfl) (by kernel_rfl) (fun _ _ _ h => h) (yields_row (by rfl) 48 (.tmp 48) (by rfl) gb (k * 2) 2 (by rfl) 48 cur2 (0, 0) _ (fun _ hX => hX.hr) Tryd.underlying48 rfl info_tile HSZ2.out (tileC p.1 p.2) HEX2.out) hHeld ?_
            simp only [List.setIfInBounds_toArray, List.set_cons_zero, List.set_cons_succ]
            have HQD := Lib.hid (HQS.out.below ((Below.refl _ _).drew))
            clear HQS
            generalize V5.drew = X5 at *
            obtain ⟨es0, ck0, hm0, htm0⟩ := HQD.out.hm
            obtain ⟨es1, hrun, htm1⟩ := tm_del kT_law2 Tryd.underlying77 hm0 kvT_inj htm0 (fun q hq => kT_ok (HOK.out q hq)) (kT_ok HPO.out) HPN.out
            have hrun' : ∀ ty, (Builtin.delete_ #[77, 48] ty #[.map (some gm), .agg (tileC p.1 p.2)]).run Tryd.prog X5 = .ok (.tuple #[]) (setBlock X5 gm (.map es1 ck0)) := hrun
            clear hrun
            have hmo := Lib.hid (HQD.out.less (ck' := ck0) hm0 htm1)
            have hgb := HQD.out.hlt gb rfl
            refine wpAnyH_ready (rs := [5]) (by kernel_rfl) (by simp) ?_
            refine AllReadyH.cons rfl (fun K hK => ?_) AllReadyH.nil
            go_simp
            refine hK.out _ _ ⟨(heap_setBlock_other hm0 _ (by have := HQD.out.l1; have := HQD.out.l2; have := HQD.out.l3; omega)).trans hHeld.h8, (heap_setBlock_other hm0 _ (by have := HQD.out.l2; have := HQD.out.l3; omega)).trans hHeld.hr, (heap_setBlock_other hm0 _ (by have := HQD.out.l3; omega)).trans hHeld.h10, (heap_setBlock_other hm0 _ (by have := HQD.out.l4; omega)).trans hHeld.h11⟩ (fun hHeld2 => ?_)
            clear hK K hrun' htm1 htm0 hHeld2 hHeld HQD
            generalize setBlock X5 gm (.map es1 ck0) = X6 at *
            have HQS := Lib.hid hmo.out
            clear hmo hm0 HROW
            refine wpAnyH_done (by kernel_rfl) ?_ _
            clear e5
            go_wp2
            go_roundw
            case rel => exact ⟨k + 1, by omega, by first | rfl | go_num, HQS.out, HRR.out⟩
            case measure => simp [intOf]; omega
      · obtain rfl : k = ts.length := by omega
        rw [put_end] at hR
        have HR := Lib.hid hR
        clear hqs hR
        have z1 : decide ((ts.length : Int) < (ts.length : Int)) = false := decide_eq_false (by omega)
        have hbl : ∃ a c, bv = .slice a ts.length c := by
          rcases HQS.out.hbr.2 with ⟨e, hz⟩ | ⟨g, c, cu, e, -⟩
          · exact ⟨none, 0, by rw [e, hz]⟩
          · exact ⟨_, c, e⟩
        obtain ⟨a, c, rfl⟩ := hbl
        go_wp2
        go_ret
        exact ⟨by rw [HR.out]; rfl, by rw [HR.out]; exact HQS.out⟩

end Go.Proofs.YtddnfbpgldchcaaDoor

namespace Go.Proofs.YtddnfbpgldchcaaDoor
open Go.ChangeShapes Go.WideShapes Go.ChangeAt Go.RowKit Go.Deep Go.Joins Go.Shelf Go.ChangeMaps

attribute [local go_sem] Oper.semAt_some run_store_floatE

set_option maxRecDepth 100000 in
theorem u16_or10 : ∀ x : Fin 10, ∀ t : Fin 1024, bits .or .u16 (t.val : Int) (2 ^ x.val) = ((t.val ||| 2 ^ x.val : Nat) : Int) := by decide +kernel

set_option maxRecDepth 100000 in
theorem u16_bit10 : ∀ x : Fin 10, ∀ t : Fin 1024, (bits .and .u16 ((t.val : Int) / 2 ^ x.val) 1 == 1) = t.val.testBit x.val := by decide +kernel

/-- Which bits of a row of lit tiles are set. -/
theorem litN_bits (P : Nat → Bool) (W : Nat) (hW : 0 < W) (hW1 : W ≤ 10) : ∀ k, k ≤ W * 10 → ∀ y, y < 10 → ∃ m : Nat, m < 1024 ∧ (litN P W k)[y]? = some (m : Int) ∧ ∀ x, x < W → m.testBit x = (decide (y * W + x < k) && P (y * W + x))
  | 0, _, y, hy => by
    refine ⟨0, by decide, ?_, fun x hx => by simp⟩
    show zU[y]? = _
    match y, hy with
    | 0, _ => rfl
    | 1, _ => rfl
    | 2, _ => rfl
    | 3, _ => rfl
    | 4, _ => rfl
    | 5, _ => rfl
    | 6, _ => rfl
    | 7, _ => rfl
    | 8, _ => rfl
    | 9, _ => rfl
  | k + 1, hk, y, hy => by
    obtain ⟨m, hm, hmy, hb⟩ := litN_bits P W hW hW1 k (by omega) y hy
    have hmod := Nat.mod_lt k hW
    have hdm := Nat.div_add_mod k W
    have hkd : k / W < 10 := (Nat.div_lt_iff_lt_mul hW).2 (by rw [Nat.mul_comm]; omega)
    have key : ∀ x, x < W → (y * W + x = k ↔ (y = k / W ∧ x = k % W)) := fun x hx => by
      constructor
      · intro e
        subst e
        have e1 : (y * W + x) % W = x := by rw [Nat.mul_comm, Nat.mul_add_mod]; exact Nat.mod_eq_of_lt hx
        have e2 : (y * W + x) / W = y := by rw [Nat.mul_comm, Nat.mul_add_div hW, Nat.div_eq_of_lt hx, Nat.add_zero]
        exact ⟨e2.symm, e1.symm⟩
      · rintro ⟨rfl, rfl⟩
        rw [Nat.mul_comm]; exact hdm
    rw [litN]
    cases hp : P k with
    | false =>
      rw [if_neg (by decide)]
      refine ⟨m, hm, hmy, fun x hx => ?_⟩
      rw [hb x hx]
      by_cases e : y * W + x = k
      · rw [e, hp, Bool.and_false, Bool.and_false]
      · have : decide (y * W + x < k + 1) = decide (y * W + x < k) := by rw [decide_eq_decide]; omega
        rw [this]
    | true =>
      rw [if_pos rfl]
      by_cases ey : y = k / W
      · subst ey
        have hln := litN_len P W k
        have h10 : k % W < 10 := by omega
        have hgd : (litN P W k)[k / W]?.getD 0 = (m : Int) := by rw [hmy]; rfl
        rw [hgd, u16_or10 ⟨k % W, h10⟩ ⟨m, hm⟩]
        refine ⟨m ||| 2 ^ (k % W), ?_, by rw [List.getElem?_set_self (by omega)], fun x hx => ?_⟩
        · exact Nat.or_lt_two_pow (n := 10) hm (Nat.pow_lt_pow_right (by decide) h10)
        · rw [Nat.testBit_or, Nat.testBit_two_pow, hb x hx]
          by_cases ex : k % W = x
          · subst ex
            have e2 := (key (k % W) hx).2 ⟨rfl, rfl⟩
            rw [e2, hp]
            simp
          · have hne : k / W * W + x ≠ k := fun e => ex ((key x hx).1 e).2.symm
            have : decide (k / W * W + x < k + 1) = decide (k / W * W + x < k) := by rw [decide_eq_decide]; omega
            rw [this, decide_eq_false ex, Bool.or_false]
      · refine ⟨m, hm, by rw [List.getElem?_set_ne (fun e => ey e.symm)]; exact hmy, fun x hx => ?_⟩
        rw [hb x hx]
        have hne : y * W + x ≠ k := fun e => ey ((key x hx).1 e).1
        have : decide (y * W + x < k + 1) = decide (y * W + x < k) := by rw [decide_eq_decide]; omega
        rw [this]

/-- The bit of a tile is whether it is lit. -/
theorem lit_bit (P : Nat → Bool) (W H : Nat) (hW : 0 < W) (hW1 : W ≤ 10) (hH1 : H ≤ 10) {x y : Nat} (hx : x < W) (hy : y < H) : (bits .and .u16 ((litN P W (W * H))[y]?.getD 0 / 2 ^ x) 1 == 1) = P (y * W + x) := by
  obtain ⟨m, hm, hmy, hb⟩ := litN_bits P W hW hW1 (W * H) (Nat.mul_le_mul_left W hH1) y (by omega)
  have hgd : (litN P W (W * H))[y]?.getD 0 = (m : Int) := by rw [hmy]; rfl
  rw [hgd, u16_bit10 ⟨x, by omega⟩ ⟨m, hm⟩]
  show m.testBit x = _
  have hlt : y * W + x < W * H := by
    have h2 : (y + 1) * W ≤ H * W := Nat.mul_le_mul_right W (by omega)
    rw [Nat.add_mul, Nat.one_mul] at h2
    rw [Nat.mul_comm W H]
    omega
  rw [hb x hx, decide_eq_true hlt, Bool.true_and]

/-- Those of the tiles that have come that are lit. -/
def brT {W H : Nat} (E : Int × Int → Bool) (pre : List (Tt W H)) : List (Int × Int) := (pre.filter (fun x => E x.1)).map (fun x => x.1)

theorem brT_no {W H : Nat} {E : Int × Int → Bool} {pre : List (Tt W H)} {x : Tt W H} (h : E x.1 = false) : brT E (pre ++ [x]) = brT E pre := by
  unfold brT; rw [List.filter_append, List.filter_cons, h]; simp

theorem brT_yes {W H : Nat} {E : Int × Int → Bool} {pre : List (Tt W H)} {x : Tt W H} (h : E x.1 = true) : brT E (pre ++ [x]) = brT E pre ++ [x.1] := by
  unfold brT; rw [List.filter_append, List.filter_cons, h]; simp

theorem brT_len {W H : Nat} (E : Int × Int → Bool) (pre : List (Tt W H)) : (brT E pre).length ≤ pre.length := by
  unfold brT; rw [List.length_map]; exact List.length_filter_le _ _

theorem brT_ok {W H : Nat} (hW1 : W ≤ 10) (hH1 : H ≤ 10) (E : Int × Int → Bool) (pre : List (Tt W H)) : ∀ p ∈ brT E pre, okT p := by
  intro p hp
  unfold brT at hp
  obtain ⟨x, -, rfl⟩ := List.mem_map.1 hp
  obtain ⟨a, b, c, d⟩ := x.2
  exact ⟨⟨a, by omega⟩, c, by omega⟩

theorem put_len {ts : List (Int × Int)} : ∀ (m : Nat) (o : List (Int × Int)) (f : Nat) (r : List (Int × Int)), putT ts m o f = some r → r.length = o.length + m
  | 0, o, f, r, h => by
    simp only [putT, Option.some.injEq] at h
    subst h; rfl
  | m + 1, o, f, r, h => by
    rw [put_gT] at h
    obtain ⟨i, -, hi⟩ := List.exists_of_findSome?_eq_some h
    unfold gT at hi
    split at hi
    · cases hi
    · have := put_len m _ _ _ hi
      rw [List.length_append, List.length_singleton] at this
      omega

/-- What the walk over the tiles keeps. -/
def PuI (W H : Nat) (w : World) (sv : Value) (xs : List Int) (mn : Nat) (b4 b5 b8 gb : Nat) (E : Int × Int → Bool) (pre : List (Tt W H)) (V : World) : Prop :=
  (∃ v, Boxed V b8 28 v ∧ V.ownsRow w.heap.size 48 2 v (brT E pre).length (tlV (brT E pre)) ∧ True) ∧ V.heap[b4]? = some (.cells (u16s xs) 60 (0, 0)) ∧ V.heap[b5]? = some (.cells #[.int .i64 (mn : Int)] 3 (0, 0)) ∧ V.heap[gb]? = some (.cells (roomC (W : Int) (H : Int) sv) 33 (0, 0)) ∧ Below w.heap.size w V

theorem puI_own (W H : Nat) (w : World) (sv : Value) (xs : List Int) (mn : Nat) (b4 b5 b8 gb : Nat) (E : Int × Int → Bool) (B : Nat) (hB : w.heap.size ≤ B) : OwnFrom B (PuI W H w sv xs mn b4 b5 b8 gb E) := by
  intro s V V' row ⟨h1, h4, h5, hg, hb⟩ hg' hr
  have hr2 := fun r e => (hr r e).2
  exact ⟨Go.holdsRow_own w.heap.size b8 28 48 2 (fun pre : List (Tt W H) => (brT E pre).length) (fun pre => tlV (brT E pre)) (fun _ _ => True) s V V' row h1 hg' hr2, heap_keptWE h4 hg' hr2, heap_keptWE h5 hg' hr2, heap_keptWE hg hg' hr2, ownFrom_below (β := Unit) (Nat.le_refl _) hB () V V' row hb hg' hr⟩

theorem keep_appP {W w1 : World} {g : Nat} {o tmp : Obj} {v : Value} (h : W.heap[g]? = some o) (hne : some g ≠ v.ownBlock) (hg : (W.alloc tmp).grownBy w1 v.ownBlock) : w1.heap[g]? = some o := by
  have h1 : (W.alloc tmp).heap[g]? = some o := below_row ((Below.refl W.heap.size W).alloc (Nat.le_refl _) _) h
  exact (hg.block g (row_lt h1) hne).trans h1
theorem ne_objP {W : World} {a b : Nat} {o1 o2 : Obj} (h1 : W.heap[a]? = some o1) (h2 : W.heap[b]? = some o2) (ho : o1 ≠ o2) : a ≠ b := fun e => ho (by subst e; rw [h1] at h2; exact Option.some.inj h2)
theorem ownsRow_succP {W : World} {base s k : Nat} {e : TypeId} {v : Value} {xs : List Value} (h : W.ownsRow base e s v (k + 1) xs) : ∃ g cap, v = .slice (some ⟨g, 0, none⟩) (k + 1) cap := by
  rcases h.2 with ⟨_, hz⟩ | ⟨g, cap, cur, hv, _⟩
  · omega
  · exact ⟨g, cap, hv⟩
theorem row_neP {W : World} {g base k s : Nat} {o : Obj} {e : TypeId} {v : Value} {xs : List Value} (h : W.heap[g]? = some o) (hne : ∀ cs fr, o ≠ .cells cs e fr) (hr : W.ownsRow base e s v k xs) : some g ≠ v.ownBlock := by
  intro ev
  rcases hr.2 with ⟨rfl, _⟩ | ⟨g', cap, cur, rfl, _, hc, _⟩
  · cases ev
  · obtain rfl : g = g' := by simpa [Value.ownBlock] using ev
    rw [h] at hc
    exact hne _ _ (Option.some.inj hc)

theorem make_tiles (n : Nat) (hn : n ≤ 1000) (w : World) : (Instr.makeSlice 28 (.int .i64 (n : Int)) (.int .i64 (n : Int))).run Tryd.prog w = .ok (.slice (some ⟨w.heap.size, 0, none⟩) n n) (w.alloc (.cells (madeCells #[.int .i8 0, .int .i8 0] (n * 2)) 48)) := by
  obtain ⟨i0, hi, hz0, hz1, hz2⟩ := info_parts infoTE
  have h := run_make (P := Tryd.prog) w 28 48 i0 _ Tryd.underlying28 hi hz0 .i64 .i64 (n : Int) (n : Int) (by omega) (Int.le_refl _) (by rw [hz2]; omega) (by omega)
  rw [hz1] at h
  simpa [Value.cells] using h

end Go.Proofs.YtddnfbpgldchcaaDoor
