/-
  A map of the call's own whose entries are written out: a store at a new key, a look-up at a key that it has, or has not. No program is named.
-/
import Derived.Maps.Keyed
import Derived.DeepKeys4
import Derived.MapViews
import Derived.Carry
import Derived.OwnWalk
import Derived.Test.YtddnfbpgldchcaaTake
namespace Go.Proofs.Ytddnfbpgldchcaa
open Go Go.RowKit Go.ChangeMaps Go.MapKept
open Go.Maps (Keyed)

section
variable {P : Program}

theorem wpList_mapUpdate_new {w : World} {ops : Array Oper} {rest : List Oper} {o : Oper} {a : Act} {Q : Exit → Act → World → Prop}
    (hg : o.guard = none) (m x v : Operand) (t : TypeId) (hop : o.op = Op.mapUpdate t m x v)
    (k e : TypeId) (K : Keyed P k) (ht : P.underlying t = some (.map k e)) (b : Nat) (es : Array MapEntry) (clock : Nat) (hb : w.heap[b]? = some (.map es clock))
    (hm : a.eval m = .map (some b)) (key val : Value) (hx : a.eval x = key) (hv : a.eval v = val) (hkey : ∃ l, keyOf P k key = some l)
    (hes : ∀ y ∈ es.toList, ∃ l, keyOf P k y.key = some l) (hne : ∀ y ∈ es.toList, y.key ≠ key)
    (h : wpList P ops Q rest (a.put o.dst undef) (setBlock w b (.map (es.push { key, val, born := clock }) (clock + 1)))) : wpList P ops Q (o :: rest) a w := by
  obtain ⟨kl, hkey⟩ := hkey
  refine wpList_plain hg fun K' hK' => ?_
  have h1 : (Instr.findKey k key es.toList).run P w = .ok none w := by
    rcases K.find w hkey es.toList hes with ⟨h1, _⟩ | ⟨j, e0, _, h2, h3⟩
    · exact h1
    · exact absurd h3 (hne _ (List.mem_of_getElem? h2))
  have hrun : (Instr.mapUpdate t (.map (some b)) key val).run P w = .ok () (setBlock w b (.map (es.push { key, val, born := clock }) (clock + 1))) := by
    simp [Instr.mapUpdate, run_underlying ht, MapKept.run_getObj_map hb, K.check w false hkey, h1, MapKept.run_setObj_map _ hb, Result.andThen, setBlock]
  unfold Oper.wp
  simp [execOp, hop, hm, hx, hv, hrun, Result.andThen]
  exact hK' _ _ h

theorem run_lookup_cases {w : World} {t k e : TypeId} (K : Keyed P k) (ht : P.underlying t = some (.map k e)) {b : Nat} {es : Array MapEntry} {clock : Nat} (hb : w.heap[b]? = some (.map es clock))
    {key : Value} (hkey : ∃ l, keyOf P k key = some l) (hes : ∀ y ∈ es.toList, ∃ l, keyOf P k y.key = some l) {z : Value} (hz : (zeroValue e).run P w = .ok z w) (c : Bool) :
    (∃ e0 ∈ es.toList, e0.key = key ∧ (Instr.lookup t (.map (some b)) key c).run P w = .ok (if c then .tuple #[e0.val, .bool true] else e0.val) w) ∨
    ((∀ y ∈ es.toList, y.key ≠ key) ∧ (Instr.lookup t (.map (some b)) key c).run P w = .ok (if c then .tuple #[z, .bool false] else z) w) := by
  obtain ⟨kl, hkey⟩ := hkey
  rcases K.find w hkey es.toList hes with ⟨h1, h2⟩ | ⟨j, e1, h1, h2, h3⟩
  · exact .inr ⟨h2, by simp [Instr.lookup, run_underlying ht, MapKept.run_getObj_map hb, K.check w _ hkey, h1, hz, Result.andThen]⟩
  · exact .inl ⟨e1, List.mem_of_getElem? h2, h3, by simp [Instr.lookup, run_underlying ht, MapKept.run_getObj_map hb, K.check w _ hkey, h1, Result.andThen]⟩

theorem wpList_lookup_run {w : World} {ops : Array Oper} {rest : List Oper} {o : Oper} {a : Act} {Q : Exit → Act → World → Prop}
    (hg : o.guard = none) (m x : Operand) (t : TypeId) (c : Bool) (hop : o.op = Op.lookup t m x c) (mv key val : Value) (hm : a.eval m = mv) (hx : a.eval x = key)
    (hrun : (Instr.lookup t mv key c).run P w = .ok val w) (h : wpList P ops Q rest (a.put o.dst val) w) : wpList P ops Q (o :: rest) a w := by
  refine wpList_plain hg fun K' hK' => ?_
  unfold Oper.wp
  simp [execOp, hop, hm, hx, hrun, Result.andThen]
  exact hK' _ _ h

theorem below_setBlock {B : Nat} {a w : World} (h : Below B a w) {b : Nat} {es : Array MapEntry} {clock : Nat} {o' : Obj} (hp : B ≤ b) (hb : w.heap[b]? = some (.map es clock)) : Below B a (setBlock w b o') :=
  ⟨h.os, h.tape, h.output, by simpa [setBlock] using h.size, fun k hk => (heap_setBlock_other hb _ (by omega)).trans (h.block k hk)⟩
end

end Go.Proofs.Ytddnfbpgldchcaa
