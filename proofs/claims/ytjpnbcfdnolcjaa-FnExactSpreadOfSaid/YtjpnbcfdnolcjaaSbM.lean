/-
  The map from names to the ways of a sum.
-/
import Derived.Test.YtjpnbcfdnolcjaaMapOp
import Derived.Test.YtjpnbcfdnolcjaaAdL
namespace Go.Proofs.Ytjpnbcfdnolcjaa
open Go Go.RowKit Go.ChangeMaps Go.MapKept
open Go.Maps (Keyed)

section

variable {P : Program}

theorem wpList_insert_new {w : World} {ops : Array Oper} {rest : List Oper} {o : Oper} {a : Act} {Q : Exit → Act → World → Prop}
    (hg : o.guard = none) (m x v : Operand) (t : TypeId) (hop : o.op = Op.insert t m x v)
    (k e : TypeId) (K : Keyed P k) (ht : P.underlying t = some (.map k e)) (b : Nat) (es : Array MapEntry) (clock : Nat) (hb : w.heap[b]? = some (.map es clock))
    (hm : a.eval m = .map (some b)) (key val : Value) (hx : a.eval x = key) (hv : a.eval v = val) (hkey : ∃ l, keyOf P k key = some l)
    (hes : ∀ y ∈ es.toList, ∃ l, keyOf P k y.key = some l) (hne : ∀ y ∈ es.toList, y.key ≠ key)
    (h : wpList P ops Q rest (a.put o.dst undef) (setBlock w b (.map (es.push { key, val, born := clock }) (clock + 1)))) : wpList P ops Q (o :: rest) a w := by
  obtain ⟨kl, hkey⟩ := hkey
  refine wpList_plain hg fun K' hK' => ?_
  have h1 : (Instr.findKey k key es.toList).run P w = .ok none w := by
    rcases K.find w hkey es.toList hes with ⟨h1, _⟩ | ⟨j, e0, _, h2, h3⟩
    · exact h1
    · exact absurd h3 (hne _ (List.mem_of_getElem? h2))
  have hrun : (Instr.mapUpdate t (.map (some b)) key val).run P w = .ok () (setBlock w b (.map (es.push { key, val, born := clock }) (clock + 1))) := by
    simp [Instr.mapUpdate, run_underlying ht, MapKept.run_getObj_map hb, K.check w false hkey, h1, MapKept.run_setObj_map _ hb, Result.andThen, setBlock]
  unfold Oper.wp
  simp [execOp, hop, hm, hx, hv, hrun, Result.andThen]
  exact hK' _ _ h

theorem heap_setBlock_same {w : World} {b : Nat} {es : Array MapEntry} {clock : Nat} {o' : Obj} (hb : w.heap[b]? = some (.map es clock)) : (setBlock w b o').heap[b]? = some o' := by
  have h := row_lt hb
  show (w.heap.setIfInBounds b o')[b]? = some o'
  rw [Array.getElem?_setIfInBounds, if_pos rfl, if_pos h]

end



theorem kS_law : Keyed Try.prog 9 := Go.Maps.string_keyed Try.underlying9



theorem kS_key0 : ∃ l, keyOf Try.prog 9 (.string ⟨#[108, 101, 102, 116]⟩) = some l := ⟨.string [108, 101, 102, 116], by kernel_rfl⟩

theorem kS_key1 : ∃ l, keyOf Try.prog 9 (.string ⟨#[114, 105, 103, 104, 116]⟩) = some l := ⟨.string [114, 105, 103, 104, 116], by kernel_rfl⟩

theorem kS_key2 : ∃ l, keyOf Try.prog 9 (.string ⟨#[112, 97, 105, 114, 115]⟩) = some l := ⟨.string [112, 97, 105, 114, 115], by kernel_rfl⟩

theorem kS_key3 : ∃ l, keyOf Try.prog 9 (.string ⟨#[107, 101, 112, 116]⟩) = some l := ⟨.string [107, 101, 112, 116], by kernel_rfl⟩

theorem kS_key4 : ∃ l, keyOf Try.prog 9 (.string ⟨#[119, 105, 100, 101]⟩) = some l := ⟨.string [119, 105, 100, 101], by kernel_rfl⟩

theorem kS_key5 : ∃ l, keyOf Try.prog 9 (.string ⟨#[115, 109, 97, 108, 108]⟩) = some l := ⟨.string [115, 109, 97, 108, 108], by kernel_rfl⟩

def es0 : Array MapEntry := #[]

theorem es0_key : ∀ y ∈ es0.toList, ∃ l, keyOf Try.prog 9 y.key = some l := by
  intro y hy
  simp [es0] at hy

theorem es0_new : ∀ y ∈ es0.toList, y.key ≠ .string ⟨#[108, 101, 102, 116]⟩ := by
  intro y hy
  simp [es0] at hy

def es1 : Array MapEntry := #[⟨.string ⟨#[108, 101, 102, 116]⟩, .func (.func 80) #[] #[], 0⟩]

theorem es1_key : ∀ y ∈ es1.toList, ∃ l, keyOf Try.prog 9 y.key = some l := by
  intro y hy
  simp only [es1, List.mem_cons, List.not_mem_nil, or_false] at hy
  subst hy
  exact kS_key0

theorem es1_new : ∀ y ∈ es1.toList, y.key ≠ .string ⟨#[114, 105, 103, 104, 116]⟩ := by
  intro y hy
  simp only [es1, List.mem_cons, List.not_mem_nil, or_false] at hy
  subst hy
  all_goals
    intro h
    injection h with h
    exact absurd h (by decide)

end Go.Proofs.Ytjpnbcfdnolcjaa
