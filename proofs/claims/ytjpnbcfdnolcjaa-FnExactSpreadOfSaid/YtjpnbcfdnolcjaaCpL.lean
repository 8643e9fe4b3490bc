/-
  A list's copy, and the copy turned round.
-/
import Derived.Test.YtjpnbcfdnolcjaaSbL
import Derived.OwnWalk
import Derived.Laws.AppendOwn
import Derived.Maps.AppendAt
import Derived.Lib.OwnBridge
import Derived.Shelf.SlicesE.Reverse
import Derived.Shelf.SlGeneric
namespace Go.Proofs.Ytjpnbcfdnolcjaa
open Go.ChangeShapes Go.WideShapes Go.ChangeAt Go.RowKit Go.Deep Go.Joins

attribute [local go_sem] run_store_f

theorem grown_of_below6 {w w' : World} (h : Below w.heap.size w w') (row : Option Nat) : w.grownBy w' row := ⟨h.os, h.tape, h.output, h.size, fun k hk _ => h.block k hk⟩

theorem row_base6 {W : World} {base k : Nat} {e : TypeId} {v : Value} {xs : List Value} (h : W.ownsRow base e 1 v k xs) : ∀ j, v.ownBlock = some j → base ≤ j := fun j e => (h.lt j e).1

theorem wpList_append_nil6 {P : Program} (w : World) {ops : Array Oper} {rest : List Oper} {o : Oper} {a : Act} {Q : Exit → Act → World → Prop} (hgd : o.guard = none) (s x : Operand) (t : TypeId)
    (ho : o.op = .call { callee := .builtin .append, args := #[s, x], argTypes := #[t, t] })
    (e : TypeId) (i : TypeInfo) (ht : P.underlying t = some (.slice e)) (hi : P.info? e = some i)
    (ad : Option Addr) (n c d : Nat) (hs : a.eval s = .slice ad n c) (hn : n ≤ c) (hx : a.eval x = .slice none 0 d)
    (h : wpList P ops Q rest (a.put o.dst (.slice ad n c)) w) : wpList P ops Q (o :: rest) a w := by
  have hrun : (Builtin.append_ #[t, t] o.type #[.slice ad n c, .slice none 0 d]).run P w = .ok (.slice ad n c) w := by
    cases ad <;> simp [Builtin.append_, run_underlying ht, Go.sizeOf, typeInfo, hi, Builtin.lenOf, Builtin.firstCells, hn, storeCells]
  refine wpList_plain hgd fun K hK => ?_
  simp only [Oper.wp]
  unfold execOp
  simp only [ho, resolve, invoke, builtin, Sem.run_bind, Sem.run_pure, Result.andThen_ok, List.map_toArray, List.map_cons, List.map_nil, hs, hx, hrun]
  first | exact hK _ _ h | (simp; exact hK _ _ h)

open Go.Shelf in


open Go.Shelf in


/-- A list of the call's own that is not nil. -/
def OwnN (zs : List Nat) (w : World) (e : Ending) (w' : World) : Prop :=
  ∃ g cap, e = .returned (.slice (some ⟨g, 0, none⟩) zs.length cap) ∧ w.heap.size ≤ g ∧ g < w'.heap.size ∧ zs.length ≤ cap ∧ cap ≤ maxLen ∧ w'.ownsRow w.heap.size 26 1 (.slice (some ⟨g, 0, none⟩) zs.length cap) zs.length (zs.map (Value.float .f32)) ∧ Go.Sort.Holds (Value.float .f32) w' g 0 zs.toArray ∧ Below w.heap.size w w'

theorem floats_holds {W : World} {g n cap : Nat} {zs : List Nat} (h : Go.Sort.Holds (Value.float .f32) W g 0 zs.toArray) (hn : zs.length = n) (hc : n ≤ cap) (hm : cap ≤ maxLen) : FloatsAt W (.slice (some ⟨g, 0, none⟩) n cap) zs := by
  refine ⟨_, cap, by rw [hn], by omega, hm, fun i x hx => ⟨g, 0, rfl, ?_⟩⟩
  have hi := (List.getElem?_eq_some_iff.1 hx)
  have := (h i (by simpa using hi.1)).1
  rw [this]
  congr 2
  rw [← hi.2]
  simp [getElem!_pos, hi.1]

end Go.Proofs.Ytjpnbcfdnolcjaa
