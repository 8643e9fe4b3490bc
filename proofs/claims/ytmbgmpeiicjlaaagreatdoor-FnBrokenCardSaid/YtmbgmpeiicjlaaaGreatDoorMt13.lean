/-
  YlB.
-/
import Derived.Test.YtmbgmpeiicjlaaaGreatDoorMt1
import Derived.Laws.Tables

namespace Go.Proofs.YtmbgmpeiicjlaaaGreatDoor

open Go.RowKit

theorem yields_buildL {P : Program} {ops : Array Oper} {S : World → Prop} {o : Oper} {a : Act} (hw : Region.wanted o (yielded ops a.tmps) = true) (t : TypeId) (parts : Array (Nat × Operand)) (ho : o.op = .build t parts)
    (l : List (Nat × Value)) (hp : parts.toList.map (fun x => (x.1, a.eval x.2)) = l) (cells : Array Value) (hf : P.built t l = some cells) : YieldsIf P ops S o (.agg cells) a :=
  .inl ⟨hw, fun w hw' => by
    unfold execOp
    have e : (parts.map fun (i, x) => (i, a.eval x)).toList = l := by rw [Array.toList_map, ← hp]
    have h := run_build w t (parts.map fun (i, x) => (i, a.eval x)) cells (by rw [e]; exact hf)
    simp only [ho, Sem.run_bind, h, Result.andThen_ok]
    rfl⟩

end Go.Proofs.YtmbgmpeiicjlaaaGreatDoor
