/-
  General facts on lists in memory. Nothing of the program is named.

-/
import Derived.Test.YtddnfbpgldchcaaGreatDoorAgg
import Derived.Test.YtddnfbpgldchcaaGreatDoorRow
import Derived.Test.YtddnfbpgldchcaaGreatDoorTake
import Derived.Laws.Rows
import Derived.Laws.MakeOwn
import Derived.OwnWalk
import Derived.ChangeSlices
import Derived.ChangeShapes
import Derived.ChangeSame
import Derived.WalkSpells

namespace Go.Proofs.YtddnfbpgldchcaaGreatDoor

open Go.ChangeShapes Go.WideShapes Go.ChangeAt Go.RowKit Go.Deep Go.Joins

theorem cell_below {W W' : World} (hb : Below W.heap.size W W') {a : Addr} {v : Value} (h : W.cell? a = some v) : W'.cell? a = some v :=
  (hb.cell (World.block_lt_of_cell? W a h)).trans h

section

variable {P : Program}

theorem run_loadVar_cells (w : World) (g off n : Nat) (ty : TypeId) (d : TypeDesc) (hu : P.underlying ty = some d) (hd : (match d with | .struct _ | .array _ _ => true | _ => false) = true) (hi : (P.info? ty).map (·.size) = some n)
    (vs : Array Value) (hn : vs.size = n) (hc : ∀ j v, vs[j]? = some v → w.cell? ⟨g, off + j, none⟩ = some v) : (loadVar ty ⟨g, off, none⟩).run P w = .ok (.agg vs) w := by
  have hl : (loadCells ⟨g, off, none⟩ n).run P w = .ok vs w := by
    have h := run_loadCells_list (P := P) w ⟨g, off, none⟩ vs.toList (fun j v hv => by
      rw [addr_add]
      exact hc j v (by simpa using hv))
    rw [Array.length_toList, hn, Array.toArray_toList] at h
    exact h
  cases hq : P.info? ty with
  | none => simp [hq] at hi
  | some i =>
    have hs : i.size = n := by simpa [hq] using hi
    have hagg : (isAgg ty).run P w = .ok true w := by
      unfold isAgg
      rw [Sem.run_bind, run_underlying hu w]
      cases d <;> simp_all
    simp [loadVar, Sem.run_bind, hagg, sizeOf, typeInfo, hq, hs, hl]

theorem wpList_load_cells {ops : Array Oper} {rest : List Oper} {o : Oper} {a : Act} {w : World} {Q : Exit → Act → World → Prop} (hgd : o.guard = none) (ty : TypeId) (x : Operand) (ho : o.op = .load ty x)
    (g off n : Nat) (hx : a.eval x = .pointer (some ⟨g, off, none⟩)) (d : TypeDesc) (hu : P.underlying ty = some d) (hd : (match d with | .struct _ | .array _ _ => true | _ => false) = true) (hi : (P.info? ty).map (·.size) = some n)
    (vs : Array Value) (hn : vs.size = n) (hc : ∀ j v, vs[j]? = some v → w.cell? ⟨g, off + j, none⟩ = some v) (h : wpList P ops Q rest (a.put o.dst (.agg vs)) w) : wpList P ops Q (o :: rest) a w := by
  refine wpList_plain hgd fun K hK => ?_
  unfold Oper.wp execOp
  simp only [ho, hx, Instr.loadAt, Instr.sureAddr, Sem.run_bind, Sem.run_pure, Result.andThen_ok, run_loadVar_cells w g off n ty d hu hd hi vs hn hc]
  exact hK _ _ h

end

end Go.Proofs.YtddnfbpgldchcaaGreatDoor
