/-
  LitTiles: the program.
-/
import Derived.Great.BuildSlice
import Derived.Test.YtddnfbpgldchcaaDoorLtA
import Derived.Test.YtddnfbpgldchcaaDoorRoomV
import Derived.Test.YtddnfbpgldchcaaDoorCode
import Derived.Test.YtddnfbpgldchcaaDoorSameN
namespace Go.Proofs.YtddnfbpgldchcaaDoor
open Go.ChangeShapes Go.WideShapes Go.ChangeAt Go.RowKit Go.Deep Go.Joins

attribute [local go_sem] run_store_floatE

theorem fin_iffT {b : Nat} : (FloatKind.f32.format.order b b = some .eq ∧ fin32 b = true) ∨ (FloatKind.f32.format.order b b = none ∧ fin32 b = false) := by
  unfold fin32
  show ((Ieee.single.read b).order (Ieee.single.read b) = some .eq ∧ _) ∨ _
  generalize hd : Ieee.single.read b = d
  have e : FloatKind.f32.format.order b b = d.order d := by show (Ieee.single.read b).order (Ieee.single.read b) = _; rw [hd]
  rw [e]
  cases d with
  | number s m e => left; simp [Ieee.Datum.order, Ieee.Datum.isNaN]
  | infinity s => left; simp [Ieee.Datum.order, Ieee.Datum.isNaN]
  | nan s f => right; exact ⟨rfl, rfl⟩

set_option maxRecDepth 100000 in
set_option maxHeartbeats 1000000 in
theorem iNumT (b : Nat) (w : World) : Calls Tryd.prog 21 #[.float .f32 b] w fun e w' => e = .returned (.bool (fin32 b)) ∧ w = w' := by
  rcases fin_iffT (b := b) with ⟨h, e⟩ | ⟨h, e⟩
  all_goals
    rw [e]
    clear e
    go_enter Tryd.func21, Tryd.ntmps21
    go_wp2
    go_ret
    exact ⟨rfl, rfl⟩

set_option maxRecDepth 100000 in
set_option maxHeartbeats 1000000 in
theorem sNumT (b : Nat) (w : World) : Calls Tryd.prog 15 #[.float .f32 b] w fun e w' => e = .returned (.bool (fin32 b)) ∧ w = w' := by
  rcases fin_iffT (b := b) with ⟨h, e⟩ | ⟨h, e⟩
  all_goals
    rw [e]
    clear e
    go_enter Tryd.func15, Tryd.ntmps15
    go_wp2
    go_ret
    exact ⟨rfl, rfl⟩

theorem wpList_buildTT {P : Program} {ops : Array Oper} {rest : List Oper} {o : Oper} {a : Act} {w : World} {Q : Exit → Act → World → Prop} (hg : o.guard = none) (t : TypeId) (parts : Array (Nat × Operand)) (ho : o.op = .build t parts)
    (d : Option Tmp) (hd : o.dst = d) (l : List (Nat × Value)) (hp : parts.toList.map (fun x => (x.1, a.eval x.2)) = l) (cells : Array Value) (hf : P.built t l = some cells)
    (h : wpList P ops Q rest (a.put d (.agg cells)) w) : wpList P ops Q (o :: rest) a w := by
  refine wpList_buildTo hg t parts ho d hd cells ?_ h
  rw [Array.toList_map, ← hf, ← hp]

theorem results_lit {fn : Func} {p u : Tmp} (h : fn.results = #[.cell p 60, .tmp u]) (tmps : Array Value) (w : World) (g : Nat) (xs : List Int) (hx : xs.length = 10) (hp : tmps.getD p undef = .pointer (some ⟨g, 0, none⟩)) (hg : w.heap[g]? = some (.cells (u16s xs) 60 (0, 0))) :
    (results fn tmps).run Tryd.prog w = .ok (.tuple #[.agg (u16s xs), tmps.getD u undef]) w := by
  have e := run_loadVar_row w g 60 60 (u16s xs) (0, 0) _ hg Tryd.underlying60 rfl (by rw [u16s_size, hx]; exact info_u16)
  have e0 : (results fn tmps).run Tryd.prog w =
      ((asAddr (tmps.getD p undef)).run Tryd.prog w).andThen fun a w₁ => ((loadVar 60 a).run Tryd.prog w₁).andThen fun x w₂ => .ok (.tuple #[x, tmps.getD u undef]) w₂ := by
    simp only [results, h]
    simp [Sem.run_bind, Result.andThen]
  rw [e0, hp]
  simp only [asAddr, Sem.run_pure, Result.andThen_ok, e]

end Go.Proofs.YtddnfbpgldchcaaDoor
