/-
  The light of all tiles of a room: LightMap, the program and the model.
-/
import Derived.Test.YtddnfbpgldchcaaDoorEtC
import Derived.Test.YtddnfbpgldchcaaDoorRoomV
import Derived.Test.YtddnfbpgldchcaaDoorRoomS
import Derived.Test.YtddnfbpgldchcaaDoorCode
import Derived.Test.YtddnfbpgldchcaaDoorLightS
namespace Go.Proofs.YtddnfbpgldchcaaDoor
open Go.ChangeShapes Go.WideShapes Go.ChangeAt Go.RowKit Go.Deep Go.Joins

attribute [local go_sem] run_store_floatE

theorem results_map {fn : Func} {p u : Tmp} (h : fn.results = #[.cell p 81, .tmp u]) (tmps : Array Value) (w : World) (g : Nat) (xs : List Nat) (hx : xs.length = 100) (hp : tmps.getD p undef = .pointer (some ⟨g, 0, none⟩)) (hg : w.heap[g]? = some (.cells (mpC xs) 81 (0, 0))) :
    (results fn tmps).run Tryd.prog w = .ok (.tuple #[.agg (mpC xs), tmps.getD u undef]) w := by
  have e := run_loadVar_row w g 81 81 (mpC xs) (0, 0) _ hg Tryd.underlying81 rfl (by rw [mpC_size, hx]; exact info_aa)
  have e0 : (results fn tmps).run Tryd.prog w =
      ((asAddr (tmps.getD p undef)).run Tryd.prog w).andThen fun a w₁ => ((loadVar 81 a).run Tryd.prog w₁).andThen fun x w₂ => .ok (.tuple #[x, tmps.getD u undef]) w₂ := by
    simp only [results, h]
    simp [Sem.run_bind, Result.andThen]
  rw [e0, hp]
  simp only [asAddr, Sem.run_pure, Result.andThen_ok, e]

theorem zbelE (V : World) (o : Obj) (cs : Array Value) : Below V.heap.size V ((V.alloc o).setRow V.heap.size cs) := below_setRow ((Below.refl _ _).alloc (Nat.le_refl _) _) (Nat.le_refl _) _

end Go.Proofs.YtddnfbpgldchcaaDoor
