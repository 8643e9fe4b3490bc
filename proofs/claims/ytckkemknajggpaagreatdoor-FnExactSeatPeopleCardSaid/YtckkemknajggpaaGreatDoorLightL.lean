/-
  LightAt of the model; tiles laid anew.
-/
import Derived.Test.YtckkemknajggpaaGreatDoorLightS
import Derived.Test.YtckkemknajggpaaGreatDoorIsTile
import Derived.Test.YtckkemknajggpaaGreatDoorRoomS
namespace Go.Proofs.YtckkemknajggpaaGreatDoor
open Go.RowKit

attribute [local go_sem] run_store_f

set_option maxRecDepth 100000 in
set_option maxHeartbeats 1000000 in
theorem toTile_any (x y : Int) (w : World) :
    Calls Tryz.prog 39 #[.agg (tileC x y)] w fun e w' => e = .returned (.agg (tileC x y)) ∧ Below w.heap.size w w' := by
  unfold tileC
  go_enter Tryz.func39, Tryz.ntmps39
  go_wp2
  refine bodyPost_ret (v := .agg #[.int .i8 x, .int .i8 y]) (by simp [results, Tryz.results39, go_sem]) rfl ⟨rfl, ?_⟩
  (repeat' first | exact Below.refl _ _ | assumption | refine Below.alloc ?_ (by first | omega | (simp; done) | (simp; omega)) _ | refine Below.setCell ?_ (by first | omega | (simp; done) | (simp; omega)) _ | refine Below.drew ?_)

end Go.Proofs.YtckkemknajggpaaGreatDoor
