/-
  Whether a number is plain.
-/
import Derived.Test.YtckkemknajggpaaGreatDoorSgn
import Derived.Test.YtckkemknajggpaaGreatDoorChecked
import Derived.WalkKit
import Derived.WalkSpells
import Derived.WalkLawsBesides
namespace Go.Proofs.YtckkemknajggpaaGreatDoor
open Go.RowKit

def plainB (a : Nat) : Bool := betw a 3380609024 1233125376

set_option maxHeartbeats 1000000 in
theorem isPlain_any (a : Nat) (w : World) : Calls Tryz.prog 59 #[.float .f32 a] w fun e w' => e = .returned (.bool (plainB a)) ∧ w = w' := by
  unfold plainB betw
  rcases h0 : FloatKind.f32.format.order a 3380609024 with _ | (_ | _ | _)
  all_goals
    rcases h1 : FloatKind.f32.format.order a 1233125376 with _ | (_ | _ | _)
    all_goals
      go_enter Tryz.func59, Tryz.ntmps59
      go_wp2
      go_ret
      exact ⟨rfl, rfl⟩

set_option maxHeartbeats 1000000 in
theorem l01Plain_any (a : Nat) (w : World) : Calls Tryz.prog 54 #[.float .f32 a] w fun e w' => e = .returned (.bool (plainB a)) ∧ w = w' := by
  unfold plainB betw
  rcases h0 : FloatKind.f32.format.order a 3380609024 with _ | (_ | _ | _)
  all_goals
    rcases h1 : FloatKind.f32.format.order a 1233125376 with _ | (_ | _ | _)
    all_goals
      go_enter Tryz.func54, Tryz.ntmps54
      go_wp2
      go_ret
      exact ⟨rfl, rfl⟩

end Go.Proofs.YtckkemknajggpaaGreatDoor
