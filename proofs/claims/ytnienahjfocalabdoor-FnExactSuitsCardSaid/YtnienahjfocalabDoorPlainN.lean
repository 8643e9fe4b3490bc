/-
  Whether a number is plain.
-/
import Derived.Test.YtnienahjfocalabDoorSgn
import Derived.Test.YtnienahjfocalabDoorChecked
import Derived.WalkKit
import Derived.WalkSpells
import Derived.WalkLawsBesides
namespace Go.Proofs.YtnienahjfocalabDoor
open Go.RowKit

def plainB (a : Nat) : Bool := betw a 3380609024 1233125376

set_option maxHeartbeats 1000000 in
theorem isPlain_any (a : Nat) (w : World) : Calls Tryd.prog 95 #[.float .f32 a] w fun e w' => e = .returned (.bool (plainB a)) ∧ w = w' := by
  unfold plainB betw
  rcases h0 : FloatKind.f32.format.order a 3380609024 with _ | (_ | _ | _)
  all_goals
    rcases h1 : FloatKind.f32.format.order a 1233125376 with _ | (_ | _ | _)
    all_goals
      go_enter Tryd.func95, Tryd.ntmps95
      go_wp2
      go_ret
      exact ⟨rfl, rfl⟩

set_option maxHeartbeats 1000000 in
theorem l01Plain_any (a : Nat) (w : World) : Calls Tryd.prog 91 #[.float .f32 a] w fun e w' => e = .returned (.bool (plainB a)) ∧ w = w' := by
  unfold plainB betw
  rcases h0 : FloatKind.f32.format.order a 3380609024 with _ | (_ | _ | _)
  all_goals
    rcases h1 : FloatKind.f32.format.order a 1233125376 with _ | (_ | _ | _)
    all_goals
      go_enter Tryd.func91, Tryd.ntmps91
      go_wp2
      go_ret
      exact ⟨rfl, rfl⟩

end Go.Proofs.YtnienahjfocalabDoor
