/-
  Whether a number is plain.
-/
import Derived.Test.YtnienahjfocalaaDoorSgn
import Derived.Test.YtnienahjfocalaaDoorChecked
import Derived.WalkKit
import Derived.WalkSpells
import Derived.WalkLawsBesides
namespace Go.Proofs.YtnienahjfocalaaDoor
open Go.RowKit

def plainB (a : Nat) : Bool := betw a 3380609024 1233125376

set_option maxHeartbeats 1000000 in
theorem isPlain_any (a : Nat) (w : World) : Calls Tryd.prog 111 #[.float .f32 a] w fun e w' => e = .returned (.bool (plainB a)) ∧ w = w' := by
  unfold plainB betw
  rcases h0 : FloatKind.f32.format.order a 3380609024 with _ | (_ | _ | _)
  all_goals
    rcases h1 : FloatKind.f32.format.order a 1233125376 with _ | (_ | _ | _)
    all_goals
      go_enter Tryd.func111, Tryd.ntmps111
      go_wp2
      go_ret
      exact ⟨rfl, rfl⟩

set_option maxHeartbeats 1000000 in
theorem l01Plain_any (a : Nat) (w : World) : Calls Tryd.prog 110 #[.float .f32 a] w fun e w' => e = .returned (.bool (plainB a)) ∧ w = w' := by
  unfold plainB betw
  rcases h0 : FloatKind.f32.format.order a 3380609024 with _ | (_ | _ | _)
  all_goals
    rcases h1 : FloatKind.f32.format.order a 1233125376 with _ | (_ | _ | _)
    all_goals
      go_enter Tryd.func110, Tryd.ntmps110
      go_wp2
      go_ret
      exact ⟨rfl, rfl⟩

end Go.Proofs.YtnienahjfocalaaDoor
