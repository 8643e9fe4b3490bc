/-
  Whether a number is plain.
-/
import Derived.Test.YtddnfbpgldchcaaSgn
import Derived.Test.YtddnfbpgldchcaaChecked
import Derived.WalkKit
import Derived.WalkSpells
import Derived.WalkLawsBesides
namespace Go.Proofs.Ytddnfbpgldchcaa
open Go.RowKit

def plainB (a : Nat) : Bool := betw a 3380609024 1233125376

set_option maxHeartbeats 1000000 in
theorem isPlain_any (a : Nat) (w : World) : Calls Try.prog 34 #[.float .f32 a] w fun e w' => e = .returned (.bool (plainB a)) ∧ w = w' := by
  unfold plainB betw
  rcases h0 : FloatKind.f32.format.order a 3380609024 with _ | (_ | _ | _)
  all_goals
    rcases h1 : FloatKind.f32.format.order a 1233125376 with _ | (_ | _ | _)
    all_goals
      go_enter Try.func34, Try.ntmps34
      go_wp2
      go_ret
      exact ⟨rfl, rfl⟩

set_option maxHeartbeats 1000000 in
theorem l01Plain_any (a : Nat) (w : World) : Calls Try.prog 38 #[.float .f32 a] w fun e w' => e = .returned (.bool (plainB a)) ∧ w = w' := by
  unfold plainB betw
  rcases h0 : FloatKind.f32.format.order a 3380609024 with _ | (_ | _ | _)
  all_goals
    rcases h1 : FloatKind.f32.format.order a 1233125376 with _ | (_ | _ | _)
    all_goals
      go_enter Try.func38, Try.ntmps38
      go_wp2
      go_ret
      exact ⟨rfl, rfl⟩

end Go.Proofs.Ytddnfbpgldchcaa
