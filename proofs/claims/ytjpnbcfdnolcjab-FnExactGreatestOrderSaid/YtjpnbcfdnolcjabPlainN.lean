/-
  Whether a number is plain.
-/
import Derived.Test.YtjpnbcfdnolcjabSgn
import Derived.Test.YtjpnbcfdnolcjabChecked
import Derived.WalkKit
import Derived.WalkSpells
import Derived.WalkLawsBesides
namespace Go.Proofs.Ytjpnbcfdnolcjab
open Go.RowKit

def plainB (a : Nat) : Bool := betw a 3380609024 1233125376

set_option maxHeartbeats 1000000 in
theorem isPlain_any (a : Nat) (w : World) : Calls Try.prog 55 #[.float .f32 a] w fun e w' => e = .returned (.bool (plainB a)) ∧ w = w' := by
  unfold plainB betw
  rcases h0 : FloatKind.f32.format.order a 3380609024 with _ | (_ | _ | _)
  all_goals
    rcases h1 : FloatKind.f32.format.order a 1233125376 with _ | (_ | _ | _)
    all_goals
      go_enter Try.func55, Try.ntmps55
      go_wp2
      go_ret
      exact ⟨rfl, rfl⟩

set_option maxHeartbeats 1000000 in
theorem l01Plain_any (a : Nat) (w : World) : Calls Try.prog 69 #[.float .f32 a] w fun e w' => e = .returned (.bool (plainB a)) ∧ w = w' := by
  unfold plainB betw
  rcases h0 : FloatKind.f32.format.order a 3380609024 with _ | (_ | _ | _)
  all_goals
    rcases h1 : FloatKind.f32.format.order a 1233125376 with _ | (_ | _ | _)
    all_goals
      go_enter Try.func69, Try.ntmps69
      go_wp2
      go_ret
      exact ⟨rfl, rfl⟩

end Go.Proofs.Ytjpnbcfdnolcjab
