/-
  Whether a number is a part, and whether a whole number is within bounds.
-/
import Derived.Test.YtckkemknajggpaaGreatDoorAgg
import Derived.Test.YtckkemknajggpaaGreatDoorSgn
import Derived.Test.YtckkemknajggpaaGreatDoorChecked
import Derived.Test.YtckkemknajggpaaGreatDoorRow
import Derived.WalkKit
import Derived.WalkSpells
import Derived.WalkLawsBesides
import Derived.Lib.Hide
namespace Go.Proofs.YtckkemknajggpaaGreatDoor
open Go.RowKit

attribute [local go_sem] run_store_f

def inI (lo hi x : Int) : Bool := decide (lo ≤ x) && decide (x ≤ hi)
theorem inI_get {lo hi x : Int} (h : inI lo hi x = true) : lo ≤ x ∧ x ≤ hi := by
  simpa [inI] using h
def partB (a : Nat) : Bool := betw a 0 1065353216

set_option maxHeartbeats 1000000 in
theorem isPart_any (a : Nat) (w : World) :
    Calls Tryz.prog 79 #[.float .f32 a] w fun e w' => e = .returned (.bool (partB a)) ∧ w = w' := by
  unfold partB betw
  rcases h0 : FloatKind.f32.format.order a 0 with _ | (_ | _ | _)
  all_goals
    rcases h1 : FloatKind.f32.format.order a 1065353216 with _ | (_ | _ | _)
    all_goals
      go_enter Tryz.func79, Tryz.ntmps79
      go_wp2
      go_ret
      exact ⟨rfl, rfl⟩

set_option maxHeartbeats 1000000 in
theorem l01Part_any (a : Nat) (w : World) :
    Calls Tryz.prog 90 #[.float .f32 a] w fun e w' => e = .returned (.bool (partB a)) ∧ w = w' := by
  unfold partB betw
  rcases h0 : FloatKind.f32.format.order a 0 with _ | (_ | _ | _)
  all_goals
    rcases h1 : FloatKind.f32.format.order a 1065353216 with _ | (_ | _ | _)
    all_goals
      go_enter Tryz.func90, Tryz.ntmps90
      go_wp2
      go_ret
      exact ⟨rfl, rfl⟩

set_option maxHeartbeats 1000000 in
theorem l00In_ban (a lo hi : Int) (w : World) :
    Calls Tryz.prog 85 #[.int .i64 a, .int .i64 lo, .int .i64 hi] w fun e w' => e = .returned (.bool (inI lo hi a)) ∧ w = w' := by
  unfold inI
  by_cases h0 : lo ≤ a
  · by_cases h1 : a ≤ hi
    · go_enter Tryz.func85, Tryz.ntmps85
      go_wp2
      go_ret
      first | (simp; done) | (simp; omega)
    · go_enter Tryz.func85, Tryz.ntmps85
      go_wp2
      go_ret
      first | (simp; done) | (simp; omega)
  · go_enter Tryz.func85, Tryz.ntmps85
    go_wp2
    go_ret
    first | (simp; done) | (simp; omega)

end Go.Proofs.YtckkemknajggpaaGreatDoor
