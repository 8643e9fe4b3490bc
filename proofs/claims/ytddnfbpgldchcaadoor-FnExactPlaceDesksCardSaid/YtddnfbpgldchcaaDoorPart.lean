/-
  Whether a number is a part, and whether a whole number is within bounds.
-/
import Derived.Test.YtddnfbpgldchcaaDoorAgg
import Derived.Test.YtddnfbpgldchcaaDoorSgn
import Derived.Test.YtddnfbpgldchcaaDoorChecked
import Derived.Test.YtddnfbpgldchcaaDoorRow
import Derived.WalkKit
import Derived.WalkSpells
import Derived.WalkLawsBesides
import Derived.Lib.Hide
namespace Go.Proofs.YtddnfbpgldchcaaDoor
open Go.RowKit

attribute [local go_sem] run_store_f

def inI (lo hi x : Int) : Bool := decide (lo ≤ x) && decide (x ≤ hi)
theorem inI_get {lo hi x : Int} (h : inI lo hi x = true) : lo ≤ x ∧ x ≤ hi := by
  simpa [inI] using h
def partB (a : Nat) : Bool := betw a 0 1065353216

set_option maxHeartbeats 1000000 in
theorem isPart_any (a : Nat) (w : World) :
    Calls Tryd.prog 48 #[.float .f32 a] w fun e w' => e = .returned (.bool (partB a)) ∧ w = w' := by
  unfold partB betw
  rcases h0 : FloatKind.f32.format.order a 0 with _ | (_ | _ | _)
  all_goals
    rcases h1 : FloatKind.f32.format.order a 1065353216 with _ | (_ | _ | _)
    all_goals
      go_enter Tryd.func48, Tryd.ntmps48
      go_wp2
      go_ret
      exact ⟨rfl, rfl⟩

set_option maxHeartbeats 1000000 in
theorem l01Part_any (a : Nat) (w : World) :
    Calls Tryd.prog 55 #[.float .f32 a] w fun e w' => e = .returned (.bool (partB a)) ∧ w = w' := by
  unfold partB betw
  rcases h0 : FloatKind.f32.format.order a 0 with _ | (_ | _ | _)
  all_goals
    rcases h1 : FloatKind.f32.format.order a 1065353216 with _ | (_ | _ | _)
    all_goals
      go_enter Tryd.func55, Tryd.ntmps55
      go_wp2
      go_ret
      exact ⟨rfl, rfl⟩

set_option maxHeartbeats 1000000 in
theorem l00In_ban (a lo hi : Int) (w : World) :
    Calls Tryd.prog 16 #[.int .i64 a, .int .i64 lo, .int .i64 hi] w fun e w' => e = .returned (.bool (inI lo hi a)) ∧ w = w' := by
  unfold inI
  by_cases h0 : lo ≤ a
  · by_cases h1 : a ≤ hi
    · go_enter Tryd.func16, Tryd.ntmps16
      go_wp2
      go_ret
      first | (simp; done) | (simp; omega)
    · go_enter Tryd.func16, Tryd.ntmps16
      go_wp2
      go_ret
      first | (simp; done) | (simp; omega)
  · go_enter Tryd.func16, Tryd.ntmps16
    go_wp2
    go_ret
    first | (simp; done) | (simp; omega)

end Go.Proofs.YtddnfbpgldchcaaDoor
