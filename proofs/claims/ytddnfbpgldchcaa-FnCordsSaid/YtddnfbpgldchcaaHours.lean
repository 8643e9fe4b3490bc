/-
  The contract of the iterator over the hours of a day: it hands out 0 to 23, in their order.
-/
import Derived.RangeFuncNested
import Derived.RangeFuncBound
import Derived.RangeFuncCalls
import Derived.RangeFuncLeaves
import Derived.RangeFuncFrom
import Derived.RangeFuncWrites
import Derived.Shelf.Abstract
import Derived.Shelf.RegionOpen
import Derived.WalkKit
import Derived.OwnWalkIn
import Derived.TacticsInMore
import Derived.LoopNIn
import Derived.LoopIn
import Derived.Test.YtddnfbpgldchcaaSun
namespace Go.Proofs.Ytddnfbpgldchcaa
open Go.RowKit Go.Shelf

/-- An hour of a day. -/
abbrev Hr := { h : Int // 0 ≤ h ∧ h < 24 }

def hr (k : Nat) : Hr := ⟨(k % 24 : Nat), by omega⟩

theorem hr_val (k : Nat) (h : k < 24) : (hr k).1 = (k : Int) := by simp [hr, Nat.mod_eq_of_lt h]

def hrs (k : Nat) : List Hr := (List.range k).map hr

theorem hrs_succ (k : Nat) : hrs (k + 1) = hrs k ++ [hr k] := by simp [hrs, List.range_succ]
@[simp] theorem hrs_length (k : Nat) : (hrs k).length = k := by simp [hrs]

end Go.Proofs.Ytddnfbpgldchcaa
