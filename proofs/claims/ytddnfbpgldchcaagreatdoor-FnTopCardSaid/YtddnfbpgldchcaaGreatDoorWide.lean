/-
  From single to double precision: what a number of single precision becomes.

-/
import Derived.Test.YtddnfbpgldchcaaGreatDoorPlain

namespace Go.Proofs.YtddnfbpgldchcaaGreatDoor

open Go

/-- A number of single precision that is no NaN. -/
def fin32 (x : Nat) : Bool := !(Ieee.single.read x).isNaN

def wide (x : Nat) : Nat := (floatToFloatBits .f32 x .f64).getD 0

end Go.Proofs.YtddnfbpgldchcaaGreatDoor
