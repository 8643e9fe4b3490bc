/-
  Checks of suns, hours and facings; whether the sun is up. The program's functions and the model's.
-/
import Derived.Test.YtddnfbpgldchcaaLawValid
namespace Go.Proofs.Ytddnfbpgldchcaa
open Go.RowKit

def inH (n : Int) : Bool := inB n 0 23

def inF (n : Int) : Bool := inB n 0 255

/-- The code of a sun, and of what is asked of numbers. -/
def codeB (ok fine : Bool) : Int := if ok then (if fine then 0 else 2) else 1

/-- The height at an hour; the turn at an hour. -/
def atH (xs : List Int) (hour : Int) : Int := xs[hour.toNat]?.getD 0

end Go.Proofs.Ytddnfbpgldchcaa
