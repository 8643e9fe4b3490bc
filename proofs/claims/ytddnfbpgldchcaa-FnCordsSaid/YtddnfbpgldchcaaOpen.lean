/-
  A sun that comes in as an argument is a value of 48 numbers of 16 bits.
-/
import Derived.Test.YtddnfbpgldchcaaSun
import Derived.Test.YtddnfbpgldchcaaLaw
namespace Go.Proofs.Ytddnfbpgldchcaa
open Go.ChangeShapes Go.WideShapes Go.ChangeAt Go.RowKit

def rd16 : Value → Int | .int _ n => n | _ => 0

end Go.Proofs.Ytddnfbpgldchcaa
