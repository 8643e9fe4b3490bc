/-
  LitTiles: the model.
-/
import Derived.Test.YtddnfbpgldchcaaDoorLtB
import Derived.Test.YtddnfbpgldchcaaDoorEtI
namespace Go.Proofs.YtddnfbpgldchcaaDoor
open Go.ChangeShapes Go.WideShapes Go.ChangeAt Go.RowKit Go.Deep Go.Joins

attribute [local go_sem] run_store_floatE

end Go.Proofs.YtddnfbpgldchcaaDoor
