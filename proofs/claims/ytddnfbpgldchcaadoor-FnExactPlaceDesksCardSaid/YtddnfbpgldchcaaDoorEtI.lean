/-
  The mean of the light of all tiles of a room: the model.
-/
import Derived.Test.YtddnfbpgldchcaaDoorEtE
import Derived.Test.YtddnfbpgldchcaaDoorEtH
namespace Go.Proofs.YtddnfbpgldchcaaDoor
open Go.ChangeShapes Go.WideShapes Go.ChangeAt Go.RowKit Go.Deep Go.Joins

attribute [local go_sem] run_store_floatE

end Go.Proofs.YtddnfbpgldchcaaDoor
