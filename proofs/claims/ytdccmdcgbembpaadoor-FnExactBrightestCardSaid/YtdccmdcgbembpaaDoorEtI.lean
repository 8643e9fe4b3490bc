/-
  The mean of the light of all tiles of a room: the model.
-/
import Derived.Test.YtdccmdcgbembpaaDoorEtE
import Derived.Test.YtdccmdcgbembpaaDoorEtH
namespace Go.Proofs.YtdccmdcgbembpaaDoor
open Go.ChangeShapes Go.WideShapes Go.ChangeAt Go.RowKit Go.Deep Go.Joins

attribute [local go_sem] run_store_floatE

end Go.Proofs.YtdccmdcgbembpaaDoor
