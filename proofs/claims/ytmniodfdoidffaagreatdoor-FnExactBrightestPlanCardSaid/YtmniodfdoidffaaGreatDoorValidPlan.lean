/-
  For every plan, valid or not: whether it is valid is what the model says. No conditions.
-/
import Derived.Test.YtmniodfdoidffaaGreatDoorPnV
import Derived.Test.YtmniodfdoidffaaGreatDoorHeld
import Derived.Test.YtmniodfdoidffaaGreatDoorValid
import Derived.Test.YtmniodfdoidffaaGreatDoorTake
namespace Go.Proofs.YtmniodfdoidffaaGreatDoor
open Go.ChangeShapes Go.WideShapes Go.ChangeAt Go.RowKit Go.Deep Go.Joins

end Go.Proofs.YtmniodfdoidffaaGreatDoor
