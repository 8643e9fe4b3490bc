/-
  A plan that is not valid panics, and its refusal comes of the panic.
-/
import Derived.Test.YtmniodfdoidffaaGreatDoorCdD
import Derived.Test.YtmniodfdoidffaaGreatDoorValidPlan
import Derived.Tactics2
import Derived.Defers
import Derived.Recover
import Derived.Laws.Pointers
import Derived.Stop.Asserts
namespace Go.Proofs.YtmniodfdoidffaaGreatDoor
open Go.ChangeShapes Go.WideShapes Go.ChangeAt Go.RowKit









def planRf (ps : List Int) : Rf := if okP ps = true then .non else .call 1

end Go.Proofs.YtmniodfdoidffaaGreatDoor
