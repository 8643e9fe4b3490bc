/-
  Whether there is a height: contracts that tell the answer.

-/
import Derived.Test.YtddnfbpgldchcaaGreatDoorBfn
import Derived.Test.YtddnfbpgldchcaaGreatDoorLaw
import Derived.Test.YtddnfbpgldchcaaGreatDoorSame

namespace Go.Proofs.YtddnfbpgldchcaaGreatDoor

open Go.ChangeShapes Go.WideShapes Go.ChangeAt Go.RowKit Go.Deep Go.Joins

end Go.Proofs.YtddnfbpgldchcaaGreatDoor
