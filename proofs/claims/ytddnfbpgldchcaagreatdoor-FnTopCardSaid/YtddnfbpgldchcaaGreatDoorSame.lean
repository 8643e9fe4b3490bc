/-
  The contract of the comparison of two numbers that are given alike.

-/
import Derived.Test.YtddnfbpgldchcaaGreatDoorWide
import Derived.Test.YtddnfbpgldchcaaGreatDoorRows
import Derived.WalkKit
import Derived.WalkSpells
import Derived.WalkLawsBesides
import Derived.Lib.Hide

namespace Go.Proofs.YtddnfbpgldchcaaGreatDoor

open Go.RowKit

end Go.Proofs.YtddnfbpgldchcaaGreatDoor
