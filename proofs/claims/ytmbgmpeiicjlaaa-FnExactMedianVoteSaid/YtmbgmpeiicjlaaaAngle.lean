/-
  Contracts of the angle functions of the program and of the model: both give the sine by quarters.

-/
import Derived.Test.YtmbgmpeiicjlaaaPlain
import Derived.Test.YtmbgmpeiicjlaaaRows
import Derived.WalkKit
import Derived.WalkSpells
import Derived.WalkLawsBesides
import Derived.Lib.Hide
import Derived.Laws.EntriesVeiled

namespace Go.Proofs.Ytmbgmpeiicjlaaa

open Go.RowKit

end Go.Proofs.Ytmbgmpeiicjlaaa
