/-
  Blinds as values of five numbers.

-/
import Derived.Test.YtmbgmpeiicjlaaaAgg
import Derived.Test.YtmbgmpeiicjlaaaRow
import Derived.Deep.Cut
import Derived.Deep.DeepCutAuto
import Derived.Test.YtmbgmpeiicjlaaaRows
import Derived.WalkSpells
import Derived.WalkLawsBesides
import Derived.Lib.Hide

namespace Go.Proofs.Ytmbgmpeiicjlaaa

open Go.ChangeShapes Go.WideShapes Go.ChangeAt Go.RowKit Go.Deep Go.Joins

attribute [local go_sem] run_store_f

end Go.Proofs.Ytmbgmpeiicjlaaa
