/-
  Which controls, states and ticks are valid: contracts of the program and of the model.

-/
import Derived.Test.YtmbgmpeiicjlaaaCtA
import Derived.Test.YtmbgmpeiicjlaaaBok
import Derived.Test.YtmbgmpeiicjlaaaLaw
import Derived.Deep.QuietTactic
import Derived.BigQuiet

namespace Go.Proofs.Ytmbgmpeiicjlaaa

open Go.ChangeShapes Go.WideShapes Go.ChangeAt Go.RowKit Go.Deep Go.Joins

attribute [local go_sem] run_store_f

theorem ret_bool5 {a b : Bool} (h : a = b) : Ending.returned (.bool a) = .returned (.bool b) := by rw [h]

end Go.Proofs.Ytmbgmpeiicjlaaa
