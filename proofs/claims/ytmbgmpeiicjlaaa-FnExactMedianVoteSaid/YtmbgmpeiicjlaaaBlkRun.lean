/-
  What a blind blocks: contracts of the program and of the model.

-/
import Derived.Test.YtmbgmpeiicjlaaaBok
import Derived.Test.YtmbgmpeiicjlaaaBlk
import Derived.Test.YtmbgmpeiicjlaaaAngle
import Derived.Test.YtmbgmpeiicjlaaaTake

namespace Go.Proofs.Ytmbgmpeiicjlaaa

open Go.ChangeShapes Go.WideShapes Go.ChangeAt Go.RowKit Go.Deep Go.Joins

attribute [local go_sem] run_store_f

theorem part_get {a : Nat} (hw : (Lit.float .f32 a).wf = true) (h : partB a = true) : a ≤ 1065353216 ∨ a = 2147483648 := betw_zero hw (by decide) h

end Go.Proofs.Ytmbgmpeiicjlaaa
