/-
  For every sun and hour: the light on the ground is what the model says. No conditions.
-/
import Derived.Test.YtddnfbpgldchcaaUp
import Derived.Test.YtddnfbpgldchcaaMul
import Derived.Test.YtddnfbpgldchcaaAngle
import Derived.Test.YtddnfbpgldchcaaSame
namespace Go.Proofs.Ytddnfbpgldchcaa
open Go.ChangeShapes Go.WideShapes Go.ChangeAt Go.RowKit

theorem okB_h {hs ts : List Int} (hh : hs.length = 24) (ht : ts.length = 24) (h : okB hs ts = true) (hour : Int) (h0 : 0 ≤ hour) (h1 : hour < 24) : -64 ≤ atH hs hour ∧ atH hs hour ≤ 64 :=
  inB_true ((okB_iff hs ts hh ht).1 h hour.toNat (by omega)).1

theorem okB_t {hs ts : List Int} (hh : hs.length = 24) (ht : ts.length = 24) (h : okB hs ts = true) (hour : Int) (h0 : 0 ≤ hour) (h1 : hour < 24) : 0 ≤ atH ts hour ∧ atH ts hour ≤ 255 :=
  inB_true ((okB_iff hs ts hh ht).1 h hour.toNat (by omega)).2

end Go.Proofs.Ytddnfbpgldchcaa
