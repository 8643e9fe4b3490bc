/-
  For every blind and every sun, valid or not, every hour and facing: the light that passes into a window is what the model says. No conditions.
-/
import Derived.Test.YtmniodfdoidffaaDoorWin
import Derived.Test.YtmniodfdoidffaaDoorLaw
namespace Go.Proofs.YtmniodfdoidffaaDoor
open Go.ChangeShapes Go.WideShapes Go.ChangeAt Go.RowKit

/-- The code of a blind and a sun, and of what else is asked. -/
def codeBS (okb oks fine : Bool) : Int := if okb then codeB oks fine else 1

theorem codeBS_ne {okb oks fine : Bool} (h : ¬ (okb = true ∧ oks = true ∧ fine = true)) : codeBS okb oks fine ≠ 0 := by
  cases okb <;> cases oks <;> cases fine <;> simp_all [codeBS, codeB]

end Go.Proofs.YtmniodfdoidffaaDoor
