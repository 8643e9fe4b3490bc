/-
  For every sun and hour: whether the sun is up is what the model says. No conditions.
-/
import Derived.Test.YtddnfbpgldchcaaFns
namespace Go.Proofs.Ytddnfbpgldchcaa
open Go.ChangeShapes Go.WideShapes Go.ChangeAt Go.RowKit









theorem inH_bd {n : Int} (h : inH n = true) : 0 ≤ n ∧ n < 24 := by
  have := inB_true h; omega

theorem codeB_ne {ok fine : Bool} (h : ¬ (ok = true ∧ fine = true)) : codeB ok fine ≠ 0 := by
  cases ok <;> cases fine <;> simp_all [codeB]

/-- What is asked of a sun and of other arguments is all right, or the code tells what is not. -/
def upV (hs ts : List Int) (hour : Int) : Bool := okB hs ts && inH hour && decide (0 < atH hs hour)

end Go.Proofs.Ytddnfbpgldchcaa
