/-
  For every sun and hour: whether the sun is up is what the model says. No conditions.
-/
import Derived.Test.YtmniodfdoidffaaFns
namespace Go.Proofs.Ytmniodfdoidffaa
open Go.ChangeShapes Go.WideShapes Go.ChangeAt Go.RowKit





theorem checkSun_is (hs ts : List Int) (hh : hs.length = 24) (ht : ts.length = 24) (fine : Bool) (c : Int) (h : codeB (okB hs ts) fine = c) (w : World) :
    Calls Try.prog 79 #[.agg (sunC hs ts), .bool fine] w fun e w' => e = .returned (.int .i64 c) ∧ Below w.heap.size w w' := by
  subst h; exact checkSun_any hs ts hh ht fine w



theorem inH_bd {n : Int} (h : inH n = true) : 0 ≤ n ∧ n < 24 := by
  have := inB_true h; omega

theorem codeB_ne {ok fine : Bool} (h : ¬ (ok = true ∧ fine = true)) : codeB ok fine ≠ 0 := by
  cases ok <;> cases fine <;> simp_all [codeB]

/-- What is asked of a sun and of other arguments is all right, or the code tells what is not. -/
def upV (hs ts : List Int) (hour : Int) : Bool := okB hs ts && inH hour && decide (0 < atH hs hour)

end Go.Proofs.Ytmniodfdoidffaa
