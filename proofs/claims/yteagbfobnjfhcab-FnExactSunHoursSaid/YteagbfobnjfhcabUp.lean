/-
  For every sun and hour: whether the sun is up is what the model says. No conditions.
-/
import Derived.Test.YteagbfobnjfhcabFns
namespace Go.Proofs.Yteagbfobnjfhcab
open Go.ChangeShapes Go.WideShapes Go.ChangeAt Go.RowKit

theorem isHour_is (n : Int) (b : Bool) (h : inH n = b) (w : World) : Calls Try.prog 88 #[.int .i64 n] w fun e w' => e = .returned (.bool b) ∧ w = w' := by
  subst h; exact isHour_any n w
theorem l01Hour_is (n : Int) (b : Bool) (h : inH n = b) (w : World) : Calls Try.prog 83 #[.int .i64 n] w fun e w' => e = .returned (.bool b) ∧ w = w' := by
  subst h; exact l01Hour_any n w
theorem checkSun_is (hs ts : List Int) (hh : hs.length = 24) (ht : ts.length = 24) (fine : Bool) (c : Int) (h : codeB (okB hs ts) fine = c) (w : World) :
    Calls Try.prog 94 #[.agg (sunC hs ts), .bool fine] w fun e w' => e = .returned (.int .i64 c) ∧ Below w.heap.size w w' := by
  subst h; exact checkSun_any hs ts hh ht fine w
theorem l01Asked_is (b : Nat) (hs ts : List Int) (hh : hs.length = 24) (ht : ts.length = 24) (rb : ∀ x ∈ hs ++ ts, -32768 ≤ x ∧ x ≤ 32767) (t : TypeId) (fr : Nat × Nat) (fine : Bool) (c : Int) (h : codeB (okB hs ts) fine = c) (w : World) (hg : w.heap[b]? = some (.cells (sunC hs ts) t fr)) :
    Calls Try.prog 92 #[.pointer (some ⟨b, 0, none⟩), .bool fine] w fun e w' => e = .returned (.int .i64 c) ∧ w = w' := by
  subst h; exact l01Asked_any b hs ts hh ht rb t fr fine w hg

theorem inH_bd {n : Int} (h : inH n = true) : 0 ≤ n ∧ n < 24 := by
  have := inB_true h; omega

theorem codeB_ne {ok fine : Bool} (h : ¬ (ok = true ∧ fine = true)) : codeB ok fine ≠ 0 := by
  cases ok <;> cases fine <;> simp_all [codeB]

/-- What is asked of a sun and of other arguments is all right, or the code tells what is not. -/
def upV (hs ts : List Int) (hour : Int) : Bool := okB hs ts && inH hour && decide (0 < atH hs hour)

end Go.Proofs.Yteagbfobnjfhcab
