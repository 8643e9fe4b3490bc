/-
  The light of a day: the sums over the hours of a sun that is valid.
-/
import Derived.Test.YtddnfbpgldchcaaFallOn
import Derived.Test.YtddnfbpgldchcaaAdd
namespace Go.Proofs.Ytddnfbpgldchcaa
open Go.RowKit Go.Shelf

theorem run_store_float (P : Program) (w : World) (a : Addr) (k : FloatKind) (b : Nat) (m : Mode) : (store a (.float k b) m).run P w = stored P w a (.float k b) m := run_store P w a _ m rfl

attribute [local go_sem] Oper.semAt_some run_store_float

/-- What a sum over the hours keeps: the sun, the sum so far, whatever lay before. -/


theorem keeps_of_below {W W1 : World} (hb : Below W.heap.size W W1) : KeepsOthers W W1 := by
  exact ⟨hb.size, fun b o ho _ => (hb.block b (Array.getElem?_eq_some_iff.1 ho).1).trans ho⟩

end Go.Proofs.Ytddnfbpgldchcaa
