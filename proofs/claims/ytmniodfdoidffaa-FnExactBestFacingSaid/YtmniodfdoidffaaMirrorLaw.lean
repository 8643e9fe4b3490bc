/-
  The laws of the functions that return a sun: the same sun and code from both sides.
-/
import Derived.Test.YtmniodfdoidffaaSunEq
namespace Go.Proofs.Ytmniodfdoidffaa
open Go.ChangeShapes Go.WideShapes Go.ChangeAt Go.RowKit

theorem laid_new (W : World) (old cs : Array Value) {t : TypeId} : ((W.alloc (.cells old t)).setRow W.heap.size cs).heap[W.heap.size]? = some (.cells cs t (0, 0)) := setRow_heap _ _ _ _ _ _ (heap_alloc_new _ _)
theorem laid_old {W : World} (old cs : Array Value) {t : TypeId} {g : Nat} {o : Obj} (h : W.heap[g]? = some o) : ((W.alloc (.cells old t)).setRow W.heap.size cs).heap[g]? = some o :=
  (setRow_other _ _ _ _ (Nat.ne_of_lt (row_lt h))).trans ((heap_alloc_old _ _ _ (row_lt h)).trans h)

end Go.Proofs.Ytmniodfdoidffaa
