/-
  Walls, and whether a window fits a room: the program's contracts.
-/
import Derived.Test.YtnienahjfocalabRoomL
namespace Go.Proofs.Ytnienahjfocalab
open Go.RowKit

attribute [local go_sem] run_store_f

theorem two_at (w : World) (a b : Obj) : ((w.alloc a).alloc b).heap[w.heap.size]? = some a ∧ ((w.alloc a).alloc b).heap[w.heap.size + 1]? = some b ∧ Below w.heap.size w ((w.alloc a).alloc b) :=
  ⟨by rw [Below.heap_alloc _ _ _ (by simp)]; exact heap_alloc_new _ _, by have h := heap_alloc_new (w.alloc a) b; simpa using h, ((Below.refl _ _).alloc (Nat.le_refl _) _).alloc (by simp) _⟩

end Go.Proofs.Ytnienahjfocalab
