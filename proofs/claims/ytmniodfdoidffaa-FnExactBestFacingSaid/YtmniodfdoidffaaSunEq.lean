/-
  The comparison of two suns in a law: a sun is the same as itself.
-/
import Derived.Test.YtmniodfdoidffaaFallDay
namespace Go.Proofs.Ytmniodfdoidffaa
open Go.ChangeShapes Go.WideShapes Go.ChangeAt Go.RowKit

theorem new2_fst (w : World) (a b : Obj) : ((w.alloc a).alloc b).heap[w.heap.size]? = some a := (heap_alloc _ _ _).trans (by rw [if_neg (by simp)]; exact heap_alloc_new _ _)
theorem new2_snd (w : World) (a b : Obj) : ((w.alloc a).alloc b).heap[w.heap.size + 1]? = some b := (heap_alloc _ _ _).trans (by rw [if_pos (by simp)])
theorem new2_below (w : World) (a b : Obj) : Below w.heap.size w ((w.alloc a).alloc b) := ((Below.refl _ _).alloc (Nat.le_refl _) _).alloc (by simp) _

end Go.Proofs.Ytmniodfdoidffaa
