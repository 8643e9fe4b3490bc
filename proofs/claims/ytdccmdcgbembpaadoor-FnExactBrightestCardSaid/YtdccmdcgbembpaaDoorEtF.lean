/-
  Two maps of light that are the same are told to be so.
-/
import Derived.Test.YtdccmdcgbembpaaDoorEtD
import Derived.Test.YtdccmdcgbembpaaDoorSameN
import Derived.Test.YtdccmdcgbembpaaDoorRoomF
namespace Go.Proofs.YtdccmdcgbembpaaDoor
open Go.ChangeShapes Go.WideShapes Go.ChangeAt Go.RowKit Go.Deep Go.Joins

attribute [local go_sem] run_store_floatE

theorem info_a1 : (Tryd.prog.info? 92).map (·.size) = some 10 := by kernel_rfl

/-- A row of a map. -/
def rowM (xs : List Nat) (k : Nat) : List Nat := (xs.drop (k * 10)).take 10

theorem rowM_len (xs : List Nat) (hx : xs.length = 100) (k : Nat) (hk : k < 10) : (rowM xs k).length = 10 := by
  unfold rowM
  rw [List.length_take, List.length_drop, hx]
  omega

theorem rowM_all (xs : List Nat) (k : Nat) : (mpC xs).extract (k * 10) (k * 10 + 10) = mpC (rowM xs k) := by
  apply Array.ext'
  simp only [mpC, rowM, Array.toList_extract, List.map_take, List.map_drop]
  simp

theorem rowM_mem {xs : List Nat} {k x : Nat} (h : x ∈ rowM xs k) : x ∈ xs := List.mem_of_mem_drop (List.mem_of_mem_take h)

end Go.Proofs.YtdccmdcgbembpaaDoor
