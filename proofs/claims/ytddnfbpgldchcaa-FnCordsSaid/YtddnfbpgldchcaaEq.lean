/-
  Two arrays of numbers, two suns: when they are equal.
-/
import Derived.Test.YtddnfbpgldchcaaSun
import Derived.Laws.StructEq
import Derived.WalkLawsBesides
namespace Go.Proofs.Ytddnfbpgldchcaa
open Go Go.RowKit







theorem all_eq (xs ys : List Int) (n : Nat) (hx : xs.length = n) (hy : ys.length = n) : (List.range' 0 n).all (fun i => xs[i]?.getD 0 == ys[i]?.getD 0) = (xs == ys) := by
  rw [Bool.eq_iff_iff]
  simp only [List.all_eq_true, beq_iff_eq]
  constructor
  · intro h
    apply List.ext_getElem?
    intro i
    by_cases hi : i < n
    · have h1 := h i (by simp [List.mem_range']; omega)
      rw [List.getElem?_eq_getElem (by omega), List.getElem?_eq_getElem (by omega)] at h1 ⊢
      simpa using h1
    · rw [List.getElem?_eq_none (by omega), List.getElem?_eq_none (by omega)]
  · intro h i _
    rw [h]






theorem fold_and (a b : Bool) (w : World) : (if (!a) = true then Sem.run Try.prog (pure false) w else ((Sem.run Try.prog (pure b) w).andThen fun r w' => Sem.run Try.prog (if (!r) = true then pure false else pure true) w')) = .ok (a && b) w := by
  cases a <;> cases b <;> rfl

end Go.Proofs.Ytddnfbpgldchcaa
