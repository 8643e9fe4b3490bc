/-
  Two arrays of numbers, two suns: when they are equal.
-/
import Derived.Test.YtddnfbpgldchcaaDoorSun
import Derived.Laws.StructEq
import Derived.WalkLawsBesides
namespace Go.Proofs.YtddnfbpgldchcaaDoor
open Go Go.RowKit

set_option maxRecDepth 100000 in
theorem size_i16 (w : World) : (sizeOf 119).run Tryd.prog w = .ok 1 w := by kernel_rfl

set_option maxRecDepth 100000 in
theorem agg_i16 (w : World) : (isAgg 119).run Tryd.prog w = .ok false w := by kernel_rfl

theorem part_i16 (xs : List Int) (i : Nat) (h : i < xs.length) (w : World) : (part 119 (i16s xs) i).run Tryd.prog w = .ok (.int .i16 (xs[i]?.getD 0)) w := by
  unfold part
  rw [Sem.run_bind, agg_i16]
  simp only [Result.andThen_ok, Bool.false_eq_true, if_false, i16s_get xs i h]
  rfl



theorem eq_loop (d : Nat) (xs ys : List Int) (w : World) : ∀ (is : List Nat), (∀ i ∈ is, i < xs.length ∧ i < ys.length) →
    (forIn is ((none, ()) : Option Bool × Unit) (fun i _ => do
      if (!(← Op.equalIn (d + 1) 119 (← part 119 (i16s xs) (i * 1)) (← part 119 (i16s ys) (i * 1)))) = true then pure (ForInStep.done (some false, ()))
      else pure (ForInStep.yield (none, ())))).run Tryd.prog w = .ok (if is.all (fun i => xs[i]?.getD 0 == ys[i]?.getD 0) then (none, ()) else (some false, ())) w
  | [], _ => rfl
  | i :: is, h => by
    have hi := h i (by simp)
    have ih := eq_loop d xs ys w is (fun j hj => h j (by simp [hj]))
    rw [List.forIn_cons]
    simp only [Nat.mul_one] at ih ⊢
    simp only [Sem.run_bind, part_i16 xs i hi.1, part_i16 ys i hi.2, Result.andThen_ok, run_equalIn_int w d 119 .i16 .i16 _ _ Tryd.underlying119]
    cases hc : (xs[i]?.getD 0 == ys[i]?.getD 0)
    · simp [hc]
    · simp only [Bool.not_true, Bool.false_eq_true, if_false, Sem.run_pure, Result.andThen_ok, List.all_cons, hc, Bool.true_and]
      exact ih

theorem all_eq (xs ys : List Int) (n : Nat) (hx : xs.length = n) (hy : ys.length = n) : (List.range' 0 n).all (fun i => xs[i]?.getD 0 == ys[i]?.getD 0) = (xs == ys) := by
  rw [Bool.eq_iff_iff]
  simp only [List.all_eq_true, beq_iff_eq]
  constructor
  · intro h
    apply List.ext_getElem?
    intro i
    by_cases hi : i < n
    · have h1 := h i (by simp [List.mem_range']; omega)
      rw [List.getElem?_eq_getElem (by omega), List.getElem?_eq_getElem (by omega)] at h1 ⊢
      simpa using h1
    · rw [List.getElem?_eq_none (by omega), List.getElem?_eq_none (by omega)]
  · intro h i _
    rw [h]






theorem fold_and (a b : Bool) (w : World) : (if (!a) = true then Sem.run Tryd.prog (pure false) w else ((Sem.run Tryd.prog (pure b) w).andThen fun r w' => Sem.run Tryd.prog (if (!r) = true then pure false else pure true) w')) = .ok (a && b) w := by
  cases a <;> cases b <;> rfl

end Go.Proofs.YtddnfbpgldchcaaDoor
