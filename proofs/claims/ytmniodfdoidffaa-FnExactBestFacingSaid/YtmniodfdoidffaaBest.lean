/-
  The hour with the most light on a window: the first, the greatest of the lights, and the model's walk over the hours.
-/
import Derived.Test.YtmniodfdoidffaaFallDay
namespace Go.Proofs.Ytmniodfdoidffaa
open Go.ChangeShapes Go.WideShapes Go.ChangeAt Go.RowKit

/-- The first of the greatest, and where it is; what is not above 0 is never it. -/
def bestTo (g : Nat → Nat) : Nat → Nat × Nat
  | 0 => (0, 0)
  | k + 1 => if FloatKind.f32.format.order (g k) (bestTo g k).2 = some .gt then (k, g k) else bestTo g k

theorem bestTo_gt {g : Nat → Nat} {k : Nat} (h : FloatKind.f32.format.order (g k) (bestTo g k).2 = some .gt) : bestTo g (k + 1) = (k, g k) := if_pos h
theorem bestTo_no {g : Nat → Nat} {k : Nat} {o : Ordering} (h : FloatKind.f32.format.order (g k) (bestTo g k).2 = some o) (ho : o ≠ .gt) : bestTo g (k + 1) = bestTo g k := by
  show (if FloatKind.f32.format.order (g k) (bestTo g k).2 = some .gt then (k, g k) else bestTo g k) = bestTo g k
  exact if_neg (fun e => ho (by rw [h] at e; injection e))
theorem bestTo_pos {g : Nat → Nat} (hg : ∀ k, pos32 (g k) = true) : ∀ k, pos32 (bestTo g k).2 = true
  | 0 => by unfold bestTo; decide
  | k + 1 => by
    unfold bestTo
    split
    · exact hg k
    · exact bestTo_pos hg k
theorem bestTo_one {g : Nat → Nat} (h : g 0 = 0 ∨ FloatKind.f32.format.order (g 0) 0 = some .gt) : bestTo g 1 = (0, g 0) := by
  rcases h with h | h
  · unfold bestTo
    split
    · rfl
    · unfold bestTo; rw [h]
  · exact bestTo_gt (g := g) (k := 0) h
theorem litB_zero_or (l : Nat) : litB l = 0 ∨ FloatKind.f32.format.order (litB l) 0 = some .gt := by
  by_cases h : FloatKind.f32.format.order l 0 = some .gt
  · right; rw [litB_gt h]; exact h
  · left; exact if_neg h
theorem fallB_zero_or (x d : Int) : fallB x d = 0 ∨ FloatKind.f32.format.order (fallB x d) 0 = some .gt := by
  unfold fallB
  split
  · exact litB_zero_or _
  · exact .inl rfl
theorem best_pos (hs ts : List Int) (facing : Int) (k : Nat) : pos32 (bestTo (fun h => fallOf hs ts (h : Int) facing) k).2 = true := bestTo_pos (fun _ => fallB_pos _ _) k
theorem best_order (hs ts : List Int) (facing : Int) (k : Nat) : ∃ o, FloatKind.f32.format.order (fallOf hs ts (k : Int) facing) (bestTo (fun h => fallOf hs ts (h : Int) facing) k).2 = some o :=
  order_some (pos_fin (fallB_pos _ _)) (pos_fin (best_pos hs ts facing k))

end Go.Proofs.Ytmniodfdoidffaa
