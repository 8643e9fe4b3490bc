/-
  The part of light that a blind blocks, that is open, and that passes, as plain functions; none of their steps is without an answer. Nothing of the program is named.

-/
import Derived.Test.YtmbgmpeiicjlaaaSgn

namespace Go.Proofs.Ytmbgmpeiicjlaaa

open Go

/-! ### Products, quotients and sums grow with their operands -/

theorem div_mono {x X y Y : Nat} (hX : X < 2139095040) (hy' : y < 2139095040) (hY : 0 < Y) (hx : x ≤ X) (hy : Y ≤ y) : fdiv x y ≤ fdiv X Y := by
  refine rnd_mono (div_rnd (by omega) hy' (by omega)).2 (div_rnd hX (by omega) hY).2 (rv_pos (by omega)) (rv_pos hY) ?_
  exact Nat.mul_le_mul (Nat.mul_le_mul_right _ (rv_le hx)) (rv_le hy)

/-! ### What is blocked -/

end Go.Proofs.Ytmbgmpeiicjlaaa
