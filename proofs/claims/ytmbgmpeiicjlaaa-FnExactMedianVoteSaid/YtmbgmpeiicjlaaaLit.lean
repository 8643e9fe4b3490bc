/-
  The light that a tile has from windows: parts that are divided by whole numbers, and their sum. Nothing of the program is named.

-/
import Derived.Test.YtmbgmpeiicjlaaaBlk

namespace Go.Proofs.Ytmbgmpeiicjlaaa

open Go

/-- A part of light: from 0 to 1, or -0. -/
def PartOk (x : Nat) : Prop := x ≤ 1065353216 ∨ x = 2147483648

end Go.Proofs.Ytmbgmpeiicjlaaa
