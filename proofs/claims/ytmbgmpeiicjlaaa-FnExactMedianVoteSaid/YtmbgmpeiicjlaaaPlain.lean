/-
  Plain facts on single precision numbers and on the sine by quarters. Nothing of the program is imported here.

-/
import Derived.Laws.FloatArith
import Derived.WalkKit

namespace Go.Proofs.Ytmbgmpeiicjlaaa

open Go

def fadd (x y : Nat) : Nat := (Ieee.single.add x y).getD 0

def fdiv (x y : Nat) : Nat := (Ieee.single.div x y).getD 0

end Go.Proofs.Ytmbgmpeiicjlaaa
