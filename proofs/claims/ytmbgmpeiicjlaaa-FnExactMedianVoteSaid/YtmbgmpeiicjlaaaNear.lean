/-
  A difference of two finite numbers that are not too great is a finite number; and the first of several numbers that is least. Nothing of the program is named.

-/
import Derived.Test.YtmbgmpeiicjlaaaBlk

namespace Go.Proofs.Ytmbgmpeiicjlaaa

open Go

theorem cut_sign (s : Bool) (n d : Nat) : Ieee.Toward.even.cut s n d = Ieee.Toward.even.cut false n d := by
  unfold Ieee.Toward.cut
  rfl

theorem nearest_sign (s : Bool) (m : Nat) (e : Int) : Ieee.single.nearest s m e = if s then 2147483648 + Ieee.single.nearest false m e else Ieee.single.nearest false m e := by
  have hw : Ieee.single.signWeight = 2147483648 := by decide
  have hword : ∀ r, Ieee.single.word s r = if s then 2147483648 + Ieee.single.word false r else Ieee.single.word false r := by
    intro r
    unfold Ieee.Format.word
    rw [hw]
    cases s <;> rfl
  unfold Ieee.Format.nearest
  by_cases hm : m = 0
  · rw [if_pos hm, if_pos hm]
    exact hword 0
  · rw [if_neg hm, if_neg hm]
    dsimp only
    rw [cut_sign s]
    exact hword _

end Go.Proofs.Ytmbgmpeiicjlaaa
