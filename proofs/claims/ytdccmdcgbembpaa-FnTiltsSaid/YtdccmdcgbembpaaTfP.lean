/-
  The tilt that passes nearest to what is wanted. Nothing of the program is named.
-/
import Derived.Test.YtdccmdcgbembpaaLaP
namespace Go.Proofs.Ytdccmdcgbembpaa
open Go

/-- What passes at the k-th tilt, and how far that is from what is wanted. -/
def pT (wd gp sh : Nat) (h : Int) (k : Nat) : Nat := pasB wd gp ((k : Int) - 64) sh h
def dT (wd gp sh : Nat) (h : Int) (want : Nat) (k : Nat) : Nat := sizeB (fsub (pT wd gp sh h k) want)
theorem dT_sub (wd gp : Nat) {sh : Nat} (hs : sh ≤ 1065353216 ∨ sh = 2147483648) (h : Int) {want : Nat} (hw : PartOk want) (x : Int) : floatBits .sub .f32 (pasB wd gp x sh h) want = some (fsub (pasB wd gp x sh h) want) ∧ isNum (fsub (pasB wd gp x sh h) want) :=
  ⟨(dV_ok (pas_le wd gp x hs h) hw).1, (dV_ok (pas_le wd gp x hs h) hw).2.1⟩
theorem dT_num (wd gp : Nat) {sh : Nat} (hs : sh ≤ 1065353216 ∨ sh = 2147483648) (h : Int) {want : Nat} (hw : PartOk want) (k : Nat) : isNum (dT wd gp sh h want k) := size_isNum (dT_sub wd gp hs h hw _).2
theorem pT_fin (wd gp : Nat) {sh : Nat} (hs : sh ≤ 1065353216 ∨ sh = 2147483648) (h : Int) (k : Nat) : fin32 (pT wd gp sh h k) = true := fin_of_lt (Nat.lt_of_le_of_lt (pas_le wd gp _ hs h) (by decide))
def fineT (h : Int) (want : Nat) : Bool := inI 1 64 h && partB want

end Go.Proofs.Ytdccmdcgbembpaa
