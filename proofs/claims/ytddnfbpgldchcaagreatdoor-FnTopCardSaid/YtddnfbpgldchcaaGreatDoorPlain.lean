/-
  Plain facts on single precision numbers and on the sine by quarters. Nothing of the program is imported here.

-/
import Derived.Laws.FloatArith
import Derived.WalkKit

namespace Go.Proofs.YtddnfbpgldchcaaGreatDoor

open Go

/-- The operations on single precision words, 0 where they have no answer. -/
def fmul (x y : Nat) : Nat := (Ieee.single.mul x y).getD 0

def fsub (x y : Nat) : Nat := (Ieee.single.sub x y).getD 0

def fadd (x y : Nat) : Nat := (Ieee.single.add x y).getD 0

def fdiv (x y : Nat) : Nat := (Ieee.single.div x y).getD 0

/-- The sine of the first quarter, step by step. -/
def qx (a : Int) : Nat := fdiv (floatOfInt .f32 a) 1115684864

def qy (a : Int) : Nat := fmul (qx a) (qx a)

def qyk (a : Int) : Nat := fmul (qy a) 1033109504

def qp (a : Int) : Nat := fsub 1059356672 (qyk a)

def qyp (a : Int) : Nat := fmul (qy a) (qp a)

def qq (a : Int) : Nat := fsub 1070137344 (qyp a)

def qs (a : Int) : Nat := fmul (qx a) (qq a)

def qn (a : Int) : Nat := fsub 0 (qs a)

def qOk (a : Int) : Bool :=
  floatBits .quo .f32 (floatOfInt .f32 a) 1115684864 == some (qx a)
    && floatBits .mul .f32 (qx a) (qx a) == some (qy a)
    && floatBits .mul .f32 (qy a) 1033109504 == some (qyk a)
    && floatBits .sub .f32 1059356672 (qyk a) == some (qp a)
    && floatBits .mul .f32 (qy a) (qp a) == some (qyp a)
    && floatBits .sub .f32 1070137344 (qyp a) == some (qq a)
    && floatBits .mul .f32 (qx a) (qq a) == some (qs a)
    && floatBits .sub .f32 0 (qs a) == some (qn a)

theorem qOk_nat : ∀ n : Nat, n < 65 → qOk (n : Int) = true := by decide +kernel

theorem qOk_all (a : Int) (h0 : 0 ≤ a) (h1 : a ≤ 64) : qOk a = true := by
  obtain ⟨n, rfl⟩ := Int.eq_ofNat_of_zero_le h0
  exact qOk_nat n (by omega)

/-- The sine of an angle from 0 to 255, quarter by quarter. -/
def sineB (a : Int) : Nat :=
  if a ≤ 64 then qs a else if a ≤ 128 then qs (128 - a) else if a ≤ 192 then qn (a - 128) else qn (256 - a)

def angB (a : Int) : Int := a % 256

theorem angB_lo (a : Int) : 0 ≤ angB a := by unfold angB; omega

theorem angB_hi (a : Int) : angB a ≤ 255 := by unfold angB; omega

def cosB (a : Int) : Nat := sineB (angB (a + 64))

end Go.Proofs.YtddnfbpgldchcaaGreatDoor
