/-
  Contracts of the angle functions of the program and of the model: both give the sine by quarters.
-/
import Derived.Test.YtddnfbpgldchcaaPlain
import Derived.Test.YtddnfbpgldchcaaRows
import Derived.WalkKit
import Derived.WalkSpells
import Derived.WalkLawsBesides
import Derived.Lib.Hide
import Derived.Laws.EntriesVeiled
namespace Go.Proofs.Ytddnfbpgldchcaa
open Go.RowKit

theorem qfacts (a : Int) (h0 : 0 ≤ a) (h1 : a ≤ 64) :
    floatBits .quo .f32 (floatOfInt .f32 a) 1115684864 = some (qx a) ∧ floatBits .mul .f32 (qx a) (qx a) = some (qy a)
    ∧ floatBits .mul .f32 (qy a) 1033109504 = some (qyk a) ∧ floatBits .sub .f32 1059356672 (qyk a) = some (qp a)
    ∧ floatBits .mul .f32 (qy a) (qp a) = some (qyp a) ∧ floatBits .sub .f32 1070137344 (qyp a) = some (qq a)
    ∧ floatBits .mul .f32 (qx a) (qq a) = some (qs a) ∧ floatBits .sub .f32 0 (qs a) = some (qn a) := by
  have h := qOk_all a h0 h1
  simpa [qOk, Bool.and_eq_true, and_assoc] using h

theorem ret_int {k : IntKind} {a b : Int} (h : a = b) : Ending.returned (.int k a) = .returned (.int k b) := by rw [h]
theorem ret_f32 {a b : Nat} (h : a = b) : Ending.returned (.float .f32 a) = .returned (.float .f32 b) := by rw [h]

theorem tmod_ang (a : Int) : a.tmod 256 % 256 = angB a := by
  unfold angB
  have h3 : a = 256 * a.tdiv 256 + a.tmod 256 := (Int.mul_tdiv_add_tmod a 256).symm
  omega
theorem tmod_ang2 (a : Int) : (a.tmod 256 + 256) % 256 = angB a := by
  have h := tmod_ang a
  omega

theorem tmod_bd (a : Int) : -256 < a.tmod 256 ∧ a.tmod 256 < 256 :=
  ⟨Int.lt_tmod_of_pos a (b := 256) (by decide), Int.tmod_lt_of_pos a (b := 256) (by decide)⟩

theorem i16_in (n : Int) (h0 : -32768 ≤ n) (h1 : n ≤ 32767) : IntKind.i16.wrap n = n := by
  simp [IntKind.wrap, IntKind.signed, IntKind.bits]
  omega
theorem quart (a k : Int) (h0 : 0 ≤ k) (h3 : k ≤ 3) (hl : 64 * k ≤ a) (hh : a < 64 * k + 64) : IntKind.i16.wrap (a.tdiv 64) = k := by
  have h : a.tdiv 64 = k := by
    rw [Int.tdiv_eq_ediv_of_nonneg (by omega)]; omega
  rw [h]; exact i16_in k (by omega) (by omega)


theorem qn_0 : qn 0 = qs 0 := by decide +kernel



theorem cosB_ang (a : Int) : cosB (angB a) = cosB a := by
  unfold cosB angB
  congr 1
  omega

theorem cos_ang2 (a : Int) : angB (angB a + 64) = angB (a + 64) := by unfold angB; omega

end Go.Proofs.Ytddnfbpgldchcaa
