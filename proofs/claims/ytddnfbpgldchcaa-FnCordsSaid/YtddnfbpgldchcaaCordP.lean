/-
  How long a cord is, and where its stops lie, as plain functions; none of their steps is without an answer. Nothing of the program is named.
-/
import Derived.Test.YtddnfbpgldchcaaBlk
namespace Go.Proofs.Ytddnfbpgldchcaa
open Go

def grownB (st load : Nat) : Nat := fadd 1065353216 (fmul load st)
def strB (ln st load : Nat) : Nat := fmul ln (grownB st load)
def plcB (ln st load : Nat) (stop sp : Int) : Nat := fdiv (fmul (strB ln st load) (floatOfInt .f32 stop)) (floatOfInt .f32 sp)

theorem grown_facts {st load : Nat} (hs : st ≤ 1065353216 ∨ st = 2147483648) (hl : load ≤ 1065353216 ∨ load = 2147483648) :
    floatBits .mul .f32 load st = some (fmul load st) ∧ floatBits .add .f32 1065353216 (fmul load st) = some (grownB st load) ∧ 1065353216 ≤ grownB st load ∧ grownB st load ≤ 1073741824 := by
  have key : ∀ p, p ≤ 1065353216 → floatBits .add .f32 1065353216 p = some (fadd 1065353216 p) ∧ 1065353216 ≤ fadd 1065353216 p ∧ fadd 1065353216 p ≤ 1073741824 := by
    intro p hp
    have a1 := add_mono (x := 1065353216) (X := 1065353216) (y := p) (Y := 1065353216) (by decide) (by decide) (Nat.le_refl _) hp
    have a2 := add_mono (x := 1065353216) (X := 1065353216) (y := 0) (Y := p) (by decide) (by omega) (Nat.le_refl _) (Nat.zero_le _)
    have e1 : fadd 1065353216 1065353216 = 1073741824 := by decide +kernel
    have e2 : fadd 1065353216 0 = 1065353216 := by decide +kernel
    rw [e1] at a1; rw [e2] at a2
    exact ⟨(add_rnd (by decide) (by omega)).1, a2, a1⟩
  have neg : floatBits .add .f32 1065353216 2147483648 = some 1065353216 := add_neg0 (by decide)
  unfold grownB
  rcases hl with hl | rfl
  · rcases hs with hs | rfl
    · have m := mul_le_one (x := load) (y := st) (by omega) hs
      obtain ⟨k1, k2, k3⟩ := key (fmul load st) (by omega)
      exact ⟨(mul_rnd (by omega) (by omega)).1, k1, k2, k3⟩
    · have m := (mul_neg0 (x := load) (by omega)).1
      rw [fmul_get m, fadd_get neg]
      exact ⟨m, neg, by decide, by decide⟩
  · rcases hs with hs | rfl
    · have m := (mul_neg0 (x := st) (by omega)).2
      rw [fmul_get m, fadd_get neg]
      exact ⟨m, neg, by decide, by decide⟩
    · have m : floatBits .mul .f32 2147483648 2147483648 = some 0 := by decide +kernel
      rw [fmul_get m]
      obtain ⟨k1, k2, k3⟩ := key 0 (by decide)
      exact ⟨m, k1, k2, k3⟩

theorem str_facts {ln st load : Nat} (h0 : 1031798784 ≤ ln) (h1 : ln ≤ 1115684864) (hs : st ≤ 1065353216 ∨ st = 2147483648) (hl : load ≤ 1065353216 ∨ load = 2147483648) :
    floatBits .mul .f32 ln (grownB st load) = some (strB ln st load) ∧ 1031798784 ≤ strB ln st load ∧ strB ln st load ≤ 1124073472 := by
  obtain ⟨_, _, g0, g1⟩ := grown_facts hs hl
  unfold strB
  generalize grownB st load = g at *
  have m1 := mul_mono (x := ln) (X := 1115684864) (y := g) (Y := 1073741824) (by decide) (by decide) h1 g1
  have m2 := mul_mono (x := 1031798784) (X := ln) (y := 1065353216) (Y := g) (by omega) (by omega) h0 g0
  have e1 : fmul 1115684864 1073741824 = 1124073472 := by decide +kernel
  rw [e1] at m1
  rw [one_mul (by decide)] at m2
  exact ⟨(mul_rnd (by omega) (by omega)).1, m2, m1⟩

theorem count_nat : ∀ k : Nat, k < 101 → floatOfInt .f32 (k : Int) ≤ 1120403456 ∧ (k = 0 ∨ 1065353216 ≤ floatOfInt .f32 (k : Int)) := by decide +kernel
theorem count_le {k : Int} (h0 : 0 ≤ k) (h1 : k ≤ 100) : floatOfInt .f32 k ≤ 1120403456 ∧ (k = 0 ∨ 1065353216 ≤ floatOfInt .f32 k) := by
  obtain ⟨n, rfl⟩ := Int.eq_ofNat_of_zero_le h0
  have := count_nat n (by omega)
  exact ⟨this.1, this.2.imp (fun h => by omega) id⟩

theorem plc_facts {ln st load : Nat} {stop sp : Int} (h0 : 1031798784 ≤ ln) (h1 : ln ≤ 1115684864) (hs : st ≤ 1065353216 ∨ st = 2147483648) (hl : load ≤ 1065353216 ∨ load = 2147483648) (k0 : 0 ≤ stop) (k1 : stop ≤ 100) (s0 : 1 ≤ sp) (s1 : sp ≤ 100) :
    floatBits .mul .f32 (strB ln st load) (floatOfInt .f32 stop) = some (fmul (strB ln st load) (floatOfInt .f32 stop)) ∧ floatBits .quo .f32 (fmul (strB ln st load) (floatOfInt .f32 stop)) (floatOfInt .f32 sp) = some (plcB ln st load stop sp) ∧ plcB ln st load stop sp < 2139095040 := by
  obtain ⟨_, a0, a1⟩ := str_facts h0 h1 hs hl
  have b := (count_le k0 k1).1
  have c := count_le (k := sp) (by omega) s1
  have c2 := c.2.resolve_left (by omega)
  have c1 := c.1
  unfold plcB
  generalize strB ln st load = x at *
  generalize floatOfInt .f32 stop = y at *
  generalize floatOfInt .f32 sp = z at *
  have m1 := mul_mono (x := x) (X := 1124073472) (y := y) (Y := 1120403456) (by decide) (by decide) a1 b
  have e1 : fmul 1124073472 1120403456 = 1179123712 := by decide +kernel
  rw [e1] at m1
  have d1 := div_mono (x := fmul x y) (X := 1179123712) (y := z) (Y := 1065353216) (by decide) (by omega) (by decide) m1 c2
  have e2 : fdiv 1179123712 1065353216 < 2139095040 := by decide +kernel
  exact ⟨(mul_rnd (by omega) (by omega)).1, (div_rnd (by omega) (by omega) (by omega)).1, by omega⟩

end Go.Proofs.Ytddnfbpgldchcaa
