/-
  Votes as numbers: their sum, their mean. Nothing of the program is named.
-/
import Derived.Test.YtdccmdcgbembpaaLit
import Derived.Test.YtdccmdcgbembpaaBlkRun
import Derived.Test.YtdccmdcgbembpaaMul
namespace Go.Proofs.Ytdccmdcgbembpaa
open Go

/-- Votes are from 1 to 12, all of them parts. -/
def okVs (zs : List Nat) : Bool := decide (1 ≤ zs.length) && decide (zs.length ≤ 12) && zs.all partB
theorem okVs_get {zs : List Nat} (hw : ∀ z ∈ zs, (Lit.float .f32 z).wf = true) (h : okVs zs = true) : 1 ≤ zs.length ∧ zs.length ≤ 12 ∧ ∀ z ∈ zs, PartOk z := by
  simp only [okVs, Bool.and_eq_true, decide_eq_true_eq] at h
  exact ⟨h.1.1, h.1.2, fun z hz => part_get (hw z hz) (List.all_eq_true.1 h.2 z hz)⟩
/-- The sum of the first k + 1 votes. -/
def sumP (zs : List Nat) : Nat → Nat
  | 0 => zs.getD 0 0
  | k + 1 => fadd (sumP zs k) (zs.getD (k + 1) 0)
def meanF (zs : List Nat) : Nat := fdiv (sumP zs (zs.length - 1)) (floatOfInt .f32 (zs.length : Int))
theorem neg0_add {x : Nat} (hx : x < 2139095040) : floatBits .add .f32 2147483648 x = some x := by
  obtain ⟨m, i, hr, hm⟩ := read_pos hx
  have hz : Ieee.single.read 2147483648 = .number true 0 (-149) := by decide +kernel
  show Ieee.single.add 2147483648 x = _
  unfold Ieee.Format.add
  rw [hr, hz]
  have e0 : min (-149) (-149 + (i : Int)) = -149 := by omega
  have e2 : (-149 + (i : Int) - (-149 : Int)).toNat = i := by omega
  have e4 : Ieee.signed true 0 (-149 - (-149 : Int)).toNat = 0 := by decide
  simp only [Ieee.Datum.sum, Option.map_some, Ieee.Format.write, e0, e2, e4, signed_false, Int.zero_add, Int.natAbs_natCast]
  have e5 : (if ((m * 2 ^ i : Nat) : Int) = 0 then (true && false) else decide (((m * 2 ^ i : Nat) : Int) < 0)) = false := by
    split
    · rfl
    · exact decide_eq_false (by omega)
  rw [e5]
  have hR := nearest_rnd (m * 2 ^ i) (-149) 0 0 (by omega)
  rw [hm] at hR ⊢
  rw [rnd_exact hR (r := x) (by omega) (by decide) rfl]
theorem neg0_neg0 : floatBits .add .f32 2147483648 2147483648 = some 2147483648 := by decide +kernel
def SumOk (s k : Nat) : Prop := s ≤ floatOfInt .f32 (k : Int) ∨ s = 2147483648
theorem sumOk_step {s k x : Nat} (hs : SumOk s k) (hk : k ≤ 12) (hx : PartOk x) : floatBits .add .f32 s x = some (fadd s x) ∧ SumOk (fadd s x) (k + 1) := by
  obtain ⟨c0, c1, c2⟩ := count_nat12 k (by omega)
  have ek : ((k + 1 : Nat) : Int) = (k : Int) + 1 := by omega
  rcases hs with hs | rfl
  · rcases hx with hx | rfl
    · refine ⟨(add_rnd (by omega) (by omega)).1, .inl ?_⟩
      have a := add_mono (x := s) (X := floatOfInt .f32 (k : Int)) (y := x) (Y := 1065353216) c0 (by decide) hs hx
      rw [c1] at a
      rw [ek]; exact a
    · have h := add_neg0 (x := s) (by omega)
      rw [fadd_get h]
      exact ⟨h, .inl (by rw [ek]; omega)⟩
  · rcases hx with hx | rfl
    · have h := neg0_add (x := x) (by omega)
      rw [fadd_get h]
      refine ⟨h, .inl ?_⟩
      have key : ∀ n : Nat, n < 13 → 1065353216 ≤ floatOfInt .f32 ((n : Int) + 1) := by decide +kernel
      have := key k (by omega)
      rw [ek]; omega
    · rw [fadd_get neg0_neg0]
      exact ⟨neg0_neg0, .inr rfl⟩
theorem part_sum {x : Nat} (h : PartOk x) : SumOk x 1 := by
  rcases h with h | rfl
  · have e : floatOfInt .f32 ((1 : Nat) : Int) = 1065353216 := by decide +kernel
    exact .inl (by rw [e]; exact h)
  · exact .inr rfl
theorem getD_part {zs : List Nat} (hp : ∀ z ∈ zs, PartOk z) (k : Nat) (h : k < zs.length) : PartOk (zs.getD k 0) := by
  have e : zs[k]? = some (zs.getD k 0) := by rw [List.getElem?_eq_getElem h]; simp [List.getD, h]
  exact hp _ (List.mem_of_getElem? e)
theorem sumP_ok {zs : List Nat} (hp : ∀ z ∈ zs, PartOk z) (hl : zs.length ≤ 12) : ∀ k, k < zs.length → SumOk (sumP zs k) (k + 1)
  | 0, h => part_sum (getD_part hp 0 h)
  | k + 1, h => (sumOk_step (sumP_ok hp hl k (by omega)) (by omega) (getD_part hp (k + 1) h)).2
theorem sumP_step {zs : List Nat} (hp : ∀ z ∈ zs, PartOk z) (hl : zs.length ≤ 12) (k : Nat) (h : k + 1 < zs.length) : floatBits .add .f32 (sumP zs k) (zs.getD (k + 1) 0) = some (sumP zs (k + 1)) :=
  (sumOk_step (sumP_ok hp hl k (by omega)) (by omega) (getD_part hp (k + 1) h)).1
theorem count_le : ∀ n : Nat, n < 13 → floatOfInt .f32 (n : Int) ≤ 1094713344 := by decide +kernel
theorem count_ge : ∀ n : Nat, n < 12 → 1065353216 ≤ floatOfInt .f32 ((n + 1 : Nat) : Int) := by decide +kernel
theorem mean_ok {zs : List Nat} (hp : ∀ z ∈ zs, PartOk z) (h1 : 1 ≤ zs.length) (hl : zs.length ≤ 12) : floatBits .quo .f32 (sumP zs (zs.length - 1)) (floatOfInt .f32 (zs.length : Int)) = some (meanF zs) ∧ fin32 (meanF zs) = true := by
  have hs := sumP_ok hp hl (zs.length - 1) (by omega)
  unfold meanF
  have e : zs.length - 1 + 1 = zs.length := by omega
  rw [e] at hs
  have y1 := count_le zs.length (by omega)
  have y0 := count_ge (zs.length - 1) (by omega)
  rw [e] at y0
  generalize sumP zs (zs.length - 1) = s at *
  rcases hs with hs | rfl
  · generalize floatOfInt .f32 (zs.length : Int) = y at *
    have d := div_mono (x := s) (X := 1094713344) (y := y) (Y := 1065353216) (by decide) (by omega) (by decide) (by omega) y0
    have ed : fdiv 1094713344 1065353216 = 1094713344 := by decide +kernel
    rw [ed] at d
    exact ⟨(div_rnd (by omega) (by omega) (by omega)).1, num_fin (num_of_isNum (.inl (by omega)))⟩
  · generalize floatOfInt .f32 (zs.length : Int) = y at *
    have h := div_neg0 (y := y) (by omega) (by omega)
    rw [fdiv_get h]
    exact ⟨h, by decide +kernel⟩

end Go.Proofs.Ytdccmdcgbembpaa
