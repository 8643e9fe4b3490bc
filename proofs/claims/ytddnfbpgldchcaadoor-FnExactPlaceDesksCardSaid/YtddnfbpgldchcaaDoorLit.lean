/-
  The light that a tile has from windows: parts that are divided by whole numbers, and their sum. Nothing of the program is named.
-/
import Derived.Test.YtddnfbpgldchcaaDoorBlk
namespace Go.Proofs.YtddnfbpgldchcaaDoor
open Go

/-- A part of light: from 0 to 1, or -0. -/
def PartOk (x : Nat) : Prop := x ≤ 1065353216 ∨ x = 2147483648

theorem div_neg0 {y : Nat} (h0 : 0 < y) (hy : y < 2139095040) : floatBits .quo .f32 2147483648 y = some 2147483648 := by
  obtain ⟨n, j, hq, hn⟩ := read_pos hy
  have hz : Ieee.single.read 2147483648 = .number true 0 (-149) := by decide
  have hn0 : n ≠ 0 := by
    rintro rfl
    have := rv_pos h0
    omega
  show Ieee.single.div 2147483648 y = _
  unfold Ieee.Format.div
  rw [hz, hq]
  simp only [Ieee.Datum.quotient, if_neg hn0, Option.map_some, Ieee.Format.write]
  congr 1
  have e : 2 * ((0 <<< (Ieee.single.fractionBits + 2 + n.log2 - Nat.log2 0)) / n) + (((0 <<< (Ieee.single.fractionBits + 2 + n.log2 - Nat.log2 0)) % n != 0).toNat) = 0 := by
    rw [Nat.zero_shiftLeft, Nat.zero_div, Nat.zero_mod]
    rfl
  rw [e]
  unfold Ieee.Format.nearest
  rw [if_pos rfl]
  rfl

theorem whole_nat : ∀ k : Nat, k < 200 → floatOfInt .f32 ((k : Int) + 1) < 2139095040 ∧ 1065353216 ≤ floatOfInt .f32 ((k : Int) + 1) := by decide +kernel
theorem whole_le {d : Int} (h0 : 0 ≤ d) (h1 : d < 200) : floatOfInt .f32 (1 + d) < 2139095040 ∧ 1065353216 ≤ floatOfInt .f32 (1 + d) := by
  obtain ⟨n, rfl⟩ := Int.eq_ofNat_of_zero_le h0
  rw [Int.add_comm]
  exact whole_nat n (by omega)

/-- A part of light, divided by 1 and a whole number. -/
def quoL (light : Nat) (d : Int) : Nat := fdiv light (floatOfInt .f32 (1 + d))
theorem quoL_facts {light : Nat} {d : Int} (hl : PartOk light) (h0 : 0 ≤ d) (h1 : d < 200) : floatBits .quo .f32 light (floatOfInt .f32 (1 + d)) = some (quoL light d) ∧ PartOk (quoL light d) := by
  obtain ⟨a, b⟩ := whole_le h0 h1
  unfold quoL
  generalize floatOfInt .f32 (1 + d) = y at *
  rcases hl with hl | rfl
  · have d1 := div_mono (x := light) (X := 1065353216) (y := y) (Y := 1065353216) (by decide) a (by decide) hl b
    have e : fdiv 1065353216 1065353216 = 1065353216 := by decide +kernel
    rw [e] at d1
    exact ⟨(div_rnd (by omega) a (by omega)).1, .inl d1⟩
  · have h := div_neg0 (y := y) (by omega) a
    rw [fdiv_get h]
    exact ⟨h, .inr rfl⟩

/-- The sum of parts, from the first one on, beginning with 0. -/
def sumL (qs : List Nat) : Nat := qs.foldl fadd 0
theorem sumL_snoc (qs : List Nat) (q : Nat) : sumL (qs ++ [q]) = fadd (sumL qs) q := by simp [sumL]
theorem count_nat12 : ∀ k : Nat, k < 13 → floatOfInt .f32 (k : Int) < 2139095040 ∧ fadd (floatOfInt .f32 (k : Int)) 1065353216 = floatOfInt .f32 ((k : Int) + 1) ∧ floatOfInt .f32 (k : Int) ≤ floatOfInt .f32 ((k : Int) + 1) := by decide +kernel

theorem rev_ind {α : Type} {Pr : List α → Prop} (h0 : Pr []) (hs : ∀ l x, Pr l → Pr (l ++ [x])) : ∀ l, Pr l := by
  intro l
  have h : ∀ n (l : List α), l.length = n → Pr l := by
    intro n
    induction n with
    | zero => intro l hl; rw [List.eq_nil_of_length_eq_zero hl]; exact h0
    | succ n ih =>
      intro l hl
      rcases List.eq_nil_or_concat l with rfl | ⟨l', x, rfl⟩
      · exact h0
      · rw [List.concat_eq_append] at hl ⊢
        exact hs l' x (ih l' (by simp at hl; omega))
  exact h _ l rfl

theorem sumL_le : ∀ qs : List Nat, (∀ q ∈ qs, PartOk q) → qs.length ≤ 13 → sumL qs ≤ floatOfInt .f32 (qs.length : Int) := by
  refine rev_ind (fun _ _ => Nat.zero_le _) (fun l x ih hq hl => ?_)
  simp only [List.length_append, List.length_cons, List.length_nil] at hl ⊢
  have h1 := ih (fun q hm => hq q (by simp [hm])) (by omega)
  obtain ⟨c0, c1, c2⟩ := count_nat12 l.length (by omega)
  rw [sumL_snoc]
  rcases hq x (by simp) with hx | rfl
  · have a := add_mono (x := sumL l) (X := floatOfInt .f32 (l.length : Int)) (y := x) (Y := 1065353216) c0 (by decide) h1 hx
    rw [c1] at a
    simpa using a
  · rw [fadd_get (add_neg0 (x := sumL l) (by omega))]
    have : ((l.length + 1 : Nat) : Int) = (l.length : Int) + 1 := by omega
    rw [this]
    omega

/-- Each step of such a sum has an answer. -/
theorem sumL_step {l : List Nat} {q : Nat} (hq : ∀ x ∈ l, PartOk x) (h : PartOk q) (hl : l.length ≤ 12) : floatBits .add .f32 (sumL l) q = some (sumL (l ++ [q])) := by
  have h1 := sumL_le l hq (by omega)
  obtain ⟨c0, _, _⟩ := count_nat12 l.length (by omega)
  rw [sumL_snoc]
  rcases h with h | rfl
  · exact (add_rnd (by omega) (by omega)).1
  · have := add_neg0 (x := sumL l) (by omega)
    rw [fadd_get this]
    exact this
theorem sumL_num {l : List Nat} (hq : ∀ x ∈ l, PartOk x) (hl : l.length ≤ 12) : sumL l ≤ floatOfInt .f32 (12 : Int) := by
  have h1 := sumL_le l hq (by omega)
  have key : ∀ n : Nat, n < 13 → floatOfInt .f32 (n : Int) ≤ floatOfInt .f32 (12 : Int) := by decide +kernel
  have := key l.length (by omega)
  omega

end Go.Proofs.YtddnfbpgldchcaaDoor
