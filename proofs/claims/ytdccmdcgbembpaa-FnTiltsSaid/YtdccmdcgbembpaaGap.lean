/-
  The gap that is open enough: halvings, as plain functions; the closure that asks, and the halving.
-/
import Derived.Test.YtdccmdcgbembpaaBhd
namespace Go.Proofs.Ytdccmdcgbembpaa
open Go.ChangeShapes Go.WideShapes Go.ChangeAt Go.RowKit Go.Deep Go.Joins

attribute [local go_sem] run_store_f

/-- Whether a gap is open enough. -/
def enoB (wd : Nat) (t h : Int) (want gap : Nat) : Bool := FloatKind.f32.format.order (opnB wd gap t h) want == some .gt || FloatKind.f32.format.order (opnB wd gap t h) want == some .eq
def midB (l h : Nat) : Nat := fdiv (fadd l h) 1073741824
/-- The two bounds behind so many halvings. -/
def halfs (e : Nat → Bool) : Nat → Nat × Nat
  | 0 => (1031798784, 1115684864)
  | k + 1 => if e (midB (halfs e k).1 (halfs e k).2) then ((halfs e k).1, midB (halfs e k).1 (halfs e k).2) else (midB (halfs e k).1 (halfs e k).2, (halfs e k).2)
def InLen (x : Nat) : Prop := 1031798784 ≤ x ∧ x ≤ 1115684864
theorem mid_facts {l h : Nat} (hl : InLen l) (hh : InLen h) : floatBits .add .f32 l h = some (fadd l h) ∧ floatBits .quo .f32 (fadd l h) 1073741824 = some (midB l h) ∧ InLen (midB l h) := by
  obtain ⟨l0, l1⟩ := hl
  obtain ⟨h0, h1⟩ := hh
  have a1 := add_mono (x := l) (X := 1115684864) (y := h) (Y := 1115684864) (by decide) (by decide) l1 h1
  have a2 := add_mono (x := 1031798784) (X := l) (y := 1031798784) (Y := h) (by omega) (by omega) l0 h0
  have e1 : fadd 1115684864 1115684864 = 1124073472 := by decide +kernel
  have e2 : fadd 1031798784 1031798784 = 1040187392 := by decide +kernel
  rw [e1] at a1; rw [e2] at a2
  have d1 := div_mono (x := fadd l h) (X := 1124073472) (y := 1073741824) (Y := 1073741824) (by decide) (by decide) (by decide) a1 (Nat.le_refl _)
  have d2 := div_mono (x := 1040187392) (X := fadd l h) (y := 1073741824) (Y := 1073741824) (by omega) (by decide) (by decide) a2 (Nat.le_refl _)
  have e3 : fdiv 1124073472 1073741824 = 1115684864 := by decide +kernel
  have e4 : fdiv 1040187392 1073741824 = 1031798784 := by decide +kernel
  rw [e3] at d1; rw [e4] at d2
  exact ⟨(add_rnd (by omega) (by omega)).1, (div_rnd (by omega) (by decide) (by decide)).1, d2, d1⟩
theorem halfs_in (e : Nat → Bool) : ∀ k, InLen (halfs e k).1 ∧ InLen (halfs e k).2
  | 0 => ⟨⟨Nat.le_refl 1031798784, by show (1031798784 : Nat) ≤ 1115684864; decide⟩, by show (1031798784 : Nat) ≤ 1115684864; decide, Nat.le_refl 1115684864⟩
  | k + 1 => by
    obtain ⟨h1, h2⟩ := halfs_in e k
    have h3 := (mid_facts h1 h2).2.2
    unfold halfs
    split
    · exact ⟨h1, h3⟩
    · exact ⟨h3, h2⟩
theorem halfs_yes {e : Nat → Bool} {k l h : Nat} (hk : halfs e k = (l, h)) (hm : e (midB l h) = true) : halfs e (k + 1) = (l, midB l h) := by
  rw [halfs, hk]; exact if_pos hm
theorem halfs_no {e : Nat → Bool} {k l h : Nat} (hk : halfs e k = (l, h)) (hm : e (midB l h) = false) : halfs e (k + 1) = (midB l h, h) := by
  rw [halfs, hk]; exact if_neg (by rw [hm]; decide)

theorem want_num {x : Nat} (h : x ≤ 1065353216 ∨ x = 2147483648) : isNum x := by
  rcases h with h | rfl
  · exact .inl (by omega)
  · exact .inr ⟨by decide, by decide⟩
theorem opn_order (wd gap : Nat) (t h : Int) {want : Nat} (hw : want ≤ 1065353216 ∨ want = 2147483648) : ∃ o, FloatKind.f32.format.order (opnB wd gap t h) want = some o :=
  ⟨_, order_num (.inl (Nat.lt_of_le_of_lt (opn_facts wd gap t h).2 (by decide))) (want_num hw)⟩
theorem blok_gap (n : Int) (wd gp : Nat) (t : Int) (sh : Nat) {m : Nat} (ok : BlOk n wd gp t sh) (hm : InLen m) : BlOk n wd m t sh :=
  ⟨ok.1, ok.2.1, ok.2.2.1, ok.2.2.2.1, hm.1, hm.2, ok.2.2.2.2.2.2⟩

theorem laid_allg (cs vs : Array Value) (h : cs.size = vs.size) : laid cs vs 0 = vs := by
  apply Array.ext'
  simp [laid]
  rw [← h]; simp
theorem blind_oneg (n : Int) (wd gp : Nat) (t : Int) (sh : Nat) : ∀ v ∈ blindC n wd gp t sh, v.oneCell' = true := by
  intro v hv
  simp only [blindC, List.mem_toArray, List.mem_cons, List.not_mem_nil, or_false] at hv
  rcases hv with rfl | rfl | rfl | rfl | rfl <;> rfl

end Go.Proofs.Ytdccmdcgbembpaa
