/-
  Numbers of single precision with their sign: order, and what lies between two bounds. Nothing of the program is named.

-/
import Derived.Test.YtmbgmpeiicjlaaaRnd

namespace Go.Proofs.Ytmbgmpeiicjlaaa

open Go

/-- A finite word. -/
def isNum (x : Nat) : Prop := x < 2139095040 ∨ (2147483648 ≤ x ∧ x < 2147483648 + 2139095040)

/-- Its value, in units of the least number. -/
def sv (x : Nat) : Int := if x < 2147483648 then (rv x : Int) else -(rv (x - 2147483648) : Int)

theorem sv_pos {x : Nat} (h : x < 2147483648) : sv x = rv x := if_pos h

theorem sv_neg (r : Nat) : sv (2147483648 + r) = -(rv r : Int) := by
  unfold sv
  rw [if_neg (by omega), Nat.add_sub_cancel_left]

theorem read_neg {r : Nat} (h : r < 2139095040) : ∃ m i : Nat, Ieee.single.read (2147483648 + r) = .number true m (-149 + (i : Int)) ∧ m * 2 ^ i = rv r := by
  have hb : Ieee.single.binade = 8388608 := by decide
  have hi : Ieee.single.infRung = 2139095040 := by decide
  have hl : Ieee.single.leastPlace = -149 := by decide
  have hw : Ieee.single.signWeight = 2147483648 := by decide
  unfold Ieee.Format.read rv
  simp only [hb, hi, hl, hw]
  rw [show (2147483648 + r) % 2147483648 = r by omega, show (2147483648 + r) / 2147483648 = 1 by omega]
  by_cases c : r < 8388608
  · rw [if_pos c, if_pos c]; exact ⟨r, 0, rfl, by simp⟩
  · rw [if_neg c, if_pos h, if_neg c]; exact ⟨_, _, rfl, rfl⟩

theorem read_num32 {x : Nat} (h : isNum x) : ∃ (s : Bool) (m i : Nat), Ieee.single.read x = .number s m (-149 + (i : Int)) ∧ sv x = (if s then -((m * 2 ^ i : Nat) : Int) else ((m * 2 ^ i : Nat) : Int)) := by
  rcases h with h | ⟨h1, h2⟩
  · obtain ⟨m, i, hr, hm⟩ := read_pos h
    exact ⟨false, m, i, hr, by rw [sv_pos (by omega), ← hm]; rfl⟩
  · obtain ⟨r, rfl⟩ : ∃ r, x = 2147483648 + r := ⟨x - 2147483648, by omega⟩
    obtain ⟨m, i, hr, hm⟩ := read_neg (r := r) (by omega)
    exact ⟨true, m, i, hr, by rw [sv_neg, ← hm]; rfl⟩

theorem num_of_isNum {x : Nat} (h : isNum x) : num32 x = true := by
  obtain ⟨s, m, i, hr, _⟩ := read_num32 h
  unfold num32; rw [hr]

theorem signed_scale (s : Bool) (m i b : Nat) (h : b ≤ i) : Ieee.signed s m (i - b) * ((2 ^ b : Nat) : Int) = (if s then -((m * 2 ^ i : Nat) : Int) else ((m * 2 ^ i : Nat) : Int)) := by
  have e : m * 2 ^ i = m * 2 ^ (i - b) * 2 ^ b := by rw [Nat.mul_assoc, ← Nat.pow_add, Nat.sub_add_cancel h]
  unfold Ieee.signed
  rw [Nat.shiftLeft_eq, e]
  cases s
  · rw [if_neg (by decide), if_neg (by decide), Int.natCast_mul (m * 2 ^ (i - b))]
  · rw [if_pos rfl, if_pos rfl, Int.natCast_mul (m * 2 ^ (i - b)), Int.neg_mul]

theorem compare_scale (a b : Int) (t : Nat) (ht : 0 < t) : compare (a * (t : Int)) (b * (t : Int)) = compare a b := by
  have ht' : (0 : Int) < (t : Int) := by omega
  rcases Int.lt_trichotomy a b with h | h | h
  · rw [Int.compare_eq_lt.2 h, Int.compare_eq_lt.2 (Int.mul_lt_mul_of_pos_right h ht')]
  · subst h; rw [Int.compare_eq_eq.2 rfl, Int.compare_eq_eq.2 rfl]
  · rw [Int.compare_eq_gt.2 h, Int.compare_eq_gt.2 (Int.mul_lt_mul_of_pos_right h ht')]

/-- Finite numbers are ordered as their values. -/
theorem order_num {x y : Nat} (hx : isNum x) (hy : isNum y) : FloatKind.f32.format.order x y = some (compare (sv x) (sv y)) := by
  obtain ⟨s, m, i, hr, hm⟩ := read_num32 hx
  obtain ⟨t, n, j, hq, hn⟩ := read_num32 hy
  show (Ieee.single.read x).order (Ieee.single.read y) = _
  rw [hr, hq]
  have e0 : min (-149 + (i : Int)) (-149 + (j : Int)) = -149 + ((min i j : Nat) : Int) := by omega
  have e1 : (-149 + (i : Int) - (-149 + ((min i j : Nat) : Int))).toNat = i - min i j := by omega
  have e2 : (-149 + (j : Int) - (-149 + ((min i j : Nat) : Int))).toNat = j - min i j := by omega
  simp only [Ieee.Datum.order, e0, e1, e2]
  rw [hm, hn, ← signed_scale s m i (min i j) (Nat.min_le_left _ _), ← signed_scale t n j (min i j) (Nat.min_le_right _ _), compare_scale _ _ _ (Nat.two_pow_pos _)]

/-- What every word is. -/
theorem word_cases (x : Nat) (h : x < 4294967296) : isNum x ∨ x = 2139095040 ∨ x = 4286578688 ∨ ∃ s f, Ieee.single.read x = .nan s f := by
  by_cases c1 : x < 2139095040
  · exact .inl (.inl c1)
  by_cases c2 : x = 2139095040
  · exact .inr (.inl c2)
  by_cases c3 : 2147483648 ≤ x ∧ x < 2147483648 + 2139095040
  · exact .inl (.inr c3)
  by_cases c4 : x = 4286578688
  · exact .inr (.inr (.inl c4))
  refine .inr (.inr (.inr ?_))
  have hb : Ieee.single.binade = 8388608 := by decide
  have hi : Ieee.single.infRung = 2139095040 := by decide
  have hw : Ieee.single.signWeight = 2147483648 := by decide
  unfold Ieee.Format.read
  simp only [hb, hi, hw]
  rw [if_neg (by omega), if_neg (by omega), if_neg (by omega)]
  exact ⟨_, _, rfl⟩

theorem inf_order (y : Nat) (hy : isNum y) : FloatKind.f32.format.order 2139095040 y = some .gt ∧ FloatKind.f32.format.order 4286578688 y = some .lt := by
  obtain ⟨t, n, j, hq, hn⟩ := read_num32 hy
  have h1 : Ieee.single.read 2139095040 = .infinity false := by decide +kernel
  have h2 : Ieee.single.read 4286578688 = .infinity true := by decide +kernel
  constructor
  · show (Ieee.single.read 2139095040).order (Ieee.single.read y) = _
    rw [h1, hq]; rfl
  · show (Ieee.single.read 4286578688).order (Ieee.single.read y) = _
    rw [h2, hq]; rfl

theorem nan_order {x : Nat} (h : ∃ s f, Ieee.single.read x = .nan s f) (y : Nat) : FloatKind.f32.format.order x y = none := by
  obtain ⟨s, f, h⟩ := h
  show (Ieee.single.read x).order (Ieee.single.read y) = none
  rw [h]
  cases Ieee.single.read y <;> rfl

def ge0 (o : Option Ordering) : Bool := o == some .gt || o == some .eq

def le0 (o : Option Ordering) : Bool := o == some .lt || o == some .eq

def betw (a lo hi : Nat) : Bool := ge0 (FloatKind.f32.format.order a lo) && le0 (FloatKind.f32.format.order a hi)

theorem ge0_compare (a b : Int) : ge0 (some (compare a b)) = decide (b ≤ a) := by
  rcases Int.lt_trichotomy a b with h | h | h
  · rw [Int.compare_eq_lt.2 h, decide_eq_false (by omega)]; rfl
  · rw [Int.compare_eq_eq.2 h, decide_eq_true (by omega)]; rfl
  · rw [Int.compare_eq_gt.2 h, decide_eq_true (by omega)]; rfl

theorem le0_compare (a b : Int) : le0 (some (compare a b)) = decide (a ≤ b) := by
  rcases Int.lt_trichotomy a b with h | h | h
  · rw [Int.compare_eq_lt.2 h, decide_eq_true (by omega)]; rfl
  · rw [Int.compare_eq_eq.2 h, decide_eq_true (by omega)]; rfl
  · rw [Int.compare_eq_gt.2 h, decide_eq_false (by omega)]; rfl

theorem betw_num {a lo hi : Nat} (ha : isNum a) (hl : isNum lo) (hh : isNum hi) : betw a lo hi = (decide (sv lo ≤ sv a) && decide (sv a ≤ sv hi)) := by
  unfold betw
  rw [order_num ha hl, order_num ha hh, ge0_compare, le0_compare]

/-- What lies between two finite numbers is finite, and its value lies between theirs. -/
theorem betw_get {a lo hi : Nat} (hw : (Lit.float .f32 a).wf = true) (hl : isNum lo) (hh : isNum hi) (h : betw a lo hi = true) : isNum a ∧ sv lo ≤ sv a ∧ sv a ≤ sv hi := by
  have hw' : a < 4294967296 := by simpa [Lit.wf] using hw
  rcases word_cases a hw' with c | c | c | c
  · rw [betw_num c hl hh] at h
    simp only [Bool.and_eq_true, decide_eq_true_eq] at h
    exact ⟨c, h⟩
  · subst c
    unfold betw at h
    rw [(inf_order lo hl).1, (inf_order hi hh).1] at h
    cases h
  · subst c
    unfold betw at h
    rw [(inf_order lo hl).2, (inf_order hi hh).2] at h
    cases h
  · unfold betw at h
    rw [nan_order c, nan_order c] at h
    cases h

/-- A number from 0 on, -0 among them. -/
theorem betw_zero {a hi : Nat} (hw : (Lit.float .f32 a).wf = true) (hh : hi < 2139095040) (h : betw a 0 hi = true) : a ≤ hi ∨ a = 2147483648 := by
  obtain ⟨hn, h1, h2⟩ := betw_get hw (.inl (by omega)) (.inl hh) h
  have e0 : sv 0 = 0 := rfl
  rw [e0] at h1
  rw [sv_pos (x := hi) (by omega)] at h2
  rcases hn with hn | ⟨hn1, hn2⟩
  · rw [sv_pos (x := a) (by omega)] at h1 h2
    left
    rw [← rv_le_iff (r := a)]
    omega
  · obtain ⟨r, rfl⟩ : ∃ r, a = 2147483648 + r := ⟨a - 2147483648, by omega⟩
    rw [sv_neg] at h1
    by_cases c : r = 0
    · right; omega
    · have := rv_pos (r := r) (by omega)
      omega

end Go.Proofs.Ytmbgmpeiicjlaaa
