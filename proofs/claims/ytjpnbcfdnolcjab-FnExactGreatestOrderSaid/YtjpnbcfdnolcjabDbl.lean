/-
  Rounding of numbers of double precision: sums of either sign, with a bound on their size. Nothing of the program is named.
-/
import Derived.Test.YtjpnbcfdnolcjabSms
namespace Go.Proofs.Ytjpnbcfdnolcjab
open Go

namespace Dbl

def fadd (x y : Nat) : Nat := (Ieee.double.add x y).getD 0
/-- The step above a number, and a number, in units of the least one. -/
def ulp (r : Nat) : Nat := 2 ^ (r / 4503599627370496 - 1)

def rv (r : Nat) : Nat := if r < 4503599627370496 then r else (4503599627370496 + r % 4503599627370496) * 2 ^ (r / 4503599627370496 - 1)

theorem ulp_pos (r : Nat) : 0 < ulp r := Nat.two_pow_pos _

theorem rv_block (L k : Nat) (hk : k ≤ 9007199254740992) (h : L = 0 ∨ 4503599627370496 ≤ k) : rv (L * 4503599627370496 + k) = k * 2 ^ L := by
  unfold rv
  by_cases c : k = 9007199254740992
  · subst c
    rw [if_neg (by omega), show (L * 4503599627370496 + 9007199254740992) % 4503599627370496 = 0 by omega, show (L * 4503599627370496 + 9007199254740992) / 4503599627370496 - 1 = L + 1 by omega, Nat.pow_succ]
    omega
  · by_cases c2 : 4503599627370496 ≤ k
    · rw [if_neg (by omega), show (L * 4503599627370496 + k) % 4503599627370496 = k - 4503599627370496 by omega, show (L * 4503599627370496 + k) / 4503599627370496 - 1 = L by omega, show 4503599627370496 + (k - 4503599627370496) = k by omega]
    · obtain rfl : L = 0 := by omega
      rw [if_pos (by omega)]; simp

theorem ulp_block (L k : Nat) (hk : k < 9007199254740992) (h : L = 0 ∨ 4503599627370496 ≤ k) : ulp (L * 4503599627370496 + k) = 2 ^ L := by
  unfold ulp
  congr 1
  omega

theorem rv_split (r : Nat) : ∃ L k, r = L * 4503599627370496 + k ∧ k < 9007199254740992 ∧ (L = 0 ∨ 4503599627370496 ≤ k) := by
  refine ⟨r / 4503599627370496 - 1, r - (r / 4503599627370496 - 1) * 4503599627370496, by omega, by omega, ?_⟩
  by_cases h : r / 4503599627370496 - 1 = 0
  · exact .inl h
  · right; omega

theorem rv_succ (r : Nat) : rv (r + 1) = rv r + ulp r := by
  obtain ⟨L, k, rfl, hk, h⟩ := rv_split r
  rw [Nat.add_assoc, rv_block L (k + 1) (by omega) (by omega), rv_block L k (by omega) h, ulp_block L k hk h, Nat.succ_mul]

theorem rv_lt_add (r d : Nat) : rv r < rv (r + (d + 1)) := by
  induction d with
  | zero => rw [Nat.zero_add, rv_succ]; have := ulp_pos r; omega
  | succ d ih => rw [← Nat.add_assoc r (d + 1) 1, rv_succ]; omega

theorem rv_lt {r s : Nat} (h : r < s) : rv r < rv s := by
  obtain ⟨d, rfl⟩ := Nat.exists_eq_add_of_lt h
  rw [Nat.add_assoc]; exact rv_lt_add r d

theorem rv_le {r s : Nat} (h : r ≤ s) : rv r ≤ rv s := by
  rcases Nat.eq_or_lt_of_le h with rfl | h
  · exact Nat.le_refl _
  · exact Nat.le_of_lt (rv_lt h)

theorem rv_lt_iff {r s : Nat} : rv r < rv s ↔ r < s :=
  ⟨fun h => Nat.lt_of_not_le fun c => by have := rv_le c; omega, rv_lt⟩

theorem rv_le_iff {r s : Nat} : rv r ≤ rv s ↔ r ≤ s :=
  ⟨fun h => Nat.le_of_not_lt fun c => by have := rv_lt c; omega, rv_le⟩

theorem rv_inj {r s : Nat} (h : rv r = rv s) : r = s := by
  have h1 := rv_le_iff (r := r) (s := s)
  have h2 := rv_le_iff (r := s) (s := r)
  omega

theorem rv_zero : rv 0 = 0 := rfl

theorem rv_pos {r : Nat} (h : 0 < r) : 0 < rv r := by have := rv_lt h; rw [rv_zero] at this; exact this

/-- w is the nearest to num / den, in units of the least number; of a number too great, infinity. -/
def Rnd (num den w : Nat) : Prop :=
  w ≤ 9218868437227405312 ∧ ∀ r, r < 9218868437227405312 → (r + 1 ≤ w ↔ (2 * rv r + ulp r) * den < 2 * num ∨ ((2 * rv r + ulp r) * den = 2 * num ∧ r % 2 = 1))

theorem nearest_rnd (m : Nat) (e : Int) (a b : Nat) (hab : (a : Int) - b = e + 1074) : Rnd (m * 2 ^ a) (2 ^ b) (Ieee.double.nearest false m e) := by
  have hb : Ieee.double.binade = 4503599627370496 := by decide
  have hi : Ieee.double.infRung = 9218868437227405312 := by decide
  have hl : Ieee.double.leastPlace = -1074 := by decide
  have hf : (Ieee.double.fractionBits : Int) = 52 := by decide
  have hw : ∀ k, Ieee.double.word false k = k := fun _ => rfl
  have hpb : 0 < 2 ^ b := Nat.two_pow_pos b
  unfold Ieee.Format.nearest
  by_cases h0 : m = 0
  · rw [if_pos h0, hw]
    subst h0
    refine ⟨Nat.zero_le _, fun r _ => ?_⟩
    have h1 := ulp_pos r
    have h2 : 0 < (2 * rv r + ulp r) * 2 ^ b := Nat.mul_pos (by omega) hpb
    constructor
    · intro h; omega
    · intro h; omega
  rw [if_neg h0]
  dsimp only
  rw [hb, hi, hl, hf, hw]
  have hm1 : m < 2 ^ (m.log2 + 1) := Nat.lt_log2_self
  have hm2 : 2 ^ m.log2 ≤ m := Nat.log2_self_le h0
  generalize m.log2 = lg at *
  generalize hlast : max (e + (lg : Int) - 52) (-1074) = last
  obtain ⟨L, hL⟩ : ∃ L : Nat, last = (L : Int) - 1074 := ⟨(last + 1074).toNat, by omega⟩
  have hLL : (last - -1074).toNat = L := by omega
  rw [hLL]
  generalize hu : (e - last).toNat = u
  generalize hd : (last - e).toNat = d
  have hsum : a + d = b + u + L := by omega
  rw [Nat.shiftLeft_eq]
  -- the kept number, between its bounds
  have hup : m * 2 ^ u < 2 ^ (53 + d) := by
    have h1 : m * 2 ^ u < 2 ^ (lg + 1) * 2 ^ u := Nat.mul_lt_mul_of_pos_right hm1 (Nat.two_pow_pos _)
    rw [← Nat.pow_add] at h1
    exact Nat.lt_of_lt_of_le h1 (Nat.pow_le_pow_right (by decide) (by omega))
  have hlo : L = 0 ∨ 2 ^ (52 + d) ≤ m * 2 ^ u := by
    by_cases c : L = 0
    · exact .inl c
    · right
      have h1 : 2 ^ lg * 2 ^ u ≤ m * 2 ^ u := Nat.mul_le_mul_right _ hm2
      rw [← Nat.pow_add] at h1
      exact Nat.le_trans (Nat.pow_le_pow_right (by decide) (by omega)) h1
  have hstep := cut_step false (m * 2 ^ u) d
  have hKup : Ieee.Toward.even.cut false (m * 2 ^ u) d ≤ 9007199254740992 := cut_le (by rw [Nat.pow_add] at hup; exact Nat.le_of_lt hup)
  have hKlo : L = 0 ∨ 4503599627370496 ≤ Ieee.Toward.even.cut false (m * 2 ^ u) d := hlo.imp id (fun h => le_cut (by rw [Nat.pow_add] at h; exact h))
  generalize Ieee.Toward.even.cut false (m * 2 ^ u) d = K at *
  -- the value, in the units of num and den
  have hval : m * 2 ^ a * 2 ^ d = m * 2 ^ u * 2 ^ (b + L) := by
    rw [Nat.mul_assoc, ← Nat.pow_add, hsum, Nat.mul_assoc, ← Nat.pow_add]
    congr 2; omega
  have hpd : 0 < 2 ^ d := Nat.two_pow_pos d
  have hVup : m * 2 ^ a < 9007199254740992 * 2 ^ (b + L) := by
    have h1 : m * 2 ^ u * 2 ^ (b + L) < 2 ^ (53 + d) * 2 ^ (b + L) := Nat.mul_lt_mul_of_pos_right hup (Nat.two_pow_pos _)
    have e24 : 2 ^ (53 + d) * 2 ^ (b + L) = 9007199254740992 * 2 ^ (b + L) * 2 ^ d := by
      rw [Nat.pow_add 2 53 d, Nat.mul_assoc, Nat.mul_comm (2 ^ d), ← Nat.mul_assoc]
    rw [← hval, e24] at h1
    exact Nat.lt_of_mul_lt_mul_right h1
  have hVlo : L = 0 ∨ 4503599627370496 * 2 ^ (b + L) ≤ m * 2 ^ a := hlo.imp id fun h => by
    have h1 : 2 ^ (52 + d) * 2 ^ (b + L) ≤ m * 2 ^ u * 2 ^ (b + L) := Nat.mul_le_mul_right _ h
    have e23 : 2 ^ (52 + d) * 2 ^ (b + L) = 4503599627370496 * 2 ^ (b + L) * 2 ^ d := by
      rw [Nat.pow_add 2 52 d, Nat.mul_assoc, Nat.mul_comm (2 ^ d), ← Nat.mul_assoc]
    rw [← hval, e23] at h1
    exact Nat.le_of_mul_le_mul_right h1 hpd
  refine ⟨Nat.min_le_right _ _, fun r hr => ?_⟩
  have hmin : r + 1 ≤ min (L * 4503599627370496 + K) 9218868437227405312 ↔ r + 1 ≤ L * 4503599627370496 + K := by
    rw [Nat.le_min]; exact ⟨fun h => h.1, fun h => ⟨h, hr⟩⟩
  rw [hmin]
  by_cases c1 : L * 4503599627370496 + 9007199254740992 ≤ r
  · -- above
    have h1 : 9007199254740992 * 2 ^ L ≤ rv r := by rw [← rv_block L 9007199254740992 (Nat.le_refl _) (.inr (by decide))]; exact rv_le c1
    have h2 : 9007199254740992 * 2 ^ L * 2 ^ b ≤ rv r * 2 ^ b := Nat.mul_le_mul_right _ h1
    rw [Nat.mul_assoc, ← Nat.pow_add, Nat.add_comm L b] at h2
    have h3 : (2 * rv r + ulp r) * 2 ^ b = 2 * (rv r * 2 ^ b) + ulp r * 2 ^ b := by rw [Nat.add_mul, Nat.mul_assoc]
    rw [h3]
    constructor
    · intro h; omega
    · intro h; omega
  by_cases c2 : L = 0 ∨ L * 4503599627370496 + 4503599627370496 ≤ r
  · -- within
    obtain ⟨k, rfl⟩ : ∃ k, r = L * 4503599627370496 + k := ⟨r - L * 4503599627370496, by omega⟩
    have hk : k < 9007199254740992 := by omega
    have hk2 : L = 0 ∨ 4503599627370496 ≤ k := by omega
    rw [rv_block L k (by omega) hk2, ulp_block L k hk hk2]
    have h1 : L * 4503599627370496 + k + 1 ≤ L * 4503599627370496 + K ↔ k + 1 ≤ K := by omega
    rw [h1, hstep k]
    have e1 : (2 * (k * 2 ^ L) + 2 ^ L) * 2 ^ b = (2 * k + 1) * 2 ^ (b + L) := by
      rw [← Nat.mul_assoc, ← Nat.succ_mul, Nat.mul_assoc, ← Nat.pow_add, Nat.add_comm L b]
    rw [e1, show (L * 4503599627370496 + k) % 2 = k % 2 by omega]
    rw [← scale_iff ((2 * k + 1) * 2 ^ d) (2 * (m * 2 ^ u)) (2 ^ (b + L)) k (Nat.two_pow_pos _), ← scale_iff ((2 * k + 1) * 2 ^ (b + L)) (2 * (m * 2 ^ a)) (2 ^ d) k hpd]
    have e2 : 2 * (m * 2 ^ a) * 2 ^ d = 2 * (m * 2 ^ u) * 2 ^ (b + L) := by rw [Nat.mul_assoc 2, hval, ← Nat.mul_assoc]
    have e3 : (2 * k + 1) * 2 ^ d * 2 ^ (b + L) = (2 * k + 1) * 2 ^ (b + L) * 2 ^ d := by rw [Nat.mul_assoc, Nat.mul_comm (2 ^ d), ← Nat.mul_assoc]
    rw [e2, e3]
  · -- below
    have hL0 : L ≠ 0 := fun h => c2 (.inl h)
    have hr2 : r + 1 ≤ L * 4503599627370496 + 4503599627370496 := by omega
    have h1 : rv (r + 1) ≤ 4503599627370496 * 2 ^ L := by rw [← rv_block L 4503599627370496 (by decide) (.inr (Nat.le_refl _))]; exact rv_le hr2
    rw [rv_succ] at h1
    have hu0 := ulp_pos r
    have h2 : (2 * rv r + ulp r) < 2 * (4503599627370496 * 2 ^ L) := by omega
    have h3 : (2 * rv r + ulp r) * 2 ^ b < 2 * (4503599627370496 * 2 ^ L) * 2 ^ b := Nat.mul_lt_mul_of_pos_right h2 hpb
    have e1 : 2 * (4503599627370496 * 2 ^ L) * 2 ^ b = 2 * (4503599627370496 * 2 ^ (b + L)) := by rw [Nat.mul_assoc, Nat.mul_assoc, ← Nat.pow_add, Nat.add_comm L b]
    rw [e1] at h3
    have h4 := hVlo.resolve_left hL0
    have h5 := hKlo.resolve_left hL0
    constructor
    · intro _; left; omega
    · intro _; omega

theorem rnd_mono {n1 d1 w1 n2 d2 w2 : Nat} (h1 : Rnd n1 d1 w1) (h2 : Rnd n2 d2 w2) (hd1 : 0 < d1) (hd2 : 0 < d2) (h : n1 * d2 ≤ n2 * d1) : w1 ≤ w2 := by
  refine Nat.le_of_not_lt fun c => ?_
  have hlt : w2 < 9218868437227405312 := Nat.lt_of_lt_of_le c h1.1
  have a1 := (h1.2 w2 hlt).1 c
  have a2 : ¬ (w2 + 1 ≤ w2) := by omega
  rw [h2.2 w2 hlt] at a2
  generalize 2 * rv w2 + ulp w2 = M at *
  have e1 : M * d1 * d2 = M * d2 * d1 := by rw [Nat.mul_assoc, Nat.mul_comm d1, ← Nat.mul_assoc]
  rcases a1 with a1 | ⟨a1, a3⟩
  · have b1 : M * d1 * d2 < 2 * n1 * d2 := Nat.mul_lt_mul_of_pos_right a1 hd2
    have b2 : ¬ (M * d2 < 2 * n2) := fun h => a2 (.inl h)
    have b3 : 2 * n2 * d1 ≤ M * d2 * d1 := Nat.mul_le_mul_right _ (by omega)
    have f1 : 2 * n1 * d2 = 2 * (n1 * d2) := Nat.mul_assoc 2 n1 d2
    have f2 : 2 * n2 * d1 = 2 * (n2 * d1) := Nat.mul_assoc 2 n2 d1
    omega
  · have b1 : M * d1 * d2 = 2 * n1 * d2 := by rw [a1]
    have b2 : M * d2 * d1 ≤ 2 * n2 * d1 := by rw [← e1, b1, Nat.mul_assoc, Nat.mul_assoc]; omega
    have b3 : M * d2 ≤ 2 * n2 := Nat.le_of_mul_le_mul_right b2 hd1
    rcases Nat.eq_or_lt_of_le b3 with b4 | b4
    · exact a2 (.inr ⟨b4, a3⟩)
    · exact a2 (.inl b4)

theorem rnd_le {n d w r : Nat} (h : Rnd n d w) (hd : 0 < d) (hn : n ≤ rv r * d) : w ≤ r := by
  refine Nat.le_of_not_lt fun c => ?_
  have hlt : r < 9218868437227405312 := Nat.lt_of_lt_of_le c h.1
  have a1 := (h.2 r hlt).1 c
  rw [Nat.add_mul, Nat.mul_assoc] at a1
  have : 0 < ulp r * d := Nat.mul_pos (ulp_pos r) hd
  omega

theorem rnd_ge {n d w r : Nat} (h : Rnd n d w) (hr : r ≤ 9218868437227405312) (hd : 0 < d) (hn : rv r * d ≤ n) : r ≤ w := by
  cases r with
  | zero => exact Nat.zero_le _
  | succ r =>
    refine (h.2 r (by omega)).2 (.inl ?_)
    rw [rv_succ, Nat.add_mul] at hn
    rw [Nat.add_mul, Nat.mul_assoc]
    have : 0 < ulp r * d := Nat.mul_pos (ulp_pos r) hd
    omega

theorem read_pos {x : Nat} (h : x < 9218868437227405312) : ∃ m i : Nat, Ieee.double.read x = .number false m (-1074 + (i : Int)) ∧ m * 2 ^ i = rv x := by
  have hb : Ieee.double.binade = 4503599627370496 := by decide
  have hi : Ieee.double.infRung = 9218868437227405312 := by decide
  have hl : Ieee.double.leastPlace = -1074 := by decide
  have hw : Ieee.double.signWeight = 9223372036854775808 := by decide
  unfold Ieee.Format.read rv
  simp only [hb, hi, hl, hw]
  rw [Nat.mod_eq_of_lt (show x < 9223372036854775808 by omega), Nat.div_eq_of_lt (show x < 9223372036854775808 by omega)]
  by_cases c : x < 4503599627370496
  · rw [if_pos c, if_pos c]; exact ⟨x, 0, rfl, by simp⟩
  · rw [if_neg c, if_pos h, if_neg c]; exact ⟨_, _, rfl, rfl⟩

theorem add_rnd {x y : Nat} (hx : x < 9218868437227405312) (hy : y < 9218868437227405312) : floatBits .add .f64 x y = some (fadd x y) ∧ Rnd (rv x + rv y) 1 (fadd x y) := by
  obtain ⟨m, i, hr, hm⟩ := read_pos hx
  obtain ⟨n, j, hq, hn⟩ := read_pos hy
  have h : Ieee.double.add x y = some (Ieee.double.nearest false (m * 2 ^ (i - min i j) + n * 2 ^ (j - min i j)) (-1074 + ((min i j : Nat) : Int))) := by
    unfold Ieee.Format.add
    rw [hr, hq]
    have e0 : min (-1074 + (i : Int)) (-1074 + (j : Int)) = -1074 + ((min i j : Nat) : Int) := by omega
    simp only [Ieee.Datum.sum, Option.map_some, Ieee.Format.write, e0, signed_false]
    have e1 : (-1074 + (i : Int) - (-1074 + ((min i j : Nat) : Int))).toNat = i - min i j := by omega
    have e2 : (-1074 + (j : Int) - (-1074 + ((min i j : Nat) : Int))).toNat = j - min i j := by omega
    rw [e1, e2, ← Int.natCast_add, Int.natAbs_natCast]
    have e3 : (if ((m * 2 ^ (i - min i j) + n * 2 ^ (j - min i j) : Nat) : Int) = 0 then (false && false) else decide (((m * 2 ^ (i - min i j) + n * 2 ^ (j - min i j) : Nat) : Int) < 0)) = false := by
      split
      · rfl
      · exact decide_eq_false (by omega)
    rw [e3]
  have e1 : fadd x y = Ieee.double.nearest false (m * 2 ^ (i - min i j) + n * 2 ^ (j - min i j)) (-1074 + ((min i j : Nat) : Int)) := by unfold fadd; rw [h]; rfl
  rw [e1]
  refine ⟨h, ?_⟩
  have e2 : rv x + rv y = (m * 2 ^ (i - min i j) + n * 2 ^ (j - min i j)) * 2 ^ (min i j) := by
    rw [← hm, ← hn, Nat.add_mul, Nat.mul_assoc, Nat.mul_assoc, ← Nat.pow_add, ← Nat.pow_add, Nat.sub_add_cancel (Nat.min_le_left _ _), Nat.sub_add_cancel (Nat.min_le_right _ _)]
  rw [e2]
  exact nearest_rnd _ _ _ 0 (by omega)

/-- A finite word. -/
def isNum (x : Nat) : Prop := x < 9218868437227405312 ∨ (9223372036854775808 ≤ x ∧ x < 9223372036854775808 + 9218868437227405312)

/-- Its value, in units of the least number. -/
def sv (x : Nat) : Int := if x < 9223372036854775808 then (rv x : Int) else -(rv (x - 9223372036854775808) : Int)

theorem sv_pos {x : Nat} (h : x < 9223372036854775808) : sv x = rv x := if_pos h

theorem sv_neg (r : Nat) : sv (9223372036854775808 + r) = -(rv r : Int) := by
  unfold sv
  rw [if_neg (by omega), Nat.add_sub_cancel_left]

theorem read_neg {r : Nat} (h : r < 9218868437227405312) : ∃ m i : Nat, Ieee.double.read (9223372036854775808 + r) = .number true m (-1074 + (i : Int)) ∧ m * 2 ^ i = rv r := by
  have hb : Ieee.double.binade = 4503599627370496 := by decide
  have hi : Ieee.double.infRung = 9218868437227405312 := by decide
  have hl : Ieee.double.leastPlace = -1074 := by decide
  have hw : Ieee.double.signWeight = 9223372036854775808 := by decide
  unfold Ieee.Format.read rv
  simp only [hb, hi, hl, hw]
  rw [show (9223372036854775808 + r) % 9223372036854775808 = r by omega, show (9223372036854775808 + r) / 9223372036854775808 = 1 by omega]
  by_cases c : r < 4503599627370496
  · rw [if_pos c, if_pos c]; exact ⟨r, 0, rfl, by simp⟩
  · rw [if_neg c, if_pos h, if_neg c]; exact ⟨_, _, rfl, rfl⟩

theorem read_num32 {x : Nat} (h : isNum x) : ∃ (s : Bool) (m i : Nat), Ieee.double.read x = .number s m (-1074 + (i : Int)) ∧ sv x = (if s then -((m * 2 ^ i : Nat) : Int) else ((m * 2 ^ i : Nat) : Int)) := by
  rcases h with h | ⟨h1, h2⟩
  · obtain ⟨m, i, hr, hm⟩ := read_pos h
    exact ⟨false, m, i, hr, by rw [sv_pos (by omega), ← hm]; rfl⟩
  · obtain ⟨r, rfl⟩ : ∃ r, x = 9223372036854775808 + r := ⟨x - 9223372036854775808, by omega⟩
    obtain ⟨m, i, hr, hm⟩ := read_neg (r := r) (by omega)
    exact ⟨true, m, i, hr, by rw [sv_neg, ← hm]; rfl⟩

theorem nearest_sign (s : Bool) (m : Nat) (e : Int) : Ieee.double.nearest s m e = if s then 9223372036854775808 + Ieee.double.nearest false m e else Ieee.double.nearest false m e := by
  have hw : Ieee.double.signWeight = 9223372036854775808 := by decide
  have hword : ∀ r, Ieee.double.word s r = if s then 9223372036854775808 + Ieee.double.word false r else Ieee.double.word false r := by
    intro r
    unfold Ieee.Format.word
    rw [hw]
    cases s <;> rfl
  unfold Ieee.Format.nearest
  by_cases hm : m = 0
  · rw [if_pos hm, if_pos hm]
    exact hword 0
  · rw [if_neg hm, if_neg hm]
    dsimp only
    rw [cut_sign s]
    exact hword _

/-- The number without its sign. -/
def mag (x : Nat) : Nat := if x < 9223372036854775808 then x else x - 9223372036854775808

theorem mag_num {x : Nat} (h : isNum x) : (sv x).natAbs = rv (mag x) ∧ mag x < 9218868437227405312 := by
  unfold mag
  rcases h with h | ⟨h1, h2⟩
  · rw [if_pos (by omega), sv_pos (by omega), Int.natAbs_natCast]; exact ⟨rfl, h⟩
  · obtain ⟨r, rfl⟩ : ∃ r, x = 9223372036854775808 + r := ⟨x - 9223372036854775808, by omega⟩
    rw [if_neg (by omega), sv_neg, Int.natAbs_neg, Int.natAbs_natCast, Nat.add_sub_cancel_left]
    exact ⟨rfl, by omega⟩

theorem mag_pos {x : Nat} (h : x < 9223372036854775808) : mag x = x := if_pos h

theorem mag_sign (s : Bool) {r C : Nat} (hC : C < 9218868437227405312) (h : r ≤ C) : isNum (if s then 9223372036854775808 + r else r) ∧ mag (if s then 9223372036854775808 + r else r) = r := by
  unfold mag
  cases s
  · rw [if_neg (by simp), if_pos (by omega)]; exact ⟨.inl (by omega), rfl⟩
  · rw [if_pos rfl, if_neg (by omega), Nat.add_sub_cancel_left]; exact ⟨.inr ⟨by omega, by omega⟩, rfl⟩

/-- What a sum of signed numbers rounds to. -/
theorem sum_core {A B : Nat} (hA : A < 9218868437227405312) (hB : B < 9218868437227405312) (hC : fadd A B < 9218868437227405312) (T : Int) (p : Nat) (sg : Bool) (h : T.natAbs * 2 ^ p ≤ rv A + rv B) :
    isNum (Ieee.double.nearest sg T.natAbs (-1074 + (p : Int))) ∧ mag (Ieee.double.nearest sg T.natAbs (-1074 + (p : Int))) ≤ fadd A B := by
  have hR := nearest_rnd T.natAbs (-1074 + (p : Int)) p 0 (by omega)
  have hC2 := (add_rnd hA hB).2
  have hle := rnd_mono hR hC2 (by decide) (by decide) (by simpa using h)
  rw [nearest_sign]
  obtain ⟨a, b⟩ := mag_sign sg hC hle
  exact ⟨a, by rw [b]; exact hle⟩

theorem add_mag {x y A B : Nat} (hx : isNum x) (hy : isNum y) (hxA : mag x ≤ A) (hyB : mag y ≤ B) (hA : A < 9218868437227405312) (hB : B < 9218868437227405312) (hC : fadd A B < 9218868437227405312) :
    floatBits .add .f64 x y = some (fadd x y) ∧ isNum (fadd x y) ∧ mag (fadd x y) ≤ fadd A B := by
  have hX := (mag_num hx).1
  have hY := (mag_num hy).1
  have hXA := rv_le hxA
  have hYB := rv_le hyB
  obtain ⟨s, m, i, hr, hm⟩ := read_num32 hx
  obtain ⟨t, n, j, hq, hn⟩ := read_num32 hy
  rw [← signed_scale s m i (min i j) (Nat.min_le_left _ _)] at hm
  rw [← signed_scale t n j (min i j) (Nat.min_le_right _ _)] at hn
  have h : Ieee.double.add x y = some (Ieee.double.nearest (if Ieee.signed s m (i - min i j) + Ieee.signed t n (j - min i j) = 0 then (s && t) else decide (Ieee.signed s m (i - min i j) + Ieee.signed t n (j - min i j) < 0)) (Ieee.signed s m (i - min i j) + Ieee.signed t n (j - min i j)).natAbs (-1074 + ((min i j : Nat) : Int))) := by
    unfold Ieee.Format.add
    rw [hr, hq]
    have e0 : min (-1074 + (i : Int)) (-1074 + (j : Int)) = -1074 + ((min i j : Nat) : Int) := by omega
    have e1 : (-1074 + (i : Int) - (-1074 + ((min i j : Nat) : Int))).toNat = i - min i j := by omega
    have e2 : (-1074 + (j : Int) - (-1074 + ((min i j : Nat) : Int))).toNat = j - min i j := by omega
    simp only [Ieee.Datum.sum, Option.map_some, Ieee.Format.write, e0, e1, e2]
  have e1 : fadd x y = (Ieee.double.add x y).getD 0 := rfl
  refine ⟨by rw [e1, h]; exact h, ?_⟩
  rw [h, Option.getD_some] at e1
  generalize hT : Ieee.signed s m (i - min i j) + Ieee.signed t n (j - min i j) = T at *
  have hsv : T * ((2 ^ min i j : Nat) : Int) = sv x + sv y := by rw [← hT, Int.add_mul, hm, hn]
  have habs : T.natAbs * 2 ^ min i j ≤ rv A + rv B := by
    have h1 : (T * ((2 ^ min i j : Nat) : Int)).natAbs = T.natAbs * 2 ^ min i j := by rw [Int.natAbs_mul, Int.natAbs_natCast]
    rw [← h1, hsv]
    omega
  rw [e1]
  exact sum_core hA hB hC T _ _ habs

theorem read_mag {x : Nat} (h : isNum x) : ∃ (s : Bool) (m i : Nat), Ieee.double.read x = .number s m (-1074 + (i : Int)) ∧ m * 2 ^ i = rv (mag x) := by
  unfold mag
  rcases h with h | ⟨h1, h2⟩
  · obtain ⟨m, i, hr, hm⟩ := read_pos h
    exact ⟨false, m, i, hr, by rw [if_pos (by omega)]; exact hm⟩
  · obtain ⟨r, rfl⟩ : ∃ r, x = 9223372036854775808 + r := ⟨x - 9223372036854775808, by omega⟩
    obtain ⟨m, i, hr, hm⟩ := read_neg (r := r) (by omega)
    exact ⟨true, m, i, hr, by rw [if_neg (by omega), Nat.add_sub_cancel_left]; exact hm⟩


end Dbl

end Go.Proofs.Ytjpnbcfdnolcjab
