/-
  Rounding of numbers of single precision that are not less than 0: each operation gives the nearest number. Nothing of the program is named.

-/
import Derived.Test.YtmbgmpeiicjlaaaMul

namespace Go.Proofs.Ytmbgmpeiicjlaaa

open Go

/-- The step above a number, and a number, in units of the least one. -/
def ulp (r : Nat) : Nat := 2 ^ (r / 8388608 - 1)

def rv (r : Nat) : Nat := if r < 8388608 then r else (8388608 + r % 8388608) * 2 ^ (r / 8388608 - 1)

theorem ulp_pos (r : Nat) : 0 < ulp r := Nat.two_pow_pos _

theorem rv_block (L k : Nat) (hk : k ≤ 16777216) (h : L = 0 ∨ 8388608 ≤ k) : rv (L * 8388608 + k) = k * 2 ^ L := by
  unfold rv
  by_cases c : k = 16777216
  · subst c
    rw [if_neg (by omega), show (L * 8388608 + 16777216) % 8388608 = 0 by omega, show (L * 8388608 + 16777216) / 8388608 - 1 = L + 1 by omega, Nat.pow_succ]
    omega
  · by_cases c2 : 8388608 ≤ k
    · rw [if_neg (by omega), show (L * 8388608 + k) % 8388608 = k - 8388608 by omega, show (L * 8388608 + k) / 8388608 - 1 = L by omega, show 8388608 + (k - 8388608) = k by omega]
    · obtain rfl : L = 0 := by omega
      rw [if_pos (by omega)]; simp

theorem ulp_block (L k : Nat) (hk : k < 16777216) (h : L = 0 ∨ 8388608 ≤ k) : ulp (L * 8388608 + k) = 2 ^ L := by
  unfold ulp
  congr 1
  omega

theorem rv_split (r : Nat) : ∃ L k, r = L * 8388608 + k ∧ k < 16777216 ∧ (L = 0 ∨ 8388608 ≤ k) := by
  refine ⟨r / 8388608 - 1, r - (r / 8388608 - 1) * 8388608, by omega, by omega, ?_⟩
  by_cases h : r / 8388608 - 1 = 0
  · exact .inl h
  · right; omega

theorem rv_succ (r : Nat) : rv (r + 1) = rv r + ulp r := by
  obtain ⟨L, k, rfl, hk, h⟩ := rv_split r
  rw [Nat.add_assoc, rv_block L (k + 1) (by omega) (by omega), rv_block L k (by omega) h, ulp_block L k hk h, Nat.succ_mul]

theorem rv_lt_add (r d : Nat) : rv r < rv (r + (d + 1)) := by
  induction d with
  | zero => rw [Nat.zero_add, rv_succ]; have := ulp_pos r; omega
  | succ d ih => rw [← Nat.add_assoc r (d + 1) 1, rv_succ]; omega

theorem rv_lt {r s : Nat} (h : r < s) : rv r < rv s := by
  obtain ⟨d, rfl⟩ := Nat.exists_eq_add_of_lt h
  rw [Nat.add_assoc]; exact rv_lt_add r d

theorem rv_le {r s : Nat} (h : r ≤ s) : rv r ≤ rv s := by
  rcases Nat.eq_or_lt_of_le h with rfl | h
  · exact Nat.le_refl _
  · exact Nat.le_of_lt (rv_lt h)

theorem rv_le_iff {r s : Nat} : rv r ≤ rv s ↔ r ≤ s :=
  ⟨fun h => Nat.le_of_not_lt fun c => by have := rv_lt c; omega, rv_le⟩

theorem rv_zero : rv 0 = 0 := rfl

theorem rv_pos {r : Nat} (h : 0 < r) : 0 < rv r := by have := rv_lt h; rw [rv_zero] at this; exact this

theorem cutg (n g k : Nat) (hg : 0 < g) : k + 1 ≤ n / g + (decide (g < 2 * (n % g)) || (g == 2 * (n % g) && n / g % 2 == 1)).toNat ↔ (2 * k + 1) * g < 2 * n ∨ ((2 * k + 1) * g = 2 * n ∧ k % 2 = 1) := by
  have hn : g * (n / g) + n % g = n := Nat.div_add_mod n g
  have hr : n % g < g := Nat.mod_lt _ hg
  generalize n / g = low at *
  generalize n % g = rest at *
  have e1 : (2 * k + 1) * g = 2 * (g * k) + g := by rw [Nat.add_mul, Nat.mul_assoc, Nat.mul_comm k g]; omega
  rw [e1]
  have hb : ∀ b : Bool, b.toNat ≤ 1 := by decide
  rcases Nat.lt_trichotomy k low with c | c | c
  · have h1 : g * (k + 1) ≤ g * low := Nat.mul_le_mul_left g c
    rw [Nat.mul_succ] at h1
    constructor
    · intro _; left; omega
    · intro _; omega
  · subst c
    by_cases h2 : g < 2 * rest
    · simp only [h2, decide_true, Bool.true_or, Bool.toNat_true]
      constructor
      · intro _; left; omega
      · intro _; omega
    · by_cases h3 : g = 2 * rest
      · by_cases h4 : k % 2 = 1
        · have e : (decide (g < 2 * rest) || (g == 2 * rest && k % 2 == 1)) = true := by simp [h3, h4]
          rw [e]
          constructor
          · intro _; right; omega
          · intro _; simp
        · have e : (decide (g < 2 * rest) || (g == 2 * rest && k % 2 == 1)) = false := by simp [h3]; omega
          rw [e]
          constructor
          · intro h; simp only [Bool.toNat_false, Nat.add_zero] at h; omega
          · intro h; omega
      · have e : (decide (g < 2 * rest) || (g == 2 * rest && k % 2 == 1)) = false := by simp [h2, h3]
        rw [e]
        constructor
        · intro h; simp only [Bool.toNat_false, Nat.add_zero] at h; omega
        · intro h; omega
  · have h1 : g * (low + 1) ≤ g * k := Nat.mul_le_mul_left g c
    rw [Nat.mul_succ] at h1
    have := hb (decide (g < 2 * rest) || (g == 2 * rest && low % 2 == 1))
    constructor
    · intro h; omega
    · intro h; omega

theorem cut_step (s : Bool) (n d k : Nat) : k + 1 ≤ Ieee.Toward.even.cut s n d ↔ (2 * k + 1) * 2 ^ d < 2 * n ∨ ((2 * k + 1) * 2 ^ d = 2 * n ∧ k % 2 = 1) := by
  have hc := cutg n (1 <<< min d (n.log2 + 2)) k (by rw [Nat.one_shiftLeft]; exact Nat.two_pow_pos _)
  have e : Ieee.Toward.even.cut s n d = n / (1 <<< min d (n.log2 + 2)) + (decide ((1 <<< min d (n.log2 + 2)) < 2 * (n % (1 <<< min d (n.log2 + 2)))) || ((1 <<< min d (n.log2 + 2)) == 2 * (n % (1 <<< min d (n.log2 + 2))) && n / (1 <<< min d (n.log2 + 2)) % 2 == 1)).toNat := rfl
  rw [e, hc, Nat.one_shiftLeft]
  by_cases h : d ≤ n.log2 + 2
  · rw [Nat.min_eq_left h]
  · rw [Nat.min_eq_right (by omega)]
    have hl : n < 2 ^ (n.log2 + 1) := Nat.lt_log2_self
    have h2 : 2 ^ (n.log2 + 2) = 2 * 2 ^ (n.log2 + 1) := by rw [Nat.pow_succ 2 (n.log2 + 1)]; omega
    have h3 : 2 ^ (n.log2 + 2) ≤ 2 ^ d := Nat.pow_le_pow_right (by decide) (by omega)
    have h4 : 2 ^ d ≤ (2 * k + 1) * 2 ^ d := Nat.le_mul_of_pos_left _ (by omega)
    have h5 : 2 ^ (n.log2 + 2) ≤ (2 * k + 1) * 2 ^ (n.log2 + 2) := Nat.le_mul_of_pos_left _ (by omega)
    constructor
    · intro h; omega
    · intro h; omega

theorem cut_le {s : Bool} {n d K : Nat} (h : n ≤ K * 2 ^ d) : Ieee.Toward.even.cut s n d ≤ K := by
  refine Nat.le_of_not_lt fun c => ?_
  have h1 := (cut_step s n d K).1 c
  have h2 : (2 * K + 1) * 2 ^ d = 2 * (K * 2 ^ d) + 2 ^ d := by rw [Nat.add_mul, Nat.mul_assoc]; omega
  have h3 : 0 < 2 ^ d := Nat.two_pow_pos d
  omega

theorem le_cut {s : Bool} {n d K : Nat} (h : K * 2 ^ d ≤ n) : K ≤ Ieee.Toward.even.cut s n d := by
  cases K with
  | zero => exact Nat.zero_le _
  | succ k =>
    refine (cut_step s n d k).2 (.inl ?_)
    have h2 : (2 * k + 1) * 2 ^ d = 2 * (k * 2 ^ d) + 2 ^ d := by rw [Nat.add_mul, Nat.mul_assoc]; omega
    have h3 : 0 < 2 ^ d := Nat.two_pow_pos d
    rw [Nat.succ_mul] at h
    omega

/-- w is the nearest to num / den, in units of the least number; of a number too great, infinity. -/
def Rnd (num den w : Nat) : Prop :=
  w ≤ 2139095040 ∧ ∀ r, r < 2139095040 → (r + 1 ≤ w ↔ (2 * rv r + ulp r) * den < 2 * num ∨ ((2 * rv r + ulp r) * den = 2 * num ∧ r % 2 = 1))

theorem scale_iff (A B t k : Nat) (ht : 0 < t) : (A * t < B * t ∨ (A * t = B * t ∧ k % 2 = 1)) ↔ (A < B ∨ (A = B ∧ k % 2 = 1)) := by
  rw [Nat.mul_lt_mul_right ht, Nat.mul_left_inj (by omega)]

theorem nearest_rnd (m : Nat) (e : Int) (a b : Nat) (hab : (a : Int) - b = e + 149) : Rnd (m * 2 ^ a) (2 ^ b) (Ieee.single.nearest false m e) := by
  have hb : Ieee.single.binade = 8388608 := by decide
  have hi : Ieee.single.infRung = 2139095040 := by decide
  have hl : Ieee.single.leastPlace = -149 := by decide
  have hf : (Ieee.single.fractionBits : Int) = 23 := by decide
  have hw : ∀ k, Ieee.single.word false k = k := fun _ => rfl
  have hpb : 0 < 2 ^ b := Nat.two_pow_pos b
  unfold Ieee.Format.nearest
  by_cases h0 : m = 0
  · rw [if_pos h0, hw]
    subst h0
    refine ⟨Nat.zero_le _, fun r _ => ?_⟩
    have h1 := ulp_pos r
    have h2 : 0 < (2 * rv r + ulp r) * 2 ^ b := Nat.mul_pos (by omega) hpb
    constructor
    · intro h; omega
    · intro h; omega
  rw [if_neg h0]
  dsimp only
  rw [hb, hi, hl, hf, hw]
  have hm1 : m < 2 ^ (m.log2 + 1) := Nat.lt_log2_self
  have hm2 : 2 ^ m.log2 ≤ m := Nat.log2_self_le h0
  generalize m.log2 = lg at *
  generalize hlast : max (e + (lg : Int) - 23) (-149) = last
  obtain ⟨L, hL⟩ : ∃ L : Nat, last = (L : Int) - 149 := ⟨(last + 149).toNat, by omega⟩
  have hLL : (last - -149).toNat = L := by omega
  rw [hLL]
  generalize hu : (e - last).toNat = u
  generalize hd : (last - e).toNat = d
  have hsum : a + d = b + u + L := by omega
  rw [Nat.shiftLeft_eq]
  -- the kept number, between its bounds
  have hup : m * 2 ^ u < 2 ^ (24 + d) := by
    have h1 : m * 2 ^ u < 2 ^ (lg + 1) * 2 ^ u := Nat.mul_lt_mul_of_pos_right hm1 (Nat.two_pow_pos _)
    rw [← Nat.pow_add] at h1
    exact Nat.lt_of_lt_of_le h1 (Nat.pow_le_pow_right (by decide) (by omega))
  have hlo : L = 0 ∨ 2 ^ (23 + d) ≤ m * 2 ^ u := by
    by_cases c : L = 0
    · exact .inl c
    · right
      have h1 : 2 ^ lg * 2 ^ u ≤ m * 2 ^ u := Nat.mul_le_mul_right _ hm2
      rw [← Nat.pow_add] at h1
      exact Nat.le_trans (Nat.pow_le_pow_right (by decide) (by omega)) h1
  have hstep := cut_step false (m * 2 ^ u) d
  have hKup : Ieee.Toward.even.cut false (m * 2 ^ u) d ≤ 16777216 := cut_le (by rw [Nat.pow_add] at hup; exact Nat.le_of_lt hup)
  have hKlo : L = 0 ∨ 8388608 ≤ Ieee.Toward.even.cut false (m * 2 ^ u) d := hlo.imp id (fun h => le_cut (by rw [Nat.pow_add] at h; exact h))
  generalize Ieee.Toward.even.cut false (m * 2 ^ u) d = K at *
  -- the value, in the units of num and den
  have hval : m * 2 ^ a * 2 ^ d = m * 2 ^ u * 2 ^ (b + L) := by
    rw [Nat.mul_assoc, ← Nat.pow_add, hsum, Nat.mul_assoc, ← Nat.pow_add]
    congr 2; omega
  have hpd : 0 < 2 ^ d := Nat.two_pow_pos d
  have hVup : m * 2 ^ a < 16777216 * 2 ^ (b + L) := by
    have h1 : m * 2 ^ u * 2 ^ (b + L) < 2 ^ (24 + d) * 2 ^ (b + L) := Nat.mul_lt_mul_of_pos_right hup (Nat.two_pow_pos _)
    have e24 : 2 ^ (24 + d) * 2 ^ (b + L) = 16777216 * 2 ^ (b + L) * 2 ^ d := by
      rw [Nat.pow_add 2 24 d, Nat.mul_assoc, Nat.mul_comm (2 ^ d), ← Nat.mul_assoc]
    rw [← hval, e24] at h1
    exact Nat.lt_of_mul_lt_mul_right h1
  have hVlo : L = 0 ∨ 8388608 * 2 ^ (b + L) ≤ m * 2 ^ a := hlo.imp id fun h => by
    have h1 : 2 ^ (23 + d) * 2 ^ (b + L) ≤ m * 2 ^ u * 2 ^ (b + L) := Nat.mul_le_mul_right _ h
    have e23 : 2 ^ (23 + d) * 2 ^ (b + L) = 8388608 * 2 ^ (b + L) * 2 ^ d := by
      rw [Nat.pow_add 2 23 d, Nat.mul_assoc, Nat.mul_comm (2 ^ d), ← Nat.mul_assoc]
    rw [← hval, e23] at h1
    exact Nat.le_of_mul_le_mul_right h1 hpd
  refine ⟨Nat.min_le_right _ _, fun r hr => ?_⟩
  have hmin : r + 1 ≤ min (L * 8388608 + K) 2139095040 ↔ r + 1 ≤ L * 8388608 + K := by
    rw [Nat.le_min]; exact ⟨fun h => h.1, fun h => ⟨h, hr⟩⟩
  rw [hmin]
  by_cases c1 : L * 8388608 + 16777216 ≤ r
  · -- above
    have h1 : 16777216 * 2 ^ L ≤ rv r := by rw [← rv_block L 16777216 (Nat.le_refl _) (.inr (by decide))]; exact rv_le c1
    have h2 : 16777216 * 2 ^ L * 2 ^ b ≤ rv r * 2 ^ b := Nat.mul_le_mul_right _ h1
    rw [Nat.mul_assoc, ← Nat.pow_add, Nat.add_comm L b] at h2
    have h3 : (2 * rv r + ulp r) * 2 ^ b = 2 * (rv r * 2 ^ b) + ulp r * 2 ^ b := by rw [Nat.add_mul, Nat.mul_assoc]
    rw [h3]
    constructor
    · intro h; omega
    · intro h; omega
  by_cases c2 : L = 0 ∨ L * 8388608 + 8388608 ≤ r
  · -- within
    obtain ⟨k, rfl⟩ : ∃ k, r = L * 8388608 + k := ⟨r - L * 8388608, by omega⟩
    have hk : k < 16777216 := by omega
    have hk2 : L = 0 ∨ 8388608 ≤ k := by omega
    rw [rv_block L k (by omega) hk2, ulp_block L k hk hk2]
    have h1 : L * 8388608 + k + 1 ≤ L * 8388608 + K ↔ k + 1 ≤ K := by omega
    rw [h1, hstep k]
    have e1 : (2 * (k * 2 ^ L) + 2 ^ L) * 2 ^ b = (2 * k + 1) * 2 ^ (b + L) := by
      rw [← Nat.mul_assoc, ← Nat.succ_mul, Nat.mul_assoc, ← Nat.pow_add, Nat.add_comm L b]
    rw [e1, show (L * 8388608 + k) % 2 = k % 2 by omega]
    rw [← scale_iff ((2 * k + 1) * 2 ^ d) (2 * (m * 2 ^ u)) (2 ^ (b + L)) k (Nat.two_pow_pos _), ← scale_iff ((2 * k + 1) * 2 ^ (b + L)) (2 * (m * 2 ^ a)) (2 ^ d) k hpd]
    have e2 : 2 * (m * 2 ^ a) * 2 ^ d = 2 * (m * 2 ^ u) * 2 ^ (b + L) := by rw [Nat.mul_assoc 2, hval, ← Nat.mul_assoc]
    have e3 : (2 * k + 1) * 2 ^ d * 2 ^ (b + L) = (2 * k + 1) * 2 ^ (b + L) * 2 ^ d := by rw [Nat.mul_assoc, Nat.mul_comm (2 ^ d), ← Nat.mul_assoc]
    rw [e2, e3]
  · -- below
    have hL0 : L ≠ 0 := fun h => c2 (.inl h)
    have hr2 : r + 1 ≤ L * 8388608 + 8388608 := by omega
    have h1 : rv (r + 1) ≤ 8388608 * 2 ^ L := by rw [← rv_block L 8388608 (by decide) (.inr (Nat.le_refl _))]; exact rv_le hr2
    rw [rv_succ] at h1
    have hu0 := ulp_pos r
    have h2 : (2 * rv r + ulp r) < 2 * (8388608 * 2 ^ L) := by omega
    have h3 : (2 * rv r + ulp r) * 2 ^ b < 2 * (8388608 * 2 ^ L) * 2 ^ b := Nat.mul_lt_mul_of_pos_right h2 hpb
    have e1 : 2 * (8388608 * 2 ^ L) * 2 ^ b = 2 * (8388608 * 2 ^ (b + L)) := by rw [Nat.mul_assoc, Nat.mul_assoc, ← Nat.pow_add, Nat.add_comm L b]
    rw [e1] at h3
    have h4 := hVlo.resolve_left hL0
    have h5 := hKlo.resolve_left hL0
    constructor
    · intro _; left; omega
    · intro _; omega

/-! ### What follows of being the nearest -/

theorem rnd_mono {n1 d1 w1 n2 d2 w2 : Nat} (h1 : Rnd n1 d1 w1) (h2 : Rnd n2 d2 w2) (hd1 : 0 < d1) (hd2 : 0 < d2) (h : n1 * d2 ≤ n2 * d1) : w1 ≤ w2 := by
  refine Nat.le_of_not_lt fun c => ?_
  have hlt : w2 < 2139095040 := Nat.lt_of_lt_of_le c h1.1
  have a1 := (h1.2 w2 hlt).1 c
  have a2 : ¬ (w2 + 1 ≤ w2) := by omega
  rw [h2.2 w2 hlt] at a2
  generalize 2 * rv w2 + ulp w2 = M at *
  have e1 : M * d1 * d2 = M * d2 * d1 := by rw [Nat.mul_assoc, Nat.mul_comm d1, ← Nat.mul_assoc]
  rcases a1 with a1 | ⟨a1, a3⟩
  · have b1 : M * d1 * d2 < 2 * n1 * d2 := Nat.mul_lt_mul_of_pos_right a1 hd2
    have b2 : ¬ (M * d2 < 2 * n2) := fun h => a2 (.inl h)
    have b3 : 2 * n2 * d1 ≤ M * d2 * d1 := Nat.mul_le_mul_right _ (by omega)
    have f1 : 2 * n1 * d2 = 2 * (n1 * d2) := Nat.mul_assoc 2 n1 d2
    have f2 : 2 * n2 * d1 = 2 * (n2 * d1) := Nat.mul_assoc 2 n2 d1
    omega
  · have b1 : M * d1 * d2 = 2 * n1 * d2 := by rw [a1]
    have b2 : M * d2 * d1 ≤ 2 * n2 * d1 := by rw [← e1, b1, Nat.mul_assoc, Nat.mul_assoc]; omega
    have b3 : M * d2 ≤ 2 * n2 := Nat.le_of_mul_le_mul_right b2 hd1
    rcases Nat.eq_or_lt_of_le b3 with b4 | b4
    · exact a2 (.inr ⟨b4, a3⟩)
    · exact a2 (.inl b4)

/-! ### The operations -/

theorem read_pos {x : Nat} (h : x < 2139095040) : ∃ m i : Nat, Ieee.single.read x = .number false m (-149 + (i : Int)) ∧ m * 2 ^ i = rv x := by
  have hb : Ieee.single.binade = 8388608 := by decide
  have hi : Ieee.single.infRung = 2139095040 := by decide
  have hl : Ieee.single.leastPlace = -149 := by decide
  have hw : Ieee.single.signWeight = 2147483648 := by decide
  unfold Ieee.Format.read rv
  simp only [hb, hi, hl, hw]
  rw [Nat.mod_eq_of_lt (show x < 2147483648 by omega), Nat.div_eq_of_lt (show x < 2147483648 by omega)]
  by_cases c : x < 8388608
  · rw [if_pos c, if_pos c]; exact ⟨x, 0, rfl, by simp⟩
  · rw [if_neg c, if_pos h, if_neg c]; exact ⟨_, _, rfl, rfl⟩

theorem signed_false (m u : Nat) : Ieee.signed false m u = ((m * 2 ^ u : Nat) : Int) := by
  unfold Ieee.signed
  rw [if_neg (by decide), Nat.shiftLeft_eq]

theorem add_rnd {x y : Nat} (hx : x < 2139095040) (hy : y < 2139095040) : floatBits .add .f32 x y = some (fadd x y) ∧ Rnd (rv x + rv y) 1 (fadd x y) := by
  obtain ⟨m, i, hr, hm⟩ := read_pos hx
  obtain ⟨n, j, hq, hn⟩ := read_pos hy
  have h : Ieee.single.add x y = some (Ieee.single.nearest false (m * 2 ^ (i - min i j) + n * 2 ^ (j - min i j)) (-149 + ((min i j : Nat) : Int))) := by
    unfold Ieee.Format.add
    rw [hr, hq]
    have e0 : min (-149 + (i : Int)) (-149 + (j : Int)) = -149 + ((min i j : Nat) : Int) := by omega
    simp only [Ieee.Datum.sum, Option.map_some, Ieee.Format.write, e0, signed_false]
    have e1 : (-149 + (i : Int) - (-149 + ((min i j : Nat) : Int))).toNat = i - min i j := by omega
    have e2 : (-149 + (j : Int) - (-149 + ((min i j : Nat) : Int))).toNat = j - min i j := by omega
    rw [e1, e2, ← Int.natCast_add, Int.natAbs_natCast]
    have e3 : (if ((m * 2 ^ (i - min i j) + n * 2 ^ (j - min i j) : Nat) : Int) = 0 then (false && false) else decide (((m * 2 ^ (i - min i j) + n * 2 ^ (j - min i j) : Nat) : Int) < 0)) = false := by
      split
      · rfl
      · exact decide_eq_false (by omega)
    rw [e3]
  have e1 : fadd x y = Ieee.single.nearest false (m * 2 ^ (i - min i j) + n * 2 ^ (j - min i j)) (-149 + ((min i j : Nat) : Int)) := by unfold fadd; rw [h]; rfl
  rw [e1]
  refine ⟨h, ?_⟩
  have e2 : rv x + rv y = (m * 2 ^ (i - min i j) + n * 2 ^ (j - min i j)) * 2 ^ (min i j) := by
    rw [← hm, ← hn, Nat.add_mul, Nat.mul_assoc, Nat.mul_assoc, ← Nat.pow_add, ← Nat.pow_add, Nat.sub_add_cancel (Nat.min_le_left _ _), Nat.sub_add_cancel (Nat.min_le_right _ _)]
  rw [e2]
  exact nearest_rnd _ _ _ 0 (by omega)

/-- A quotient with its rest told by one more digit rounds as the quotient itself. -/
theorem quot_iff (M A B D n r : Nat) (hn : 0 < n) (hA : ∃ p, A = 2 ^ p) (hB : ∃ p, B = 2 ^ p) (hM : ∃ k L, M = (2 * k + 1) * 2 ^ L ∧ k < 16777216) (hbig : 16777216 * n ≤ D) :
    (M * (B * 2) < 2 * ((2 * (D / n) + (D % n != 0).toNat) * A) ∨ (M * (B * 2) = 2 * ((2 * (D / n) + (D % n != 0).toNat) * A) ∧ r % 2 = 1)) ↔
    (M * B * n < 2 * (D * A) ∨ (M * B * n = 2 * (D * A) ∧ r % 2 = 1)) := by
  obtain ⟨p, rfl⟩ := hA
  obtain ⟨q, rfl⟩ := hB
  obtain ⟨k, L, rfl, hk⟩ := hM
  have hq : n * (D / n) + D % n = D := Nat.div_add_mod D n
  have hr : D % n < n := Nat.mod_lt _ hn
  have hqb : 16777216 ≤ D / n := (Nat.le_div_iff_mul_le hn).2 hbig
  have hs : (D % n != 0).toNat = if D % n = 0 then 0 else 1 := by
    by_cases c : D % n = 0
    · simp [c]
    · simp [c]
  rw [hs]
  generalize D / n = Q at *
  generalize D % n = R at *
  have e0 : (2 * k + 1) * 2 ^ L * (2 ^ q * 2) = 2 * ((2 * k + 1) * 2 ^ (L + q)) := by
    rw [Nat.pow_add, Nat.mul_assoc, ← Nat.mul_assoc (2 ^ L), Nat.mul_comm _ 2, ← Nat.mul_assoc (2 * k + 1), Nat.mul_comm (2 * k + 1) 2, Nat.mul_assoc]
  have e1 : (2 * k + 1) * 2 ^ L * 2 ^ q * n = (2 * k + 1) * 2 ^ (L + q) * n := by rw [Nat.pow_add, Nat.mul_assoc (2 * k + 1)]
  rw [e0, e1]
  by_cases c : p + 1 ≤ L + q
  · -- the midpoint is a multiple of two units
    obtain ⟨t, ht⟩ : ∃ t, (2 * k + 1) * 2 ^ (L + q) = 2 * t * 2 ^ p := by
      refine ⟨(2 * k + 1) * 2 ^ (L + q - (p + 1)), ?_⟩
      have : 2 ^ (L + q) = 2 ^ (L + q - (p + 1)) * (2 ^ p * 2) := by rw [← Nat.pow_succ, ← Nat.pow_add]; congr 1; omega
      rw [this]
      generalize 2 ^ (L + q - (p + 1)) = X
      generalize 2 * k + 1 = Y
      ac_rfl
    rw [ht]
    have hp : 0 < 2 ^ p := Nat.two_pow_pos p
    have e2 : 2 * (2 * t * 2 ^ p) = (2 * (2 * t)) * 2 ^ p := (Nat.mul_assoc 2 (2 * t) (2 ^ p)).symm
    have e3 : 2 * ((2 * Q + if R = 0 then 0 else 1) * 2 ^ p) = (2 * (2 * Q + if R = 0 then 0 else 1)) * 2 ^ p := (Nat.mul_assoc 2 _ (2 ^ p)).symm
    have e4 : 2 * t * 2 ^ p * n = (2 * (t * n)) * 2 ^ p := by rw [Nat.mul_assoc (2 * t), Nat.mul_comm (2 ^ p), ← Nat.mul_assoc, Nat.mul_assoc 2]
    have e5 : 2 * (D * 2 ^ p) = (2 * D) * 2 ^ p := (Nat.mul_assoc 2 D (2 ^ p)).symm
    rw [e2, e3, e4, e5, scale_iff _ _ _ _ hp, scale_iff _ _ _ _ hp]
    have key : (t < Q → t * n + n ≤ n * Q) ∧ (t = Q → t * n = n * Q) ∧ (Q < t → n * Q + n ≤ t * n) := by
      refine ⟨fun h => ?_, fun h => ?_, fun h => ?_⟩
      · rw [← Nat.succ_mul, Nat.mul_comm]; exact Nat.mul_le_mul_left n h
      · rw [h, Nat.mul_comm]
      · rw [← Nat.mul_succ, Nat.mul_comm t]; exact Nat.mul_le_mul_left n h
    obtain ⟨k1, k2, k3⟩ := key
    split
    · rcases Nat.lt_trichotomy t Q with h | h | h
      · have := k1 h; constructor <;> intro _ <;> omega
      · have := k2 h; constructor <;> intro _ <;> omega
      · have := k3 h; constructor <;> intro _ <;> omega
    · rcases Nat.lt_trichotomy t Q with h | h | h
      · have := k1 h; constructor <;> intro _ <;> omega
      · have := k2 h; constructor <;> intro _ <;> omega
      · have := k3 h; constructor <;> intro _ <;> omega
  · -- the midpoint is far below
    have h1 : 2 ^ (L + q) ≤ 2 ^ p := Nat.pow_le_pow_right (by decide) (by omega)
    have h2 : (2 * k + 1) * 2 ^ (L + q) ≤ (2 * k + 1) * 2 ^ p := Nat.mul_le_mul_left _ h1
    have h3 : (2 * k + 1) * 2 ^ p < 33554432 * 2 ^ p := Nat.mul_lt_mul_of_pos_right (by omega) (Nat.two_pow_pos _)
    have h4 : 33554432 * 2 ^ p ≤ (2 * Q + if R = 0 then 0 else 1) * 2 ^ p := Nat.mul_le_mul_right _ (by omega)
    have h5 : (2 * k + 1) * 2 ^ (L + q) * n < 33554432 * 2 ^ p * n := Nat.mul_lt_mul_of_pos_right (by omega) hn
    have h6 : 33554432 * 2 ^ p * n ≤ 2 * (D * 2 ^ p) := by
      have : 16777216 * n * 2 ^ p ≤ D * 2 ^ p := Nat.mul_le_mul_right _ hbig
      have e : 33554432 * 2 ^ p * n = 2 * (16777216 * n * 2 ^ p) := by
        rw [Nat.mul_assoc 33554432, Nat.mul_comm (2 ^ p) n, Nat.mul_assoc 16777216]; omega
      omega
    constructor
    · intro _; left; omega
    · intro _; left; omega

theorem mid_form (r : Nat) : ∃ k L, 2 * rv r + ulp r = (2 * k + 1) * 2 ^ L ∧ k < 16777216 := by
  obtain ⟨L, k, rfl, hk, h⟩ := rv_split r
  refine ⟨k, L, ?_, hk⟩
  rw [rv_block L k (by omega) h, ulp_block L k hk h, ← Nat.mul_assoc, ← Nat.succ_mul]

theorem div_rnd {x y : Nat} (hx : x < 2139095040) (hy : y < 2139095040) (hy0 : 0 < y) : floatBits .quo .f32 x y = some (fdiv x y) ∧ Rnd (rv x * 2 ^ 149) (rv y) (fdiv x y) := by
  obtain ⟨m, i, hr, hm⟩ := read_pos hx
  obtain ⟨n, j, hq, hn⟩ := read_pos hy
  have hn0 : n ≠ 0 := by
    intro h; rw [h, Nat.zero_mul] at hn; have := rv_pos hy0; omega
  have h : Ieee.single.div x y = some (Ieee.single.nearest false (2 * (m <<< (25 + n.log2 - m.log2) / n) + (m <<< (25 + n.log2 - m.log2) % n != 0).toNat) ((-149 + (i : Int)) - (-149 + (j : Int)) - ((25 + n.log2 - m.log2 : Nat) : Int) - 1)) := by
    unfold Ieee.Format.div
    rw [hr, hq]
    have hf : Ieee.single.fractionBits + 2 = 25 := by decide
    simp only [hf, Ieee.Datum.quotient, if_neg hn0, Option.map_some, Ieee.Format.write]
    rfl
  have e1 : fdiv x y = Ieee.single.nearest false (2 * (m <<< (25 + n.log2 - m.log2) / n) + (m <<< (25 + n.log2 - m.log2) % n != 0).toNat) ((-149 + (i : Int)) - (-149 + (j : Int)) - ((25 + n.log2 - m.log2 : Nat) : Int) - 1) := by unfold fdiv; rw [h]; rfl
  rw [e1]
  refine ⟨h, ?_⟩
  rw [← hm, ← hn]
  clear h e1 hr hq hm hn
  by_cases hm0 : m = 0
  · subst hm0
    have e : ∀ t : Nat, (2 * (0 <<< t / n) + (0 <<< t % n != 0).toNat) = 0 := by intro t; simp
    rw [e]
    have hz : ∀ e : Int, Ieee.single.nearest false 0 e = 0 := fun _ => rfl
    rw [hz]
    refine ⟨Nat.zero_le _, fun r _ => ?_⟩
    have h1 := ulp_pos r
    have h2 : 0 < (2 * rv r + ulp r) * (n * 2 ^ j) := Nat.mul_pos (by omega) (Nat.mul_pos (by omega) (Nat.two_pow_pos _))
    constructor
    · intro h; omega
    · intro h; omega
  have hmore : m.log2 ≤ 25 + n.log2 ∨ 25 + n.log2 < m.log2 := by omega
  generalize hmo : 25 + n.log2 - m.log2 = more
  rw [Nat.shiftLeft_eq]
  have hbig : 16777216 * n ≤ m * 2 ^ more := by
    have h1 : 2 ^ m.log2 ≤ m := Nat.log2_self_le hm0
    have h2 : n < 2 ^ (n.log2 + 1) := Nat.lt_log2_self
    have h3 : 2 ^ m.log2 * 2 ^ more ≤ m * 2 ^ more := Nat.mul_le_mul_right _ h1
    rw [← Nat.pow_add] at h3
    have h4 : 2 ^ (24 + (n.log2 + 1)) ≤ 2 ^ (m.log2 + more) := Nat.pow_le_pow_right (by decide) (by omega)
    rw [Nat.pow_add] at h4
    have h5 : 2 ^ 24 * n ≤ 2 ^ 24 * 2 ^ (n.log2 + 1) := Nat.mul_le_mul_left _ (by omega)
    omega
  have hR := nearest_rnd (2 * (m * 2 ^ more / n) + (m * 2 ^ more % n != 0).toNat) ((-149 + (i : Int)) - (-149 + (j : Int)) - (more : Int) - 1) (i + 149) (j + more + 1) (by omega)
  generalize hD : m * 2 ^ more = D at *
  refine ⟨hR.1, fun r hr => ?_⟩
  rw [hR.2 r hr]
  obtain ⟨k, L, hM, hk⟩ := mid_form r
  have hq := quot_iff (2 * rv r + ulp r) (2 ^ (i + 149)) (2 ^ (j + more)) D n r (by omega) ⟨_, rfl⟩ ⟨_, rfl⟩ ⟨k, L, hM, hk⟩ hbig
  rw [Nat.pow_succ, hq]
  generalize 2 * rv r + ulp r = M
  have e1 : M * 2 ^ (j + more) * n = M * (n * 2 ^ j) * 2 ^ more := by
    rw [Nat.pow_add, Nat.mul_assoc, Nat.mul_assoc, Nat.mul_assoc]
    congr 1
    rw [Nat.mul_comm (2 ^ more) n, ← Nat.mul_assoc, Nat.mul_comm (2 ^ j) n, Nat.mul_assoc]
  have e2 : 2 * (D * 2 ^ (i + 149)) = 2 * (m * 2 ^ i * 2 ^ 149) * 2 ^ more := by
    rw [← hD, Nat.pow_add, Nat.mul_assoc 2]
    congr 1
    rw [Nat.mul_assoc m, Nat.mul_comm (2 ^ more), ← Nat.mul_assoc, ← Nat.mul_assoc]
  rw [e1, e2, scale_iff _ _ _ _ (Nat.two_pow_pos _)]

/-! ### The order -/

end Go.Proofs.Ytmbgmpeiicjlaaa
