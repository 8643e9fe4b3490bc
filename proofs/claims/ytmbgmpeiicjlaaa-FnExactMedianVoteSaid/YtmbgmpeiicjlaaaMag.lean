/-
  Sums, differences, products and quotients of finite numbers of either sign, with a bound on their size. Nothing of the program is named.

-/
import Derived.Test.YtmbgmpeiicjlaaaNear

namespace Go.Proofs.Ytmbgmpeiicjlaaa

open Go

/-- The number without its sign. -/
def mag (x : Nat) : Nat := if x < 2147483648 then x else x - 2147483648

theorem mag_num {x : Nat} (h : isNum x) : (sv x).natAbs = rv (mag x) ∧ mag x < 2139095040 := by
  unfold mag
  rcases h with h | ⟨h1, h2⟩
  · rw [if_pos (by omega), sv_pos (by omega), Int.natAbs_natCast]; exact ⟨rfl, h⟩
  · obtain ⟨r, rfl⟩ : ∃ r, x = 2147483648 + r := ⟨x - 2147483648, by omega⟩
    rw [if_neg (by omega), sv_neg, Int.natAbs_neg, Int.natAbs_natCast, Nat.add_sub_cancel_left]
    exact ⟨rfl, by omega⟩

theorem mag_pos {x : Nat} (h : x < 2147483648) : mag x = x := if_pos h

theorem mag_sign (s : Bool) {r C : Nat} (hC : C < 2139095040) (h : r ≤ C) : isNum (if s then 2147483648 + r else r) ∧ mag (if s then 2147483648 + r else r) = r := by
  unfold mag
  cases s
  · rw [if_neg (by simp), if_pos (by omega)]; exact ⟨.inl (by omega), rfl⟩
  · rw [if_pos rfl, if_neg (by omega), Nat.add_sub_cancel_left]; exact ⟨.inr ⟨by omega, by omega⟩, rfl⟩

/-- What a sum of signed numbers rounds to. -/
theorem sum_core {A B : Nat} (hA : A < 2139095040) (hB : B < 2139095040) (hC : fadd A B < 2139095040) (T : Int) (p : Nat) (sg : Bool) (h : T.natAbs * 2 ^ p ≤ rv A + rv B) :
    isNum (Ieee.single.nearest sg T.natAbs (-149 + (p : Int))) ∧ mag (Ieee.single.nearest sg T.natAbs (-149 + (p : Int))) ≤ fadd A B := by
  have hR := nearest_rnd T.natAbs (-149 + (p : Int)) p 0 (by omega)
  have hC2 := (add_rnd hA hB).2
  have hle := rnd_mono hR hC2 (by decide) (by decide) (by simpa using h)
  rw [nearest_sign]
  obtain ⟨a, b⟩ := mag_sign sg hC hle
  exact ⟨a, by rw [b]; exact hle⟩

theorem add_mag {x y A B : Nat} (hx : isNum x) (hy : isNum y) (hxA : mag x ≤ A) (hyB : mag y ≤ B) (hA : A < 2139095040) (hB : B < 2139095040) (hC : fadd A B < 2139095040) :
    floatBits .add .f32 x y = some (fadd x y) ∧ isNum (fadd x y) ∧ mag (fadd x y) ≤ fadd A B := by
  have hX := (mag_num hx).1
  have hY := (mag_num hy).1
  have hXA := rv_le hxA
  have hYB := rv_le hyB
  obtain ⟨s, m, i, hr, hm⟩ := read_num32 hx
  obtain ⟨t, n, j, hq, hn⟩ := read_num32 hy
  rw [← signed_scale s m i (min i j) (Nat.min_le_left _ _)] at hm
  rw [← signed_scale t n j (min i j) (Nat.min_le_right _ _)] at hn
  have h : Ieee.single.add x y = some (Ieee.single.nearest (if Ieee.signed s m (i - min i j) + Ieee.signed t n (j - min i j) = 0 then (s && t) else decide (Ieee.signed s m (i - min i j) + Ieee.signed t n (j - min i j) < 0)) (Ieee.signed s m (i - min i j) + Ieee.signed t n (j - min i j)).natAbs (-149 + ((min i j : Nat) : Int))) := by
    unfold Ieee.Format.add
    rw [hr, hq]
    have e0 : min (-149 + (i : Int)) (-149 + (j : Int)) = -149 + ((min i j : Nat) : Int) := by omega
    have e1 : (-149 + (i : Int) - (-149 + ((min i j : Nat) : Int))).toNat = i - min i j := by omega
    have e2 : (-149 + (j : Int) - (-149 + ((min i j : Nat) : Int))).toNat = j - min i j := by omega
    simp only [Ieee.Datum.sum, Option.map_some, Ieee.Format.write, e0, e1, e2]
  have e1 : fadd x y = (Ieee.single.add x y).getD 0 := rfl
  refine ⟨by rw [e1, h]; exact h, ?_⟩
  rw [h, Option.getD_some] at e1
  generalize hT : Ieee.signed s m (i - min i j) + Ieee.signed t n (j - min i j) = T at *
  have hsv : T * ((2 ^ min i j : Nat) : Int) = sv x + sv y := by rw [← hT, Int.add_mul, hm, hn]
  have habs : T.natAbs * 2 ^ min i j ≤ rv A + rv B := by
    have h1 : (T * ((2 ^ min i j : Nat) : Int)).natAbs = T.natAbs * 2 ^ min i j := by rw [Int.natAbs_mul, Int.natAbs_natCast]
    rw [← h1, hsv]
    omega
  rw [e1]
  exact sum_core hA hB hC T _ _ habs

/-- A number divided by one that is greater than 0. -/
theorem div_mag {x y A B : Nat} (hx : isNum x) (hxA : mag x ≤ A) (hA : A < 2139095040) (hy : y < 2139095040) (hB : 0 < B) (hBy : B ≤ y) (hC : fdiv A B < 2139095040) :
    floatBits .quo .f32 x y = some (fdiv x y) ∧ isNum (fdiv x y) ∧ mag (fdiv x y) ≤ fdiv A B := by
  have hmx := (mag_num hx).2
  obtain ⟨h0, hR⟩ := div_rnd (x := mag x) hmx hy (by omega)
  have hle : fdiv (mag x) y ≤ fdiv A B := div_mono hA hy hB hxA hBy
  have key : ∃ sg : Bool, floatBits .quo .f32 x y = some (if sg then 2147483648 + fdiv (mag x) y else fdiv (mag x) y) := by
    rcases hx with hx | ⟨h1, h2⟩
    · refine ⟨false, ?_⟩
      rw [if_neg (by simp), mag_pos (by omega)]
      rw [mag_pos (by omega)] at h0
      exact h0
    · obtain ⟨r, rfl⟩ : ∃ r, x = 2147483648 + r := ⟨x - 2147483648, by omega⟩
      have em : mag (2147483648 + r) = r := by unfold mag; rw [if_neg (by omega), Nat.add_sub_cancel_left]
      rw [em] at h0 ⊢
      refine ⟨true, ?_⟩
      rw [if_pos rfl]
      obtain ⟨m, i, hr, hm⟩ := read_neg (r := r) (by omega)
      obtain ⟨m', i', hr', hm'⟩ := read_pos (x := r) (by omega)
      obtain ⟨n, j, hq, hn⟩ := read_pos hy
      have hn0 : n ≠ 0 := by
        intro h; rw [h, Nat.zero_mul] at hn; have := rv_pos (r := y) (by omega); omega
      have hneg : Ieee.single.read (2147483648 + r) = .number true m' (-149 + (i' : Int)) := by
        have hb : Ieee.single.binade = 8388608 := by decide
        have hi : Ieee.single.infRung = 2139095040 := by decide
        have hl : Ieee.single.leastPlace = -149 := by decide
        have hw : Ieee.single.signWeight = 2147483648 := by decide
        unfold Ieee.Format.read at hr' ⊢
        simp only [hb, hi, hl, hw] at hr' ⊢
        rw [Nat.mod_eq_of_lt (show r < 2147483648 by omega), Nat.div_eq_of_lt (show r < 2147483648 by omega)] at hr'
        rw [show (2147483648 + r) % 2147483648 = r by omega, show (2147483648 + r) / 2147483648 = 1 by omega]
        by_cases c : r < 8388608
        · rw [if_pos c] at hr' ⊢
          simpa using hr'
        · rw [if_neg c, if_pos (by omega)] at hr' ⊢
          simpa using hr'
      show Ieee.single.div (2147483648 + r) y = _
      have h0' : Ieee.single.div r y = some (fdiv r y) := h0
      unfold Ieee.Format.div at h0' ⊢
      rw [hr', hq] at h0'
      rw [hneg, hq]
      simp only [Ieee.Datum.quotient, if_neg hn0, Option.map_some, Ieee.Format.write, Option.some.injEq] at h0' ⊢
      have hs1 : (true ^^ false) = true := rfl
      have hs2 : (false ^^ false) = false := rfl
      simp only [hs1, hs2] at h0' ⊢
      rw [nearest_sign, if_pos rfl, h0']
  obtain ⟨sg, key⟩ := key
  have e1 : fdiv x y = (floatBits .quo .f32 x y).getD 0 := rfl
  refine ⟨by rw [e1, key]; rfl, ?_⟩
  rw [key, Option.getD_some] at e1
  rw [e1]
  obtain ⟨a, b⟩ := mag_sign sg hC hle
  exact ⟨a, by rw [b]; exact hle⟩

end Go.Proofs.Ytmbgmpeiicjlaaa
