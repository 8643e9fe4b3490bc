/-
  From single to double precision: what a number of single precision becomes.

-/
import Derived.Test.YtmbgmpeiicjlaaaPlain

namespace Go.Proofs.Ytmbgmpeiicjlaaa

open Go

theorem read_num {x : Nat} {s : Bool} {m : Nat} {e : Int} (h : Ieee.single.read x = .number s m e) : m < 16777216 ∧ -149 ≤ e ∧ e ≤ 104 := by
  have hb : Ieee.single.binade = 8388608 := by decide
  have hi : Ieee.single.infRung = 2139095040 := by decide
  have hl : Ieee.single.leastPlace = -149 := by decide
  unfold Ieee.Format.read at h
  simp only [hb, hi, hl] at h
  split at h
  · injection h with h1 h2 h3; omega
  · split at h
    · injection h with h1 h2 h3; omega
    · split at h <;> cases h

theorem cut_lt (s : Bool) (n d k : Nat) (h : n < k) : Ieee.Toward.even.cut s n d ≤ k := by
  unfold Ieee.Toward.cut
  have h1 : n / (1 <<< min d (n.log2 + 2)) ≤ n := Nat.div_le_self _ _
  have h2 : ∀ b : Bool, b.toNat ≤ 1 := by decide
  have h3 := h2 (match Ieee.Toward.even with
    | .even => decide (1 <<< min d (n.log2 + 2) < 2 * (n % (1 <<< min d (n.log2 + 2)))) || (1 <<< min d (n.log2 + 2) == 2 * (n % (1 <<< min d (n.log2 + 2))) && n / (1 <<< min d (n.log2 + 2)) % 2 == 1)
    | .down => s && n % (1 <<< min d (n.log2 + 2)) != 0
    | .up => !s && n % (1 <<< min d (n.log2 + 2)) != 0
    | .zero => false)
  dsimp only at h3 ⊢
  omega

theorem shl_lt (m u : Nat) (h0 : m ≠ 0) (hu : u + m.log2 ≤ 52) : m <<< u < 2 ^ 53 := by
  have hm2 : m < 2 ^ (m.log2 + 1) := (Nat.log2_lt h0).1 (Nat.lt_succ_self _)
  rw [Nat.shiftLeft_eq]
  have h3 : m * 2 ^ u < 2 ^ (m.log2 + 1) * 2 ^ u := Nat.mul_lt_mul_of_pos_right hm2 (Nat.two_pow_pos _)
  rw [← Nat.pow_add] at h3
  exact Nat.lt_of_lt_of_le h3 (Nat.pow_le_pow_right (Nat.le_succ 1) (by omega))

theorem two53 : 2 ^ 53 = 9007199254740992 := rfl

theorem double_nearest (s : Bool) (m : Nat) (e : Int) (hm : m < 16777216) (he : e ≤ 104) :
    ∃ k, k < Ieee.double.infRung ∧ Ieee.double.nearest s m e = Ieee.double.word s k := by
  have hb : Ieee.double.binade = 4503599627370496 := by decide
  have hi : Ieee.double.infRung = 9218868437227405312 := by decide
  have hl : Ieee.double.leastPlace = -1074 := by decide
  have hf : (Ieee.double.fractionBits : Int) = 52 := by decide
  unfold Ieee.Format.nearest
  by_cases h0 : m = 0
  · rw [if_pos h0]
    exact ⟨0, by rw [hi]; omega, rfl⟩
  rw [if_neg h0]
  dsimp only
  rw [hb, hi, hl, hf]
  have hlog : m.log2 < 24 := (Nat.log2_lt h0).2 hm
  generalize hL : max (e + (m.log2 : Int) - 52) (-1074) = last
  have hlast : last ≤ 75 := by omega
  have hlast2 : -1074 ≤ last := by omega
  have hlast3 : e + (m.log2 : Int) - 52 ≤ last := by omega
  have hn : m <<< (e - last).toNat < 9007199254740992 := by
    rw [← two53]; exact shl_lt m _ h0 (by omega)
  have hc := cut_lt s (m <<< (e - last).toNat) (last - e).toNat _ hn
  generalize Ieee.Toward.even.cut s (m <<< (e - last).toNat) (last - e).toNat = c at hc ⊢
  clear hn hlog hL hlast3 hb hi hl hf
  have hfin : (last - -1074).toNat * 4503599627370496 + c < 9218868437227405312 := by omega
  have hmin : min ((last - -1074).toNat * 4503599627370496 + c) 9218868437227405312 = (last - -1074).toNat * 4503599627370496 + c := Nat.min_eq_left (Nat.le_of_lt hfin)
  rw [hmin]
  exact ⟨_, hfin, rfl⟩

theorem double_read_word (s : Bool) (k : Nat) (h : k < Ieee.double.infRung) : ∃ m e, Ieee.double.read (Ieee.double.word s k) = .number s m e := by
  have hi : Ieee.double.infRung = 9218868437227405312 := by decide
  have hw : Ieee.double.signWeight = 9223372036854775808 := by decide
  rw [hi] at h
  unfold Ieee.Format.read Ieee.Format.word
  simp only [hi, hw]
  have hk : k % 9223372036854775808 = k := Nat.mod_eq_of_lt (by omega)
  have hk2 : k / 9223372036854775808 = 0 := Nat.div_eq_of_lt (by omega)
  have hs1 : (9223372036854775808 + k) % 9223372036854775808 = k := by omega
  have hs2 : (9223372036854775808 + k) / 9223372036854775808 = 1 := by omega
  cases s
  · simp only [Bool.false_eq_true, if_false, hk, hk2]
    split
    · exact ⟨_, _, rfl⟩
    · exact ⟨_, _, rfl⟩
  · simp only [if_true, hs1, hs2]
    split
    · exact ⟨_, _, rfl⟩
    · exact ⟨_, _, rfl⟩

theorem order_refl (d : Ieee.Datum) (h : d.isNaN = false) : d.order d = some .eq := by
  cases d with
  | number s m e => simp [Ieee.Datum.order]
  | infinity s => simp [Ieee.Datum.order]
  | nan s f => simp [Ieee.Datum.isNaN] at h

/-- A number of single precision that is no NaN. -/
def fin32 (x : Nat) : Bool := !(Ieee.single.read x).isNaN

def wide (x : Nat) : Nat := (floatToFloatBits .f32 x .f64).getD 0

/-- What is no NaN is widened without a draw, and is no NaN then. -/
theorem wide_ok (x : Nat) (h : fin32 x = true) : floatToFloatBits .f32 x .f64 = some (wide x) ∧ wide x < 18446744073709551616 ∧ FloatKind.f64.format.order (wide x) (wide x) = some .eq := by
  suffices h1 : ∃ r, floatToFloatBits .f32 x .f64 = some r ∧ r < 18446744073709551616 ∧ FloatKind.f64.format.order r r = some .eq by
    obtain ⟨r, h1, h2, h3⟩ := h1
    have e : wide x = r := by unfold wide; rw [h1]; rfl
    rw [e]; exact ⟨h1, h2, h3⟩
  unfold floatToFloatBits
  rw [if_neg (by decide)]
  cases hr : FloatKind.f32.decode x with
  | nan s f =>
    have : Ieee.single.read x = .nan s f := hr
    simp [fin32, this, Ieee.Datum.isNaN] at h
  | infinity s =>
    refine ⟨_, rfl, ?_, ?_⟩
    · cases s <;> decide
    · cases s <;> decide
  | number s m e =>
    obtain ⟨hm, _, he⟩ := read_num (x := x) hr
    obtain ⟨k, hk, hn⟩ := double_nearest s m e hm he
    obtain ⟨m', e', hw⟩ := double_read_word s k hk
    have henc : FloatKind.f64.encode (.number s m e) = Ieee.double.word s k := hn
    have hdec : FloatKind.f64.decode (Ieee.double.word s k) = .number s m' e' := hw
    simp only [henc, hdec, Ieee.Datum.isInfinity]
    refine ⟨_, rfl, ?_, ?_⟩
    · have hi : Ieee.double.infRung = 9218868437227405312 := by decide
      have hsw : Ieee.double.signWeight = 9223372036854775808 := by decide
      unfold Ieee.Format.word
      rw [hsw]
      split <;> omega
    · show (Ieee.double.read (Ieee.double.word s k)).order (Ieee.double.read (Ieee.double.word s k)) = some .eq
      rw [hw]; exact order_refl _ rfl

/-- Which doubles are equal to 0. -/
theorem zero_of_order (r : Nat) (h : r < 18446744073709551616) (h0 : FloatKind.f64.format.order r 0 = some .eq) : r = 0 ∨ r = 9223372036854775808 := by
  have hb : Ieee.double.binade = 4503599627370496 := by decide
  have hi : Ieee.double.infRung = 9218868437227405312 := by decide
  have hl : Ieee.double.leastPlace = -1074 := by decide
  have hw : Ieee.double.signWeight = 9223372036854775808 := by decide
  have hz : Ieee.double.read 0 = .number false 0 (-1074) := by decide
  change (Ieee.double.read r).order (Ieee.double.read 0) = some .eq at h0
  rw [hz] at h0
  have hsg : ∀ (s : Bool) (m u : Nat), Ieee.signed s m u = 0 → m = 0 := by
    intro s m u hh
    unfold Ieee.signed at hh
    rw [Nat.shiftLeft_eq] at hh
    have hp : 0 < 2 ^ u := Nat.two_pow_pos u
    have : m * 2 ^ u = 0 := by split at hh <;> omega
    rcases Nat.mul_eq_zero.1 this with h | h
    · exact h
    · omega
  have hnum : ∀ s m e, Ieee.double.read r = .number s m e → m = 0 := by
    intro s m e hr
    rw [hr] at h0
    simp only [Ieee.Datum.order, Option.some.injEq] at h0
    have h1 := Int.compare_eq_eq.1 h0 
    have h2 : Ieee.signed false 0 ((-1074 : Int) - min e (-1074)).toNat = 0 := by simp [Ieee.signed]
    rw [h2] at h1
    exact hsg _ _ _ h1
  unfold Ieee.Format.read at hnum h0
  simp only [hb, hi, hl, hw] at hnum h0
  by_cases c1 : r % 9223372036854775808 < 4503599627370496
  · rw [if_pos c1] at hnum
    have := hnum _ _ _ rfl
    omega
  · rw [if_neg c1] at hnum h0
    by_cases c2 : r % 9223372036854775808 < 9218868437227405312
    · rw [if_pos c2] at hnum
      have := hnum _ _ _ rfl
      omega
    · rw [if_neg c2] at h0
      by_cases c3 : r % 9223372036854775808 = 9218868437227405312
      · rw [if_pos c3] at h0
        simp only [Ieee.Datum.order, Option.some.injEq] at h0
        split at h0 <;> cases h0
      · rw [if_neg c3] at h0
        simp [Ieee.Datum.order] at h0

end Go.Proofs.Ytmbgmpeiicjlaaa
