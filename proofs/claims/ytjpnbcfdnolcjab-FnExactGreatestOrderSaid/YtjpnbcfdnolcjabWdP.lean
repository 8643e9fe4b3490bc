/-
  The sum of plain numbers that are widened, made narrow at the end: each step has an answer. Nothing of the program is named.
-/
import Derived.Test.YtjpnbcfdnolcjabDbl
namespace Go.Proofs.Ytjpnbcfdnolcjab
open Go

theorem encode64 (s : Bool) (m : Nat) (e : Int) : FloatKind.f64.encode (.number s m e) = Ieee.double.nearest s m e := rfl
theorem encode32 (s : Bool) (m : Nat) (e : Int) : FloatKind.f32.encode (.number s m e) = Ieee.single.nearest s m e := rfl

theorem rv20 : rv 1233125376 = 2 ^ 169 := by decide +kernel
theorem drv20 : ∃ P Q : Nat, P = 925 ∧ Q = 169 + P ∧ Dbl.rv 4697254411347427328 = 2 ^ Q := ⟨925, 1094, rfl, rfl, by decide +kernel⟩
theorem rv26 : rv 1283457024 = 2 ^ 175 := by decide +kernel

theorem pow_mul {a b c m : Nat} (hc : c = a + b) (h : m ≤ 2 ^ a) : m * 2 ^ b ≤ 2 ^ c := by
  subst hc
  rw [Nat.pow_add]
  exact Nat.mul_le_mul_right _ h
theorem pow_div {a b c m : Nat} (hc : c = a + b) (h : m * 2 ^ b ≤ 2 ^ c) : m ≤ 2 ^ a := by
  subst hc
  rw [Nat.pow_add] at h
  exact Nat.le_of_mul_le_mul_right h (Nat.two_pow_pos b)
theorem pow_le2 {m i P Q : Nat} (c : P ≤ i) (hQ : Q = 175 + P) (h : m * 2 ^ i ≤ 2 ^ Q) : m * 2 ^ (i - P) ≤ 2 ^ 175 := by
  refine pow_div (b := P) (c := Q) hQ ?_
  rw [Nat.mul_assoc, ← Nat.pow_add, Nat.sub_add_cancel c]
  exact h
theorem pow_le3 {m i P Q : Nat} (c : i ≤ P) (hQ : Q = 175 + P) (h : m * 2 ^ i ≤ 2 ^ Q) : m ≤ 2 ^ 175 * 2 ^ (P - i) := by
  rw [← Nat.pow_add]
  exact pow_div (b := i) (c := Q) (by omega) h
/-- A plain number, widened. -/
theorem wide_pln {x : Nat} (h : PlnOk x) : Dbl.isNum (wide x) ∧ Dbl.mag (wide x) ≤ 4697254411347427328 := by
  obtain ⟨h1, h2⟩ := h
  obtain ⟨s, m, i, hr, hm⟩ := read_mag h1
  have hw := (wide_ok x (num_fin (num_of_isNum h1))).1
  have hd : FloatKind.f32.decode x = .number s m (-149 + (i : Int)) := hr
  unfold floatToFloatBits at hw
  rw [if_neg (by decide), hd] at hw
  dsimp only at hw
  split at hw
  · cases hw
  · rw [encode64, Dbl.nearest_sign] at hw
    obtain ⟨P, Q, hP, hQ, hrv⟩ := drv20
    have hR := Dbl.nearest_rnd m (-149 + (i : Int)) (i + P) 0 (by omega)
    have hb : m * 2 ^ (i + P) ≤ 2 ^ Q := by
      rw [Nat.pow_add, ← Nat.mul_assoc, hm]
      have h3 := rv_le h2
      rw [rv20] at h3
      exact pow_mul hQ h3
    have hle := Dbl.rnd_le hR (r := 4697254411347427328) (by decide) (by rw [hrv, Nat.pow_zero, Nat.mul_one]; exact hb)
    obtain ⟨a, b⟩ := Dbl.mag_sign s (C := 4697254411347427328) (by decide) hle
    have e := Option.some.inj hw
    rw [← e]
    exact ⟨a, by rw [b]; exact hle⟩

def capW : Nat → Nat
  | 0 => 0
  | k + 1 => Dbl.fadd (capW k) 4697254411347427328
theorem capW_lt : ∀ k : Nat, k < 49 → capW k ≤ 4724276009111650304 := by decide +kernel
def wideS (zs : List Nat) : Nat := zs.foldl (fun s x => Dbl.fadd s (wide x)) 0
theorem wideS_snoc (zs : List Nat) (q : Nat) : wideS (zs ++ [q]) = Dbl.fadd (wideS zs) (wide q) := by simp [wideS]
theorem wideS_ok : ∀ zs : List Nat, (∀ z ∈ zs, PlnOk z) → zs.length ≤ 48 → Dbl.isNum (wideS zs) ∧ Dbl.mag (wideS zs) ≤ capW zs.length := by
  refine snoc_ind (fun _ _ => ⟨.inl (by decide), Nat.le_refl _⟩) (fun l x ih hq hl => ?_)
  simp only [List.length_append, List.length_cons, List.length_nil] at hl ⊢
  obtain ⟨h1, h2⟩ := ih (fun q hm => hq q (by simp [hm])) (by omega)
  obtain ⟨p1, p2⟩ := wide_pln (hq x (by simp))
  have c0 := capW_lt l.length (by omega)
  have c1 := capW_lt (l.length + 1) (by omega)
  rw [wideS_snoc]
  exact (Dbl.add_mag h1 p1 h2 p2 (by omega) (by decide) (by change capW (l.length + 1) < _; omega)).2
theorem wideS_take {zs : List Nat} (hq : ∀ z ∈ zs, PlnOk z) (hl : zs.length ≤ 48) {k x : Nat} (h : zs[k]? = some x) : floatBits .add .f64 (wideS (zs.take k)) (wide x) = some (wideS (zs.take (k + 1))) ∧ fin32 x = true := by
  have hk := (List.getElem?_eq_some_iff.1 h).1
  obtain ⟨h1, h2⟩ := wideS_ok (zs.take k) (fun z hz => hq z (List.mem_of_mem_take hz)) (by rw [List.length_take]; omega)
  have hx := hq x (List.mem_of_getElem? h)
  obtain ⟨p1, p2⟩ := wide_pln hx
  have hlen : (zs.take k).length = k := by rw [List.length_take]; omega
  rw [hlen] at h2
  have c0 := capW_lt k (by omega)
  have c1 := capW_lt (k + 1) (by omega)
  rw [take_snoc h, wideS_snoc]
  exact ⟨(Dbl.add_mag h1 p1 h2 p2 (by omega) (by decide) (by change capW (k + 1) < _; omega)).1, num_finN hx.1⟩

/-- The sum, made narrow. -/
def nar (s : Nat) : Nat := (floatToFloatBits .f64 s .f32).getD 0
theorem drv26' : ∃ P Q : Nat, P = 925 ∧ Q = 175 + P ∧ Dbl.rv 4724276009111650304 = 2 ^ Q := ⟨925, 1100, rfl, rfl, by decide +kernel⟩
theorem nar_ok {s : Nat} (h1 : Dbl.isNum s) (h2 : Dbl.mag s ≤ 4724276009111650304) : floatToFloatBits .f64 s .f32 = some (nar s) ∧ isNum (nar s) := by
  suffices h : ∃ r, floatToFloatBits .f64 s .f32 = some r ∧ isNum r by
    obtain ⟨r, a, b⟩ := h
    have e : nar s = r := by unfold nar; rw [a]; rfl
    rw [e]; exact ⟨a, b⟩
  obtain ⟨sg, m, i, hr, hm⟩ := Dbl.read_mag h1
  have hd : FloatKind.f64.decode s = .number sg m (-1074 + (i : Int)) := hr
  obtain ⟨P, Q, hP, hQ, hrv⟩ := drv26'
  have hb : m * 2 ^ i ≤ 2 ^ Q := by
    have h3 := Dbl.rv_le h2
    rw [hrv] at h3
    rw [hm]; exact h3
  have hle : Ieee.single.nearest false m (-1074 + (i : Int)) ≤ 1283457024 := by
    by_cases c : P ≤ i
    · have hR := nearest_rnd m (-1074 + (i : Int)) (i - P) 0 (by omega)
      refine rnd_le hR (by decide) ?_
      rw [rv26, Nat.pow_zero, Nat.mul_one]
      exact pow_le2 c hQ hb
    · have hR := nearest_rnd m (-1074 + (i : Int)) 0 (P - i) (by omega)
      refine rnd_le hR (Nat.two_pow_pos _) ?_
      rw [rv26, Nat.pow_zero, Nat.mul_one]
      exact pow_le3 (by omega) hQ hb
  obtain ⟨a, _⟩ := mag_sign sg (C := 1283457024) (by decide) hle
  refine ⟨_, ?_, a⟩
  unfold floatToFloatBits
  rw [if_neg (by decide), hd]
  dsimp only
  rw [encode32, nearest_sign]
  generalize (if sg = true then 2147483648 + Ieee.single.nearest false m (-1074 + (i : Int)) else Ieee.single.nearest false m (-1074 + (i : Int))) = r at *
  obtain ⟨s', m', i', hr', _⟩ := read_num32 a
  have hd' : FloatKind.f32.decode r = .number s' m' (-149 + (i' : Int)) := hr'
  rw [hd']
  rfl
theorem nar_wide {zs : List Nat} (hq : ∀ z ∈ zs, PlnOk z) (hl : zs.length ≤ 48) : floatToFloatBits .f64 (wideS zs) .f32 = some (nar (wideS zs)) ∧ isNum (nar (wideS zs)) := by
  obtain ⟨a, b⟩ := wideS_ok zs hq hl
  exact nar_ok a (Nat.le_trans b (capW_lt _ (by omega)))

end Go.Proofs.Ytjpnbcfdnolcjab
