/-
  What a window sees of the sun, and the facing with the most light. Nothing of the program is named but what reckons.
-/
import Derived.Test.YtmniodfdoidffaaBest
import Derived.Test.YtmniodfdoidffaaBlk
namespace Go.Proofs.Ytmniodfdoidffaa
open Go.RowKit

theorem angB_angB (d : Int) : cosB (angB d) = cosB d := by
  unfold cosB
  congr 1
  unfold angB
  omega

theorem fallB_ang (x d : Int) : fallB x (angB d) = fallB x d := by
  unfold fallB
  rw [angB_angB]

set_option maxRecDepth 100000 in
theorem fall_dec : ∀ x : Nat, x < 65 → ∀ a : Nat, a < 256 → litB (fmul (cosB (x : Int)) (cosB (a : Int))) ≤ 1065353216 ∧ (64 ≤ a → a ≤ 192 → litB (fmul (cosB (x : Int)) (cosB (a : Int))) = 0) := by decide +kernel

theorem fall_facts {x : Int} (hx : x ≤ 64) (d : Int) : fallB x d ≤ 1065353216 ∧ (64 ≤ angB d → angB d ≤ 192 → fallB x d = 0) := by
  rw [← fallB_ang]
  have h0 := angB_lo d
  have h1 := angB_hi d
  generalize angB d = a at *
  obtain ⟨m, rfl⟩ := Int.eq_ofNat_of_zero_le h0
  unfold fallB
  split
  · obtain ⟨n, rfl⟩ := Int.eq_ofNat_of_zero_le (by omega : 0 ≤ x)
    have h := fall_dec n (by omega) m (by omega)
    exact ⟨h.1, fun a b => h.2 (by omega) (by omega)⟩
  · exact ⟨by decide, fun _ _ => rfl⟩

/-- Whether a window sees the sun. -/
def seeB (x d : Int) : Bool := decide (0 < x) && (decide (angB d < 64) || decide (angB d > 192))

def seeH (x d : Int) : Int := if seeB x d then x else 0

def seeT (x d : Int) : Int := if seeB x d then angB d else 0

theorem see_fall {x : Int} (hx : x ≤ 64) (d : Int) : fallB (seeH x d) (seeT x d - 0) = fallB x d := by
  unfold seeH seeT
  by_cases h : seeB x d = true
  · rw [if_pos h, if_pos h, Int.sub_zero, fallB_ang]
  · rw [if_neg h, if_neg h]
    have e : fallB 0 (0 - 0) = 0 := by unfold fallB; rw [if_neg (by decide)]
    rw [e]
    by_cases h0 : 0 < x
    · unfold seeB at h
      have h2 : 64 ≤ angB d ∧ angB d ≤ 192 := by
        rw [decide_eq_true h0] at h
        simp at h
        omega
      exact ((fall_facts hx d).2 h2.1 h2.2).symm
    · unfold fallB; rw [if_neg h0]

def seeHL (hs ts : List Int) (f : Int) : List Int := (List.range 24).map (fun k => seeH (hs[k]?.getD 0) (ts[k]?.getD 0 - f))

def seeTL (hs ts : List Int) (f : Int) : List Int := (List.range 24).map (fun k => seeT (hs[k]?.getD 0) (ts[k]?.getD 0 - f))

theorem seeHL_len (hs ts : List Int) (f : Int) : (seeHL hs ts f).length = 24 := by simp [seeHL]

theorem seeTL_len (hs ts : List Int) (f : Int) : (seeTL hs ts f).length = 24 := by simp [seeTL]

theorem seeHL_get (hs ts : List Int) (f : Int) {k : Nat} (h : k < 24) : (seeHL hs ts f)[k]?.getD 0 = seeH (hs[k]?.getD 0) (ts[k]?.getD 0 - f) := by simp [seeHL, List.getElem?_range h]

theorem seeTL_get (hs ts : List Int) (f : Int) {k : Nat} (h : k < 24) : (seeTL hs ts f)[k]?.getD 0 = seeT (hs[k]?.getD 0) (ts[k]?.getD 0 - f) := by simp [seeTL, List.getElem?_range h]

theorem sumTo_congrB {f h : Nat → Nat} : ∀ k, (∀ j, j < k → f j = h j) → sumTo f k = sumTo h k
  | 0, _ => rfl
  | k + 1, e => by rw [sumTo_succ, sumTo_succ, sumTo_congrB k (fun j hj => e j (by omega)), e k (by omega)]

theorem ok_h {hs ts : List Int} (hh : hs.length = 24) (h : okB hs ts = true) {k : Nat} (hk : k < 24) : -64 ≤ hs[k]?.getD 0 ∧ hs[k]?.getD 0 ≤ 64 := by
  unfold okB at h
  have := (all_get 24 hh).1 (Bool.and_eq_true_iff.1 h).1 k hk
  unfold inB at this
  simp at this
  omega

theorem ok_t {hs ts : List Int} (ht : ts.length = 24) (h : okB hs ts = true) {k : Nat} (hk : k < 24) : 0 ≤ ts[k]?.getD 0 ∧ ts[k]?.getD 0 ≤ 255 := by
  unfold okB at h
  have := (all_get 24 ht).1 (Bool.and_eq_true_iff.1 h).2 k hk
  unfold inB at this
  simp at this
  omega

theorem see_day {hs ts : List Int} (hh : hs.length = 24) (h : okB hs ts = true) (f : Int) : dayOf (seeHL hs ts f) (seeTL hs ts f) 0 = dayOf hs ts f := by
  unfold dayOf
  refine sumTo_congrB 24 fun k hk => ?_
  show fallB (atH (seeHL hs ts f) (k : Int)) (atH (seeTL hs ts f) (k : Int) - 0) = fallB (atH hs (k : Int)) (atH ts (k : Int) - f)
  unfold atH
  rw [Int.toNat_natCast, seeHL_get _ _ _ hk, seeTL_get _ _ _ hk]
  exact see_fall (ok_h hh h hk).2 _

theorem see_ok {hs ts : List Int} (hh : hs.length = 24) (h : okB hs ts = true) (f : Int) : okB (seeHL hs ts f) (seeTL hs ts f) = true := by
  unfold okB
  rw [Bool.and_eq_true_iff]
  constructor
  · refine (all_get 24 (seeHL_len hs ts f)).2 fun k hk => ?_
    rw [seeHL_get _ _ _ hk]
    have := ok_h hh h hk
    unfold inB seeH
    split <;> simp <;> omega
  · refine (all_get 24 (seeTL_len hs ts f)).2 fun k hk => ?_
    rw [seeTL_get _ _ _ hk]
    have h0 := angB_lo (ts[k]?.getD 0 - f)
    have h1 := angB_hi (ts[k]?.getD 0 - f)
    unfold inB seeT
    split <;> simp <;> omega

theorem cap24 : ∀ k : Nat, k < 24 → floatOfInt .f32 (k : Int) < 2139095040 ∧ fadd (floatOfInt .f32 (k : Int)) 1065353216 = floatOfInt .f32 ((k + 1 : Nat) : Int) := by decide +kernel

theorem day_cap {hs ts : List Int} (hh : hs.length = 24) (h : okB hs ts = true) (f : Int) : ∀ k : Nat, k ≤ 24 → sumTo (fun j => fallOf hs ts (j : Int) f) k ≤ floatOfInt .f32 (k : Int)
  | 0, _ => by show (0 : Nat) ≤ _; exact Nat.zero_le _
  | k + 1, hk => by
    obtain ⟨c1, c2⟩ := cap24 k (by omega)
    have hf : fallOf hs ts (k : Int) f ≤ 1065353216 := by
      unfold fallOf atH
      rw [Int.toNat_natCast]
      exact (fall_facts (ok_h hh h (by omega)).2 _).1
    rw [sumTo_succ, ← c2]
    exact add_mono c1 (by decide) (day_cap hh h f k (by omega)) hf

theorem day_zero_or {hs ts : List Int} (hh : hs.length = 24) (h : okB hs ts = true) (f : Int) : dayOf hs ts f = 0 ∨ FloatKind.f32.format.order (dayOf hs ts f) 0 = some .gt := by
  have h1 : dayOf hs ts f ≤ floatOfInt .f32 ((24 : Nat) : Int) := day_cap hh h f 24 (Nat.le_refl _)
  have h2 : floatOfInt .f32 ((24 : Nat) : Int) < 2139095040 := by decide +kernel
  generalize dayOf hs ts f = x at *
  by_cases e : x = 0
  · exact .inl e
  · right
    rw [order_pos (by omega) (by decide)]
    congr 1
    simp only [compare, compareOfLessAndEq]
    rw [if_neg (by omega), if_neg e]

def gF (hs ts : List Int) (f : Nat) : Nat := dayOf hs ts (f : Int)

theorem gF_pos (hs ts : List Int) (f : Nat) : pos32 (gF hs ts f) = true := dayOf_pos hs ts _

theorem bestF_pos (hs ts : List Int) (k : Nat) : pos32 (bestTo (gF hs ts) k).2 = true := bestTo_pos (gF_pos hs ts) k

theorem bestF_order (hs ts : List Int) (k : Nat) : ∃ o, FloatKind.f32.format.order (gF hs ts k) (bestTo (gF hs ts) k).2 = some o := order_some (pos_fin (gF_pos hs ts k)) (pos_fin (bestF_pos hs ts k))

theorem bestF_one {hs ts : List Int} (hh : hs.length = 24) (h : okB hs ts = true) : bestTo (gF hs ts) 1 = (0, gF hs ts 0) := bestTo_one (day_zero_or hh h 0)

theorem bestF_lt (g : Nat → Nat) : ∀ k, (bestTo g k).1 ≤ k
  | 0 => Nat.le_refl _
  | k + 1 => by
    unfold bestTo
    split
    · exact Nat.le_succ k
    · exact Nat.le_succ_of_le (bestF_lt g k)

/-- The cells of a row that a window's sun is written into, as far as the hours have been looked at. -/
def Sees (hs ts : List Int) (f : Int) (a b : List Int) (n : Nat) : Prop := ∀ j, j < 24 → a[j]?.getD 0 = (if j < n then seeH (hs[j]?.getD 0) (ts[j]?.getD 0 - f) else 0) ∧ b[j]?.getD 0 = (if j < n then seeT (hs[j]?.getD 0) (ts[j]?.getD 0 - f) else 0)

end Go.Proofs.Ytmniodfdoidffaa
