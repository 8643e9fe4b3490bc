/-
  BrP.
-/
import Derived.Test.YtmbgmpeiicjlaaaGreatDoorMt5

namespace Go.Proofs.YtmbgmpeiicjlaaaGreatDoor

theorem sameB_iff (a b : Nat) : sameB a b = true ↔ nbB a = nbB b := by
  unfold sameB
  exact beq_iff_eq

theorem sameB_refl (a : Nat) : sameB a a = true := (sameB_iff a a).2 rfl

theorem sameB_comm (a b : Nat) : sameB a b = sameB b a := by
  unfold sameB
  rw [Bool.eq_iff_iff, beq_iff_eq, beq_iff_eq]
  exact eq_comm

theorem sameL_get : ∀ (xs ys : List Nat), xs.length = ys.length → (sameL xs ys = true ↔ ∀ k, k < xs.length → sameB (xs[k]?.getD 0) (ys[k]?.getD 0) = true)
  | [], [], _ => by simp [sameL]
  | x :: xs, y :: ys, h => by
    have ih := sameL_get xs ys (by simpa using h)
    unfold sameL at ih ⊢
    rw [List.zip_cons_cons, List.all_cons, Bool.and_eq_true, ih]
    constructor
    · rintro ⟨h0, h1⟩ k hk
      cases k with
      | zero => exact h0
      | succ k => exact h1 k (by simpa using hk)
    · intro h2
      exact ⟨h2 0 (by simp), fun k hk => h2 (k + 1) (by simpa using hk)⟩

/-- The slats that are told to be broken, as the program reckons them. -/
def brN (xs : List Nat) (wh hg m : Nat) : Nat := packP (fun k => sameB (xs[k]?.getD 0) (if k < m then hg else 0) && !sameB (if k < m then wh else 0) (if k < m then hg else 0)) 24

theorem brN_bit (xs : List Nat) (wh hg m k : Nat) (hm : m ≤ 24) : (brN xs wh hg m).testBit k = (decide (k < m) && (sameB (xs[k]?.getD 0) hg && !sameB wh hg)) := by
  unfold brN
  rw [packP_bit]
  by_cases h : k < m
  · rw [if_pos h, if_pos h, decide_eq_true (by omega : k < 24), decide_eq_true h]
  · rw [if_neg h, if_neg h, sameB_refl, decide_eq_false h]
    simp

theorem brN_lt (xs : List Nat) (wh hg m : Nat) (hm : m ≤ 24) : brN xs wh hg m < 2 ^ m := by
  apply Nat.lt_pow_two_of_testBit
  intro k hk
  rw [brN_bit xs wh hg m k hm, decide_eq_false (by omega), Bool.false_and]

/-- Two stripes' sets, one without the other. -/
theorem pack_andNot (p q : Nat → Bool) : packP p 24 &&& (4294967295 - packP q 24) = packP (fun k => p k && !q k) 24 := by
  apply Nat.eq_of_testBit_eq
  intro k
  have hq := packP_32 q 24 (by omega)
  rw [Nat.testBit_and, packP_bit, packP_bit, show 4294967295 - packP q 24 = 2 ^ 32 - (packP q 24 + 1) by omega, Nat.testBit_two_pow_sub_succ hq, packP_bit]
  by_cases h : k < 24
  · simp [h, (by omega : k < 32)]
  · simp [h]

/-- The floor that the slats make is the one that was seen if each stripe's light can be. -/
theorem floor_good (n : Int) (wd gp : Nat) (t h : Int) (xs : List Nat) (hx : xs.length = 24) :
    sameL (flB n wd gp t h (brN xs (opnB wd gp t h) (opnB wd gp (hgT t) h) (mB n).toNat)) xs = gdA xs (opnB wd gp t h) (opnB wd gp (hgT t) h) (mB n).toNat := by
  have hm : (mB n).toNat ≤ 24 := by have := mB_le n; omega
  rw [Bool.eq_iff_iff, sameL_get _ _ (by rw [flB_len, hx]), flB_len]
  unfold flB
  generalize opnB wd gp t h = wh
  generalize opnB wd gp (hgT t) h = hg
  generalize (mB n).toNat = m at *
  unfold gdA
  rw [List.all_eq_true]
  have key : ∀ k, k < 24 → (sameB ((flK (flP wh hg (brN xs wh hg m) m) 24)[k]?.getD 0) (xs[k]?.getD 0) = true ↔ gdP xs wh hg m k = true) := by
    intro k hk
    rw [flK_get _ hk]
    unfold flP gdP
    by_cases h1 : k < m
    · rw [if_pos h1, if_pos h1, brN_bit xs wh hg m k hm, decide_eq_true h1, Bool.true_and]
      generalize xs[k]?.getD 0 = x
      cases h2 : sameB x hg with
      | false =>
        rw [Bool.false_and, if_neg (by decide), Bool.or_false, sameB_comm]
      | true =>
        rw [Bool.true_and, Bool.or_true]
        cases h3 : sameB wh hg with
        | false =>
          rw [Bool.not_false, if_pos rfl, sameB_comm, h2]
        | true =>
          rw [Bool.not_true, if_neg (by decide), (sameB_iff wh x).2 (((sameB_iff _ _).1 h3).trans ((sameB_iff _ _).1 h2).symm)]
    · rw [if_neg h1, if_neg h1, sameB_comm]
  constructor
  · exact fun h2 k hk => (key k (List.mem_range.1 hk)).1 (h2 k (List.mem_range.1 hk))
  · exact fun h2 k hk => (key k hk).2 (h2 k (List.mem_range.2 hk))

/-- Both sets are the same. -/
theorem brN_good (xs : List Nat) (wh hg m : Nat) (hm : m ≤ 24) : brN xs wh hg m = packP (sbP xs wh hg m) 24 := by
  apply Nat.eq_of_testBit_eq
  intro k
  rw [brN_bit xs wh hg m k hm, packP_bit]
  unfold sbP
  by_cases h1 : k < m
  · rw [decide_eq_true h1, decide_eq_true (by omega : k < 24), Bool.true_and, Bool.true_and, Bool.true_and, Bool.and_comm]
    cases h2 : sameB (xs[k]?.getD 0) hg with
    | false => simp
    | true =>
      have e := (sameB_iff _ _).1 h2
      have e2 : sameB (xs[k]?.getD 0) wh = sameB wh hg := by
        unfold sameB
        rw [e, Bool.eq_iff_iff, beq_iff_eq, beq_iff_eq]
        exact eq_comm
      rw [e2]
  · rw [decide_eq_false h1]
    simp

end Go.Proofs.YtmbgmpeiicjlaaaGreatDoor
