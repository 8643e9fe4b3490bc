/-
  The order of plain numbers, -0 before 0, and sorted lists. Nothing of the program is named.
-/
import Derived.Test.YtjpnbcfdnolcjabWdP
namespace Go.Proofs.Ytjpnbcfdnolcjab
open Go

/-- The place of a number among all numbers. -/
def kI (x : Nat) : Int := if x < 2147483648 then (x : Int) else 2147483647 - (x : Int)
theorem kI_inj {x y : Nat} (h : kI x = kI y) : x = y := by
  unfold kI at h
  split at h <;> split at h <;> omega
def cfI (a b : Nat) : Int := if kI a < kI b then -1 else if kI b < kI a then 1 else 0
theorem cfI_neg (a b : Nat) : decide (cfI a b < 0) = decide (kI a < kI b) := by
  unfold cfI
  by_cases h : kI a < kI b
  · rw [if_pos h, decide_eq_true h]; rfl
  · rw [if_neg h, decide_eq_false h]
    split <;> rfl

/-- What the comparison of two numbers says of their places. -/
theorem num_order {a b : Nat} (ha : isNum a) (hb : isNum b) :
    (FloatKind.f32.format.order a b = some .lt ∧ kI a < kI b) ∨ (FloatKind.f32.format.order a b = some .gt ∧ kI b < kI a) ∨ (FloatKind.f32.format.order a b = some .eq ∧ (a = b ∨ (a = 0 ∧ b = 2147483648) ∨ (a = 2147483648 ∧ b = 0))) := by
  rw [order_num ha hb]
  have key : ∀ x, isNum x → (x < 2147483648 ∧ sv x = rv x ∧ kI x = x) ∨ ∃ r, x = 2147483648 + r ∧ sv x = -(rv r : Int) ∧ kI x = -1 - (r : Int) := by
    intro x hx
    rcases hx with h | ⟨h1, h2⟩
    · exact .inl ⟨by omega, sv_pos (by omega), if_pos (by omega)⟩
    · refine .inr ⟨x - 2147483648, by omega, ?_, ?_⟩
      · have := sv_neg (x - 2147483648)
        rw [show 2147483648 + (x - 2147483648) = x by omega] at this
        exact this
      · unfold kI; rw [if_neg (by omega)]; omega
  rcases key a ha with ⟨a1, a2, a3⟩ | ⟨r, a1, a2, a3⟩ <;> rcases key b hb with ⟨b1, b2, b3⟩ | ⟨s, b1, b2, b3⟩ <;> rw [a2, b2, a3, b3]
  · rcases Nat.lt_trichotomy a b with c | c | c
    · have := rv_lt c
      exact .inl ⟨by rw [Int.compare_eq_lt.2 (by omega)], by omega⟩
    · subst c
      exact .inr (.inr ⟨by rw [Int.compare_eq_eq.2 rfl], .inl rfl⟩)
    · have := rv_lt c
      exact .inr (.inl ⟨by rw [Int.compare_eq_gt.2 (by omega)], by omega⟩)
  · by_cases h0 : a = 0 ∧ s = 0
    · obtain ⟨rfl, rfl⟩ := h0
      exact .inr (.inr ⟨by rw [Int.compare_eq_eq.2 (by rw [rv_zero]; rfl)], .inr (.inl ⟨rfl, by omega⟩)⟩)
    · have : 0 < rv a ∨ 0 < rv s := by
        by_cases c : a = 0
        · right; exact rv_pos (by omega)
        · left; exact rv_pos (by omega)
      exact .inr (.inl ⟨by rw [Int.compare_eq_gt.2 (by omega)], by omega⟩)
  · by_cases h0 : r = 0 ∧ b = 0
    · obtain ⟨rfl, rfl⟩ := h0
      exact .inr (.inr ⟨by rw [Int.compare_eq_eq.2 (by rw [rv_zero]; rfl)], .inr (.inr ⟨by omega, rfl⟩)⟩)
    · have : 0 < rv r ∨ 0 < rv b := by
        by_cases c : r = 0
        · right; exact rv_pos (by omega)
        · left; exact rv_pos (by omega)
      exact .inl ⟨by rw [Int.compare_eq_lt.2 (by omega)], by omega⟩
  · rcases Nat.lt_trichotomy r s with c | c | c
    · have := rv_lt c
      exact .inr (.inl ⟨by rw [Int.compare_eq_gt.2 (by omega)], by omega⟩)
    · subst c
      exact .inr (.inr ⟨by rw [Int.compare_eq_eq.2 rfl], .inl (by omega)⟩)
    · have := rv_lt c
      exact .inl ⟨by rw [Int.compare_eq_lt.2 (by omega)], by omega⟩

/-- A list in its order. -/
def sortS (zs : List Nat) : List Nat := zs.mergeSort fun x y => decide (kI x ≤ kI y)
theorem sortS_perm (zs : List Nat) : (sortS zs).Perm zs := List.mergeSort_perm zs _
theorem sortS_len (zs : List Nat) : (sortS zs).length = zs.length := (sortS_perm zs).length_eq
theorem sortS_sorted (zs : List Nat) : (sortS zs).Pairwise (fun x y => kI x ≤ kI y) := by
  have h := List.pairwise_mergeSort (le := fun x y => decide (kI x ≤ kI y)) (fun a b c h1 h2 => by simp only [decide_eq_true_eq] at *; omega) (fun a b => by simp only [Bool.or_eq_true, decide_eq_true_eq]; omega) zs
  exact h.imp (fun h => by simpa using h)
/-- There is one such list. -/
theorem sorted_one : ∀ {l m : List Nat}, l.Perm m → l.Pairwise (fun x y => kI x ≤ kI y) → m.Pairwise (fun x y => kI x ≤ kI y) → l = m := by
  intro l
  induction l with
  | nil => intro m hp _ _; exact hp.nil_eq
  | cons x l ih =>
    intro m hp h1 h2
    cases m with
    | nil => exact absurd hp.symm.nil_eq (by simp)
    | cons y m =>
      have hxy : x = y := by
        have hx : x ∈ y :: m := hp.subset (by simp)
        have hy : y ∈ x :: l := hp.symm.subset (by simp)
        rw [List.pairwise_cons] at h1 h2
        rcases List.mem_cons.1 hx with e | hx
        · exact e
        · rcases List.mem_cons.1 hy with e | hy
          · exact e.symm
          · have a := h1.1 y hy
            have b := h2.1 x hx
            exact kI_inj (by omega)
      subst hxy
      rw [List.pairwise_cons] at h1 h2
      rw [ih (hp.cons_inv) h1.2 h2.2]
theorem sortS_of {l zs : List Nat} (hp : l.Perm zs) (hs : l.Pairwise (fun x y => kI x ≤ kI y)) : l = sortS zs := sorted_one (hp.trans (sortS_perm zs).symm) hs (sortS_sorted zs)
theorem sortS_ok {zs : List Nat} (hq : ∀ z ∈ zs, PlnOk z) : ∀ z ∈ sortS zs, PlnOk z := fun z hz => hq z ((sortS_perm zs).mem_iff.1 hz)

/-! ### A step of sorting by exchanges -/
theorem getD_get {l : List Nat} {i : Nat} (h : i < l.length) : l[i]? = some (l.getD i 0) := by
  rw [List.getElem?_eq_getElem h]; simp [List.getD, h]
def swapL (l : List Nat) (k : Nat) : List Nat := (l.set k (l.getD (k - 1) 0)).set (k - 1) (l.getD k 0)
theorem swapL_len (l : List Nat) (k : Nat) : (swapL l k).length = l.length := by simp [swapL]
theorem swapL_get (l : List Nat) {k : Nat} (h1 : 1 ≤ k) (h2 : k < l.length) (j : Nat) : (swapL l k).getD j 0 = if j = k - 1 then l.getD k 0 else if j = k then l.getD (k - 1) 0 else l.getD j 0 := by
  unfold swapL
  simp only [List.getD_eq_getElem?_getD, List.getElem?_set, List.length_set]
  by_cases c1 : k - 1 = j
  · subst c1
    rw [if_pos rfl, if_pos (by omega), if_pos rfl]; rfl
  · by_cases c2 : k = j
    · subst c2
      rw [if_neg c1, if_pos rfl, if_pos h2, if_neg (fun e => c1 e.symm), if_pos rfl]; rfl
    · rw [if_neg c1, if_neg c2, if_neg (fun e => c1 e.symm), if_neg (fun e => c2 e.symm)]
theorem swapL_perm (l : List Nat) {k : Nat} (h1 : 1 ≤ k) (h2 : k < l.length) : (swapL l k).Perm l := by
  have e : swapL l k = (l.set k l[k - 1]).set (k - 1) l[k] := by
    unfold swapL
    simp [List.getD, h2, show k - 1 < l.length by omega]
  rw [e]
  exact List.set_set_perm h2 (by omega)
/-- Up to i all is in order but for the number at k, which is less than those behind it. -/
def Mid (l : List Nat) (i k : Nat) : Prop := (∀ p q, p < q → q ≤ i → p ≠ k → q ≠ k → kI (l.getD p 0) ≤ kI (l.getD q 0)) ∧ ∀ q, k < q → q ≤ i → kI (l.getD k 0) < kI (l.getD q 0)
def Ord (l : List Nat) (i : Nat) : Prop := ∀ p q, p < q → q < i → kI (l.getD p 0) ≤ kI (l.getD q 0)
theorem mid_start {l : List Nat} {i : Nat} (h : Ord l i) : Mid l i i := ⟨fun p q h1 h2 h3 h4 => h p q h1 (by omega), fun q h1 h2 => by omega⟩
theorem mid_swap {l : List Nat} {i k : Nat} (h1 : 1 ≤ k) (hk : k ≤ i) (hi : i < l.length) (h : Mid l i k) (hlt : kI (l.getD k 0) < kI (l.getD (k - 1) 0)) : Mid (swapL l k) i (k - 1) := by
  obtain ⟨a, b⟩ := h
  refine ⟨fun p q hpq hq hp hq' => ?_, fun q hq1 hq2 => ?_⟩
  · rw [swapL_get l h1 (by omega), swapL_get l h1 (by omega), if_neg hp, if_neg hq']
    by_cases c1 : p = k
    · subst c1
      rw [if_pos rfl, if_neg (by omega)]
      exact a (p - 1) q (by omega) hq (by omega) (by omega)
    · rw [if_neg c1]
      by_cases c2 : q = k
      · subst c2
        rw [if_pos rfl]
        exact a p (q - 1) (by omega) (by omega) c1 (by omega)
      · rw [if_neg c2]
        exact a p q hpq hq c1 c2
  · rw [swapL_get l h1 (by omega), swapL_get l h1 (by omega), if_pos rfl, if_neg (by omega)]
    by_cases c : q = k
    · rw [if_pos c]; exact hlt
    · rw [if_neg c]
      exact b q (by omega) hq2
theorem mid_stop {l : List Nat} {i k : Nat} (hk : k ≤ i) (h : Mid l i k) (hs : k = 0 ∨ kI (l.getD (k - 1) 0) ≤ kI (l.getD k 0)) : Ord l (i + 1) := by
  obtain ⟨a, b⟩ := h
  intro p q hpq hq
  by_cases c1 : p = k
  · subst c1; exact Int.le_of_lt (b q hpq (by omega))
  · by_cases c2 : q = k
    · subst c2
      rcases hs with hs | hs
      · omega
      · by_cases c3 : p = q - 1
        · subst c3; exact hs
        · have := a p (q - 1) (by omega) (by omega) c1 (by omega)
          omega
    · exact a p q hpq (by omega) c1 c2
theorem ord_end {l zs : List Nat} (hp : l.Perm zs) (h : Ord l l.length) : l = sortS zs := by
  refine sortS_of hp (List.pairwise_iff_getElem.2 fun p q hp' hq hpq => ?_)
  have := h p q hpq hq
  simpa [List.getD, hp', hq] using this

end Go.Proofs.Ytjpnbcfdnolcjab
