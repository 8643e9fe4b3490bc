/-
  Insertion from the right: of the program, in an array, and of the model, in a list. Nothing of the program is named.

-/
import Derived.Sort.WalkA

namespace Go.Proofs.Ytmbgmpeiicjlaaa

open Go.Sort

section

variable (lt : Nat → Nat → Bool)

/-- x goes left past what it is less than: what stands left of it is told from the right. -/
def goI (x : Nat) : List Nat → List Nat → List Nat
  | [], b => x :: b
  | y :: a, b => if lt x y = true then goI x a (y :: b) else (y :: a).reverse ++ x :: b

def insL (l : List Nat) (x : Nat) : List Nat := goI lt x l.reverse []

/-- Where it comes to stand. -/
def atI (x : Nat) : List Nat → Nat
  | [] => 0
  | y :: a => if lt x y = true then atI x a else a.length + 1

theorem atI_le (x : Nat) : ∀ a, atI lt x a ≤ a.length
  | [] => Nat.le_refl _
  | y :: a => by
    have := atI_le x a
    rw [atI]
    split <;> simp <;> omega

theorem goI_at (x : Nat) : ∀ a b, goI lt x a b = a.reverse.take (atI lt x a) ++ x :: (a.reverse.drop (atI lt x a) ++ b)
  | [], b => rfl
  | y :: a, b => by
    have hl := atI_le lt x a
    rw [goI, atI]
    by_cases c : lt x y = true
    · rw [if_pos c, if_pos c, goI_at x a (y :: b), List.reverse_cons, List.take_append_of_le_length (by simp; exact hl), List.drop_append_of_le_length (by simp; exact hl)]
      simp
    · rw [if_neg c, if_neg c]
      rw [List.take_of_length_le (by simp), List.drop_of_length_le (by simp)]
      rfl

theorem insL_at (l : List Nat) (x : Nat) : insL lt l x = l.take (atI lt x l.reverse) ++ x :: l.drop (atI lt x l.reverse) := by
  unfold insL
  rw [goI_at, List.reverse_reverse, List.append_nil]

theorem goI_len (x : Nat) : ∀ a b, (goI lt x a b).length = a.length + b.length + 1
  | [], b => by simp [goI]
  | y :: a, b => by
    rw [goI]
    split
    · rw [goI_len x a (y :: b)]; simp; omega
    · simp; omega

theorem insL_len (l : List Nat) (x : Nat) : (insL lt l x).length = l.length + 1 := by
  unfold insL
  rw [goI_len]
  simp

theorem get_two (a t : List Nat) (x y : Nat) : (a ++ y :: x :: t).toArray[a.length + 1]! = x ∧ (a ++ y :: x :: t).toArray[a.length]! = y := by
  constructor
  · rw [getElem!_pos _ _ (by simp)]
    simp
  · rw [getElem!_pos _ _ (by simp)]
    simp

theorem swp_two (a t : List Nat) (x y : Nat) : swp (a ++ y :: x :: t).toArray (a.length + 1) a.length = (a ++ x :: y :: t).toArray := by
  obtain ⟨e1, e2⟩ := get_two a t x y
  unfold swp
  rw [e1, e2]
  simp

theorem inner_is (x : Nat) (r : List Nat) : ∀ a b, insInner lt 0 a.length (a.reverse ++ x :: (b ++ r)).toArray = (goI lt x a b ++ r).toArray
  | [], b => by
    show insInner lt 0 0 _ = _
    rw [insInner]
    simp [goI]
  | y :: a, b => by
    have e : (y :: a).reverse ++ x :: (b ++ r) = a.reverse ++ y :: x :: (b ++ r) := by simp
    have l1 : a.reverse.length = a.length := List.length_reverse
    obtain ⟨e1, e2⟩ := get_two a.reverse (b ++ r) x y
    rw [l1] at e1 e2
    have hs := swp_two a.reverse (b ++ r) x y
    rw [l1] at hs
    show insInner lt 0 (a.length + 1) _ = _
    rw [e, insInner, e1, e2, goI]
    by_cases c : lt x y = true
    · rw [if_pos (by simp [c]), if_pos c, hs]
      exact inner_is x r a (y :: b)
    · rw [if_neg (by simp [c]), if_neg c]
      simp

theorem outer_is : ∀ (r s : List Nat) (n : Nat), n = s.length + r.length → insOuter lt 0 n s.length (s ++ r).toArray = (r.foldl (insL lt) s).toArray
  | [], s, n, h => by
    rw [insOuter_stop lt 0 n _ _ (by simp at h; omega)]
    simp
  | x :: r, s, n, h => by
    have hi := inner_is lt x r s.reverse []
    rw [List.length_reverse, List.reverse_reverse, List.nil_append] at hi
    rw [insOuter_go lt 0 n _ _ (by simp at h; omega), hi]
    have := outer_is r (insL lt s x) n (by rw [insL_len]; simp at h; omega)
    rw [insL_len] at this
    exact this

/-- The insertion sort of the program. -/
theorem sort_is (zs : List Nat) (h : zs ≠ []) : insertionSort lt zs.toArray 0 zs.length = (zs.foldl (insL lt) []).toArray := by
  cases zs with
  | nil => exact (h rfl).elim
  | cons x r =>
    unfold insertionSort
    have := outer_is lt r [x] (x :: r).length (by simp; omega)
    exact this

theorem fold_len : ∀ (r s : List Nat), (r.foldl (insL lt) s).length = s.length + r.length
  | [], s => rfl
  | x :: r, s => by
    rw [List.foldl_cons, fold_len r, insL_len]
    simp
    omega

theorem fold_snoc (zs : List Nat) (k : Nat) (h : k < zs.length) : (zs.take (k + 1)).foldl (insL lt) [] = insL lt ((zs.take k).foldl (insL lt) []) (zs.getD k 0) := by
  have e : zs.getD k 0 = zs[k] := by rw [List.getD, List.getElem?_eq_getElem h]; rfl
  rw [List.take_succ_eq_append_getElem h, List.foldl_append, e]
  rfl

/-- One step of the model's search. -/
theorem at_step (x : Nat) (l : List Nat) : ∀ k, k ≤ l.length → (∀ j, k ≤ j → j < l.length → lt x (l.getD j 0) = true) → atI lt x l.reverse = atI lt x (l.take k).reverse
  | k, hk, h => by
    obtain ⟨m, hm⟩ : ∃ m, m = l.length - k := ⟨_, rfl⟩
    induction m generalizing k with
    | zero => rw [List.take_of_length_le (by omega)]
    | succ m ih =>
      have hk2 : k < l.length := by omega
      rw [ih (k + 1) (by omega) (fun j h1 h2 => h j (by omega) h2) (by omega)]
      have e : l.getD k 0 = l[k] := by rw [List.getD, List.getElem?_eq_getElem hk2]; rfl
      rw [List.take_succ_eq_append_getElem hk2, List.reverse_append]
      show atI lt x (l[k] :: (l.take k).reverse) = _
      rw [atI, if_pos (by rw [← e]; exact h k (Nat.le_refl _) hk2)]

theorem at_stop (x : Nat) (l : List Nat) (k : Nat) (hk : k ≤ l.length) (h : ∀ j, k ≤ j → j < l.length → lt x (l.getD j 0) = true) (hs : k = 0 ∨ lt x (l.getD (k - 1) 0) = false) : atI lt x l.reverse = k := by
  rw [at_step lt x l k hk h]
  cases k with
  | zero => simp [atI]
  | succ k =>
    have hk2 : k < l.length := by omega
    have e : l.getD k 0 = l[k] := by rw [List.getD, List.getElem?_eq_getElem hk2]; rfl
    rw [List.take_succ_eq_append_getElem hk2, List.reverse_append]
    show atI lt x (l[k] :: (l.take k).reverse) = _
    rcases hs with hs | hs
    · omega
    · rw [atI, if_neg (by rw [← e]; simpa using hs)]
      simp
      omega

theorem goI_mem (x y : Nat) : ∀ a b, y ∈ goI lt x a b → y = x ∨ y ∈ a ∨ y ∈ b
  | [], b, h => by
    rcases List.mem_cons.1 h with h | h
    · exact .inl h
    · exact .inr (.inr h)
  | z :: a, b, h => by
    rw [goI] at h
    by_cases c : lt x z = true
    · rw [if_pos c] at h
      rcases goI_mem x y a (z :: b) h with h | h | h
      · exact .inl h
      · exact .inr (.inl (List.mem_cons_of_mem _ h))
      · rcases List.mem_cons.1 h with h | h
        · exact .inr (.inl (by rw [h]; exact List.mem_cons_self))
        · exact .inr (.inr h)
    · rw [if_neg c] at h
      rcases List.mem_append.1 h with h | h
      · exact .inr (.inl (List.mem_reverse.1 h))
      · rcases List.mem_cons.1 h with h | h
        · exact .inl h
        · exact .inr (.inr h)

theorem fold_mem (y : Nat) : ∀ (r s : List Nat), y ∈ r.foldl (insL lt) s → y ∈ s ∨ y ∈ r
  | [], s, h => .inl h
  | x :: r, s, h => by
    rcases fold_mem y r (insL lt s x) h with h | h
    · rcases goI_mem lt x y s.reverse [] h with h | h | h
      · exact .inr (by rw [h]; exact List.mem_cons_self)
      · exact .inl (List.mem_reverse.1 h)
      · cases h
    · exact .inr (List.mem_cons_of_mem _ h)

end

end Go.Proofs.Ytmbgmpeiicjlaaa
