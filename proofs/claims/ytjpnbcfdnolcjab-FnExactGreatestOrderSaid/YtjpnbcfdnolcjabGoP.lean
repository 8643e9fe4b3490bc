/-
  Orders of a list: the next one, all of them, the best one (no program).
-/
import Derived.Test.YtjpnbcfdnolcjabAdL
import Derived.Test.YtjpnbcfdnolcjabFlO
namespace Go.Proofs.Ytjpnbcfdnolcjab
open Go.ChangeShapes Go.WideShapes Go.ChangeAt Go.RowKit Go.Deep Go.Joins

attribute [local go_sem] run_store_f

def turnN (o : List Nat) : Nat → Nat
  | 0 => 0
  | t + 1 => if o.getD (t + 1) 0 < o.getD t 0 then turnN o t else t + 1

def nextN (o : List Nat) (v : Nat) : Nat → Nat
  | 0 => 0
  | k + 1 => if o.getD (k + 1) 0 < v then nextN o v k else k + 1

def swapP (o : List Nat) (a b : Nat) : List Nat := (o.set a (o.getD b 0)).set b (o.getD a 0)

def revT (l : List Nat) (t : Nat) : List Nat := l.take t ++ (l.drop t).reverse

def advAt (o : List Nat) (t x : Nat) : List Nat := revT (swapP o (t - 1) x) t

def advS (o : List Nat) : Option (List Nat) := if turnN o (o.length - 1) = 0 then none else some (advAt o (turnN o (o.length - 1)) (nextN o (o.getD (turnN o (o.length - 1) - 1) 0) (o.length - 1)))

def leaves (n : Nat) : Nat → List Nat → List (List Nat)
  | 0, o => [o]
  | d + 1, o => (List.range n).flatMap fun k => if o.contains k then [] else leaves n d (o ++ [k])

def permsL (n : Nat) : List (List Nat) := leaves n n []

def chainB : List (List Nat) → Bool
  | [] => true
  | [a] => (advS a).isNone
  | a :: b :: l => (advS a == some b) && chainB (b :: l)

def goodB (n : Nat) (p : List Nat) : Bool := decide (p.length = n) && p.all fun x => decide (x < n)

theorem perms_all : ∀ n, n < 7 → chainB (permsL n) = true ∧ (permsL n).head? = some (List.range n) ∧ (permsL n).all (goodB n) = true ∧ (permsL n).length ≤ 720 := by decide +kernel

theorem chain_get : ∀ (l : List (List Nat)) (i : Nat) (a : List Nat), chainB l = true → l[i]? = some a → advS a = l[i + 1]?
  | [], i, a, _, h => by simp at h
  | [b], i, a, hc, h => by
    cases i with
    | zero =>
      obtain rfl : b = a := by simpa using h
      have : (advS b).isNone = true := hc
      simpa using this
    | succ i => simp at h
  | b :: c :: l, i, a, hc, h => by
    have hc2 : (advS b == some c && chainB (c :: l)) = true := hc
    rw [Bool.and_eq_true] at hc2
    cases i with
    | zero =>
      obtain rfl : b = a := by simpa using h
      have := eq_of_beq hc2.1
      simpa using this
    | succ i =>
      have := chain_get (c :: l) i a hc2.2 (by simpa using h)
      simpa using this

/-- What the orders' sums lead to. -/
def sumP (zs p : List Nat) : Nat := leftS (p.map fun i => zs.getD i 0)

def gtG (a b : Nat) : Bool := FloatKind.f32.format.order a b == some .gt

def updP (zs : List Nat) (s : List Nat × Nat) (p : List Nat) : List Nat × Nat := if gtG (sumP zs p) s.2 then (p, sumP zs p) else s

def stP (zs : List Nat) (ps : List (List Nat)) : Nat → List Nat × Nat
  | 0 => (ps.getD 0 [], sumP zs (ps.getD 0 []))
  | i + 1 => updP zs (stP zs ps i) (ps.getD (i + 1) [])

def updM (zs : List Nat) : Option (List Nat × Nat) → List Nat → Option (List Nat × Nat)
  | none, p => some (p, sumP zs p)
  | some s, p => some (updP zs s p)

theorem st_fold (zs : List Nat) (ps : List (List Nat)) : ∀ i, i < ps.length → (ps.take (i + 1)).foldl (updM zs) none = some (stP zs ps i)
  | 0, h => by
    cases ps with
    | nil => simp at h
    | cons p ps => simp [stP, updM]
  | i + 1, h => by
    have ih := st_fold zs ps i (by omega)
    have e : ps.take (i + 1 + 1) = ps.take (i + 1) ++ [ps.getD (i + 1) []] := by
      rw [List.take_succ_eq_append_getElem h]
      simp [List.getD, h]
    rw [e, List.foldl_append, ih]
    rfl

theorem st_all (zs : List Nat) (ps : List (List Nat)) (h : 0 < ps.length) : ps.foldl (updM zs) none = some (stP zs ps (ps.length - 1)) := by
  have := st_fold zs ps (ps.length - 1) (by omega)
  rwa [List.take_of_length_le (by omega)] at this

end Go.Proofs.Ytjpnbcfdnolcjab
