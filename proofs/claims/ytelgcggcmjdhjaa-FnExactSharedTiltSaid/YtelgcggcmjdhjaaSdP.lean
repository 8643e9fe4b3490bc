/-
  The sum of the differences of several blinds, and the tilt with the least one. Nothing of the program is named.
-/
import Derived.Test.YtelgcggcmjdhjaaLaP
import Derived.Test.YtelgcggcmjdhjaaBdA
import Derived.Test.YtelgcggcmjdhjaaBlkRun
import Derived.Test.YtelgcggcmjdhjaaBfn
namespace Go.Proofs.Ytelgcggcmjdhjaa
open Go

def fitB (x : Bd) : Bool := okBl x.1 x.2.1 x.2.2.1 x.2.2.2.1 x.2.2.2.2
def BdOk (x : Bd) : Prop := BlOk x.1 x.2.1 x.2.2.1 x.2.2.2.1 x.2.2.2.2
/-- What passes a blind that is tilted so. -/
def pBd (x h : Int) (b : Bd) : Nat := pasB b.2.1 b.2.2.1 x b.2.2.2.2 h
def sumB (x h : Int) (want : Nat) (ws : List Bd) : Nat → Nat
  | 0 => 0
  | k + 1 => fadd (sumB x h want ws k) (dV (pBd x h (ws.getD k (0, 0, 0, 0, 0))) want)
theorem pBd_le (x h : Int) {b : Bd} (ok : BdOk b) : pBd x h b ≤ 1069547520 := pas_le _ _ _ ok.2.2.2.2.2.2.2.2 _
theorem getD_bd {ws : List Bd} (hp : ∀ b ∈ ws, BdOk b) (k : Nat) (h : k < ws.length) : BdOk (ws.getD k (0, 0, 0, 0, 0)) := by
  have e : ws[k]? = some (ws.getD k (0, 0, 0, 0, 0)) := by rw [List.getElem?_eq_getElem h]; simp [List.getD, h]
  exact hp _ (List.mem_of_getElem? e)
theorem sumB_le {x h : Int} {want : Nat} {ws : List Bd} (hp : ∀ b ∈ ws, BdOk b) (hw : PartOk want) (hl : ws.length ≤ 12) : ∀ k, k ≤ ws.length → sumB x h want ws k ≤ floatOfInt .f32 ((3 * k : Nat) : Int)
  | 0, _ => Nat.zero_le _
  | k + 1, hk => (addA (sumB_le hp hw hl k (by omega)) (by omega) (dV_ok (pBd_le x h (getD_bd hp k (by omega))) hw).2.2).2
theorem sumB_step {x h : Int} {want : Nat} {ws : List Bd} (hp : ∀ b ∈ ws, BdOk b) (hw : PartOk want) (hl : ws.length ≤ 12) (k : Nat) (hk : k < ws.length) : floatBits .add .f32 (sumB x h want ws k) (dV (pBd x h (ws.getD k (0, 0, 0, 0, 0))) want) = some (sumB x h want ws (k + 1)) :=
  (addA (sumB_le hp hw hl k (by omega)) (by omega) (dV_ok (pBd_le x h (getD_bd hp k hk)) hw).2.2).1
def dS (h : Int) (want : Nat) (ws : List Bd) (k : Nat) : Nat := sumB ((k : Int) - 64) h want ws ws.length
theorem dS_lt (h : Int) {want : Nat} {ws : List Bd} (hp : ∀ b ∈ ws, BdOk b) (hw : PartOk want) (hl : ws.length ≤ 12) (k : Nat) : dS h want ws k < 2139095040 := by
  have h1 := sumB_le (x := (k : Int) - 64) (h := h) hp hw hl ws.length (Nat.le_refl _)
  have c := (capA ws.length (by omega)).1
  unfold dS
  omega
theorem all_ok {ws : List Bd} (hw : ∀ x ∈ ws, BdWf x) (h : ws.all fitB = true) : ∀ x ∈ ws, BdOk x := fun x hx => blok_of (hw x hx) (List.all_eq_true.1 h x hx)
theorem all_badB {ws : List Bd} {k : Nat} {x : Bd} (h : ws[k]? = some x) (hf : fitB x = false) : ws.all fitB = false := by
  rw [Bool.eq_false_iff]
  intro ha
  have := List.all_eq_true.1 ha x (List.mem_of_getElem? h)
  rw [hf] at this; cases this
/-- The code of several blinds, a height and a wanted light. -/
def codeS (ws : List Bd) (h : Int) (want : Nat) : Int := if ws.all fitB = false then 1 else if inI 1 8 (ws.length : Int) = false then 3 else if (inI 1 64 h && partB want) = false then 2 else 0
theorem codeS_ok {ws : List Bd} {h : Int} {want : Nat} (h0 : codeS ws h want = 0) : ws.all fitB = true ∧ inI 1 8 (ws.length : Int) = true ∧ inI 1 64 h = true ∧ partB want = true := by
  unfold codeS at h0
  split at h0
  · cases h0
  · split at h0
    · cases h0
    · split at h0
      · cases h0
      · next a b c =>
        rw [Bool.not_eq_false] at a b c
        rw [Bool.and_eq_true] at c
        exact ⟨a, b, c.1, c.2⟩

end Go.Proofs.Ytelgcggcmjdhjaa
