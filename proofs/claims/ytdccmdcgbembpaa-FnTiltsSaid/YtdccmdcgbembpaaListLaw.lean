/-
  The frame of a law on lists of whole numbers: equal lists, that lie each in memory of its own.
-/
import Derived.Test.YtdccmdcgbembpaaList
namespace Go.Proofs.Ytdccmdcgbembpaa
open Go.RowKit

/-- The block of a list lies below B, or from B on. -/
def Under (v : Value) (B : Nat) : Prop := ∀ g n c, v = .slice (some ⟨g, 0, none⟩) n c → g < B

def Above (v : Value) (B : Nat) : Prop := ∀ g n c, v = .slice (some ⟨g, 0, none⟩) n c → B ≤ g

theorem under_of {α : Type} {w : World} {b : Nat} {E : TypeId} {mk : α → Value} {v : Value} {xs : List α} (h : Own w b E mk v xs) : Under v w.heap.size := by
  obtain ⟨a, c, rfl, _, _, h4⟩ := h
  intro g n c' e
  injection e with e1 e2 e3
  rcases h4 with ⟨ea, _⟩ | ⟨g', cur, ea, _, hc, _⟩
  · rw [ea] at e1; cases e1
  · rw [ea] at e1
    injection e1 with e1
    injection e1 with e1
    subst e1
    exact row_lt hc

theorem above_of {α : Type} {w : World} {b : Nat} {E : TypeId} {mk : α → Value} {v : Value} {xs : List α} (h : Own w b E mk v xs) : Above v b := by
  obtain ⟨a, c, rfl, _, _, h4⟩ := h
  intro g n c' e
  injection e with e1 e2 e3
  rcases h4 with ⟨ea, _⟩ | ⟨g', cur, ea, hb, hc, _⟩
  · rw [ea] at e1; cases e1
  · rw [ea] at e1
    injection e1 with e1
    injection e1 with e1
    subst e1
    exact hb

theorem under_mono {v : Value} {B C : Nat} (h : Under v B) (hBC : B ≤ C) : Under v C := fun g n c e => Nat.lt_of_lt_of_le (h g n c e) hBC

/-- A list is as it was, when another one has been written into. -/
theorem own_marked {α : Type} {w w' : World} {b B : Nat} {E : TypeId} {mk : α → Value} {v v1 : Value} {xs : List α} {m : Int} {n : Nat} {e : Ending} {E1 : TypeId} (h : Own w b E mk v xs) (hu : Under v B) (ha : Above v1 B) (hm : Marked w E1 B v1 m n e w') : Own w' b E mk v xs := by
  obtain ⟨a, c, rfl, h2, h3, h4⟩ := h
  refine ⟨a, c, rfl, h2, h3, h4.imp id ?_⟩
  rintro ⟨g, cur, rfl, hg, hc, hk⟩
  refine ⟨g, cur, rfl, hg, hm.2.2.2 g _ hc ?_, hk⟩
  intro g' n' c' e'
  have h5 := hu g _ _ rfl
  have h6 := ha g' _ _ e'
  omega

theorem row_marked {w w' : World} {B g : Nat} {v1 : Value} {m : Int} {n : Nat} {e : Ending} {E1 : TypeId} {o : Obj} (h : w.heap[g]? = some o) (hg : g < B) (ha : Above v1 B) (hm : Marked w E1 B v1 m n e w') : w'.heap[g]? = some o := by
  refine hm.2.2.2 g o h ?_
  intro g' n' c' e'
  have h6 := ha g' _ _ e'
  omega

/-- A list and a code, the list being the call's own. -/
def RetList (xs : List Int) (c : Int) (w : World) (e : Ending) (w' : World) : Prop := (∃ v, e = .returned (.tuple #[v, .int .i64 c]) ∧ Own w' w.heap.size 2 (Value.int .i64) v xs) ∧ Below w.heap.size w w'

end Go.Proofs.Ytdccmdcgbembpaa
