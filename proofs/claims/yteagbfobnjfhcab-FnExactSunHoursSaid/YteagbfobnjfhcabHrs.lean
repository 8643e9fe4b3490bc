/-
  The hours with enough light on a window: what the walks need.
-/
import Derived.RangeFuncBox
import Derived.Maps.AppendAt
import Derived.Test.YteagbfobnjfhcabBhd
import Derived.Test.YteagbfobnjfhcabDay
import Derived.Test.YteagbfobnjfhcabList
import Derived.Test.YteagbfobnjfhcabNew
namespace Go.Proofs.Yteagbfobnjfhcab
open Go.RowKit Go.Shelf

/-- The hours of a list that are wanted. -/
def wantH (p : Int → Bool) (pre : List Hr) : List Int := (pre.map (·.1)).filter p
theorem wantH_hit (p : Int → Bool) (pre : List Hr) (x : Hr) (h : p x.1 = true) : wantH p (pre ++ [x]) = wantH p pre ++ [x.1] := by simp [wantH, h]
theorem wantH_miss (p : Int → Bool) (pre : List Hr) (x : Hr) (h : p x.1 = false) : wantH p (pre ++ [x]) = wantH p pre := by simp [wantH, h]
theorem wantH_len (p : Int → Bool) (pre : List Hr) : (wantH p pre).length ≤ pre.length := by
  have := List.length_filter_le p (pre.map (·.1))
  rw [List.length_map] at this
  exact this
/-- Whether there is enough light at an hour. -/
def enoH (hs ts : List Int) (facing : Int) (le : Nat) (x : Int) : Bool := FloatKind.f32.format.order (fallOf hs ts x facing) le == some .gt || FloatKind.f32.format.order (fallOf hs ts x facing) le == some .eq

theorem grown_of_below {w w' : World} (h : Below w.heap.size w w') (row : Option Nat) : w.grownBy w' row := ⟨h.os, h.tape, h.output, h.size, fun k hk _ => h.block k hk⟩
theorem not_rowW {W : World} {g : Nat} {cs : Array Value} {t e : TypeId} {fr : Nat × Nat} (h : W.heap[g]? = some (.cells cs t fr)) (hte : t ≠ e) {base size k : Nat} {v : Value} {xs : List Value} (hr : W.ownsRow base e size v k xs) : some g ≠ v.ownBlock := by
  rcases hr.2 with ⟨rfl, _⟩ | ⟨g', cap, cur, rfl, _, hgb, _⟩
  · simp [Value.ownBlock]
  · intro e'
    obtain rfl : g = g' := by simpa [Value.ownBlock] using e'
    rw [h] at hgb
    injection hgb with e1
    injection e1 with _ e2 _
    exact hte e2
theorem owns_below {W w1 : World} {base k : Nat} {e : TypeId} {v : Value} {xs : List Value} (h : W.ownsRow base e 1 v k xs) (hb : Below W.heap.size W w1) : w1.ownsRow base e 1 v k xs :=
  h.kept (grown_of_below hb none) (by cases v.ownBlock <;> simp)
theorem own_of_row {α : Type} {W : World} {base : Nat} {e : TypeId} {mk : α → Value} {v : Value} {xs : List α} (h : W.ownsRow base e 1 v xs.length (xs.map mk)) (_ : xs.length ≤ maxLen) : Own W base e mk v xs := by
  rcases h.2 with ⟨rfl, hz⟩ | ⟨g, cap, cur, rfl, hbg, hg, hnc, hcm, hsz, htk⟩
  · exact ⟨none, 0, by rw [hz], Nat.zero_le _, by omega, .inl ⟨rfl, List.eq_nil_of_length_eq_zero hz⟩⟩
  · refine ⟨_, cap, rfl, hcm, hnc, .inr ⟨g, cur, rfl, hbg, hg, fun k hk => ?_⟩⟩
    have h1 : (cur.toList.take (xs.length * 1))[k]? = cur[k]? := by
      rw [List.getElem?_take_of_lt (by omega), Array.getElem?_toList]
    rw [← h1, htk, List.getElem?_map]
theorem infoW : (Try.prog.info? 2).map (fun i => (i.zero, i.size, i.bytes)) = some (some (.int .i64 0), 1, 8) := by kernel_rfl
theorem own_base {α : Type} {w : World} {base B : Nat} {E : TypeId} {mk : α → Value} {v : Value} {xs : List α} (h : Own w base E mk v xs) (hB : B ≤ base) : Own w B E mk v xs := own_below h (Below.refl _ _) hB
theorem own_nil {w : World} {base : Nat} : Own w base 2 (Value.int .i64) (.slice none 0 0) [] := ⟨none, 0, rfl, Nat.zero_le _, Nat.le_refl _, .inl ⟨rfl, rfl⟩⟩
theorem row_base {W : World} {base k : Nat} {e : TypeId} {v : Value} {xs : List Value} (h : W.ownsRow base e 1 v k xs) : ∀ j, v.ownBlock = some j → base ≤ j := fun j e => (h.lt j e).1
theorem kept_append2 {W w1 : World} {g base k : Nat} {cs : Array Value} {t e : TypeId} {fr : Nat × Nat} {v : Value} {xs : List Value} {tmp : Obj} (h : W.heap[g]? = some (.cells cs t fr)) (hte : t ≠ e) (hr : W.ownsRow base e 1 v k xs)
    (hg : (W.alloc tmp).grownBy w1 v.ownBlock) : w1.heap[g]? = some (.cells cs t fr) := by
  have h1 : (W.alloc tmp).heap[g]? = some (.cells cs t fr) := below_row ((Below.refl W.heap.size W).alloc (Nat.le_refl _) _) h
  exact (hg.block g (row_lt h1) (not_rowW h hte hr)).trans h1

end Go.Proofs.Yteagbfobnjfhcab
