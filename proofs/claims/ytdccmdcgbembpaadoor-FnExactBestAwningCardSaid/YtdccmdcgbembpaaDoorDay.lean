/-
  The light of a day: the sums over the hours of a sun that is valid.
-/
import Derived.Test.YtdccmdcgbembpaaDoorFallOn
import Derived.Test.YtdccmdcgbembpaaDoorAdd
namespace Go.Proofs.YtdccmdcgbembpaaDoor
open Go.RowKit Go.Shelf

theorem run_store_float (P : Program) (w : World) (a : Addr) (k : FloatKind) (b : Nat) (m : Mode) : (store a (.float k b) m).run P w = stored P w a (.float k b) m := run_store P w a _ m rfl

attribute [local go_sem] Oper.semAt_some run_store_float

/-- What a sum over the hours keeps: the sun, the sum so far, whatever lay before. -/
def SumI (w : World) (hs ts : List Int) (sb : Nat) (g : Nat → Nat) (pre : List Hr) (W : World) : Prop :=
  ∃ s : Nat, pos32 s = true ∧ W.heap[w.heap.size]? = some (.cells (sunC hs ts) 69 (0, 0)) ∧ W.heap[sb]? = some (.cells #[.float .f32 s] 29 (0, 0)) ∧ (Good pre → s = sumTo g pre.length) ∧ Below w.heap.size w W

theorem keeps_of_below {W W1 : World} (hb : Below W.heap.size W W1) : KeepsOthers W W1 := by
  exact ⟨hb.size, fun b o ho _ => (hb.block b (Array.getElem?_eq_some_iff.1 ho).1).trans ho⟩

theorem sumI_own (w : World) (hs ts : List Int) (sb : Nat) (g : Nat → Nat) (B : Nat) (hB : w.heap.size ≤ B) : OwnFrom B (SumI w hs ts sb g) := by
  intro s W W' row ⟨x, hx, h0, h1, hg, hb⟩ hg' hr
  have hr2 := fun r e => (hr r e).2
  exact ⟨x, hx, heap_kept h0 hg' hr2, heap_kept h1 hg' hr2, hg, ownFrom_below (β := Unit) (Nat.le_refl _) hB () W W' row hb hg' hr⟩

theorem sum_step {w W W1 : World} {hs ts : List Int} {sb : Nat} {g : Nat → Nat} {pre : List Hr} {k : Nat} {h01 : 0 ≤ (k : Int) ∧ (k : Int) < 24} {s : Nat} (hsb : w.heap.size < sb) (hl : pre.length < 24) (hs0 : pos32 s = true) (hg0 : pos32 (g k) = true)
    (hgood : Good pre → s = sumTo g pre.length) (hk : KeepsOthers W W1) (hbW : Below w.heap.size W W1) (hH : W1.heap[w.heap.size]? = some (.cells (sunC hs ts) 69 (0, 0))) (hS : W1.heap[sb]? = some (.cells #[.float .f32 s] 29 (0, 0))) (hb : Below w.heap.size w W1) :
    KeepsOthers W (W1.setCell ⟨sb, 0, none⟩ (.float .f32 (fadd s (g k)))) ∧ Below w.heap.size W (W1.setCell ⟨sb, 0, none⟩ (.float .f32 (fadd s (g k)))) ∧ SumI w hs ts sb g (pre ++ [⟨k, h01⟩]) (W1.setCell ⟨sb, 0, none⟩ (.float .f32 (fadd s (g k)))) := by
  refine ⟨hk.trans (KeepsOthers.setCell _ _ _), hbW.setCell (p := ⟨sb, 0, none⟩) (Nat.le_of_lt hsb) _, fadd s (g k), (add_ok hs0 hg0).2, ?_, ?_, ?_, hb.setCell (p := ⟨sb, 0, none⟩) (Nat.le_of_lt hsb) _⟩
  · rw [heap_setCell_other _ _ _ _ (Nat.ne_of_lt hsb)]; exact hH
  · rw [heap_setCell_same _ _ _ _ _ _ hS]; rfl
  · intro hgs
    obtain ⟨hgp, hxk⟩ := good_snoc hgs hl
    have hkl : k = pre.length := by have : (k : Int) = (pre.length : Int) := hxk; omega
    rw [List.length_append, List.length_singleton, sumTo_succ, ← hgood hgp, hkl]

end Go.Proofs.YtdccmdcgbembpaaDoor
