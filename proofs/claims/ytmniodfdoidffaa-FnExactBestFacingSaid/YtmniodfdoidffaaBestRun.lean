/-
  The hour with the most light on a window: the program's walk over the hours.
-/
import Derived.Test.YtmniodfdoidffaaBest
namespace Go.Proofs.Ytmniodfdoidffaa
open Go.RowKit Go.Shelf

attribute [local go_sem] Oper.semAt_some run_store_float

theorem list_round {P : Program} {l n : Nat} {ops : Array Oper} {Q : Exit → Act → World → Prop} (hlo : ¬ LetsOut Q) :
    ∀ (os : List Oper) (_ : ∀ o ∈ os, ∀ c, o.op ≠ .defer c) (a : Act) (w : World), wpList P ops Q os a w → wpListIn (Fence.wide.inRound l) n P ops Q os a w
  | [], _, _, _, h => h
  | o :: os, hd, a, w, h => by
    unfold wpList at h
    unfold wpListIn
    split
    · rename_i hw
      rw [if_pos hw] at h
      have h2 := h.resolve_right (fun h => hlo h.2)
      exact Oper.wpIn_mono (fun a w h => list_round hlo os (fun o ho => hd o (List.mem_cons_of_mem _ ho)) a w h) (op_round (hd o List.mem_cons_self) h2)
    · rename_i hw
      rw [if_neg hw] at h
      exact ⟨fun _ _ => trivial, list_round hlo os (fun o ho => hd o (List.mem_cons_of_mem _ ho)) _ w h⟩

/-- A region that draws no order, in a round: from the law outside. -/
theorem region_list_round {P : Program} {l n id : Nat} {os : List Oper} {Q : Exit → Act → World → Prop} {a : Act} {w : World} (hd : os.all (fun o => match o.op with | .defer _ => false | _ => true) = true) (hlo : ¬ LetsOut Q)
    (h : wpList P os.toArray Q os a w) : (Code.region id os.toArray false).wpIn (Fence.wide.inRound l) n P Q a w :=
  wpIn_region_lit (list_round hlo os (fun o ho c hc => by
    have := List.all_eq_true.1 hd o ho
    rw [hc] at this
    cases this) a w h)

theorem wp_only {P : Program} {c : Code} {K : Act → World → Prop} {Q : Exit → Act → World → Prop} {a : Act} {w : World} (h : c.wp P (Exit.then K (fun _ _ _ => False)) a w) : c.wp P (Exit.then K Q) a w :=
  Code.wp_mono (fun e a w h => by cases e <;> first | exact h | exact h.elim) h

/-- What the walk over the hours keeps: the sun, the facing, the best so far, whatever lay before. -/
def BestI (w : World) (hs ts : List Int) (facing : Int) (sb : Nat) (g : Nat → Nat) (pre : List Hr) (W : World) : Prop :=
  ∃ b s : Nat, pos32 s = true ∧ W.heap[w.heap.size]? = some (.cells (sunC hs ts) 59 (0, 0)) ∧ W.heap[w.heap.size + 1]? = some (.cells #[.int .i64 facing] 2 (0, 0)) ∧ W.heap[sb]? = some (.cells #[.int .i64 (b : Int)] 2 (0, 0)) ∧ W.heap[sb + 1]? = some (.cells #[.float .f32 s] 25 (0, 0)) ∧ (Good pre → bestTo g pre.length = (b, s)) ∧ Below w.heap.size w W

theorem bestI_own (w : World) (hs ts : List Int) (facing : Int) (sb : Nat) (g : Nat → Nat) (B : Nat) (hB : w.heap.size ≤ B) : OwnFrom B (BestI w hs ts facing sb g) := by
  intro s W W' row ⟨x, y, hx, h0, h1, h2, h3, hg, hb⟩ hg' hr
  have hr2 := fun r e => (hr r e).2
  exact ⟨x, y, hx, heap_kept h0 hg' hr2, heap_kept h1 hg' hr2, heap_kept h2 hg' hr2, heap_kept h3 hg' hr2, hg, ownFrom_below (β := Unit) (Nat.le_refl _) hB () W W' row hb hg' hr⟩

theorem best_snoc {g : Nat → Nat} {pre : List Hr} {k : Nat} {h01 : 0 ≤ (k : Int) ∧ (k : Int) < 24} {bs bs' : Nat × Nat} (hl : pre.length < 24) (hgood : Good pre → bestTo g pre.length = bs) (hn : bestTo g k = bs → bestTo g (k + 1) = bs') (hgs : Good (pre ++ [⟨k, h01⟩])) :
    bestTo g (pre ++ [(⟨k, h01⟩ : Hr)]).length = bs' := by
  obtain ⟨hgp, hxk⟩ := good_snoc hgs hl
  have hkl : k = pre.length := by have : (k : Int) = (pre.length : Int) := hxk; omega
  rw [List.length_append, List.length_singleton, ← hkl]
  exact hn (by rw [hkl]; exact hgood hgp)

theorem best_keep {w W W2 : World} {hs ts : List Int} {facing : Int} {sb : Nat} {g : Nat → Nat} {pre : List Hr} {k : Nat} {h01 : 0 ≤ (k : Int) ∧ (k : Int) < 24} {b s : Nat} {o : Ordering} (hl : pre.length < 24) (hs0 : pos32 s = true)
    (ho : FloatKind.f32.format.order (g k) s = some o) (hgt : o ≠ .gt)
    (hgood : Good pre → bestTo g pre.length = (b, s)) (hk : KeepsOthers W W2) (hbW : Below w.heap.size W W2) (hH : W2.heap[w.heap.size]? = some (.cells (sunC hs ts) 59 (0, 0))) (hF : W2.heap[w.heap.size + 1]? = some (.cells #[.int .i64 facing] 2 (0, 0))) (hB : W2.heap[sb]? = some (.cells #[.int .i64 (b : Int)] 2 (0, 0))) (hS : W2.heap[sb + 1]? = some (.cells #[.float .f32 s] 25 (0, 0))) (hb : Below w.heap.size w W2) :
    KeepsOthers W W2 ∧ Below w.heap.size W W2 ∧ BestI w hs ts facing sb g (pre ++ [⟨k, h01⟩]) W2 := by
  refine ⟨hk, hbW, b, s, hs0, hH, hF, hB, hS, best_snoc hl hgood (fun e => ?_), hb⟩
  exact (bestTo_no (g := g) (k := k) (by rw [e]; exact ho) hgt).trans e

theorem best_take {w W W2 : World} {hs ts : List Int} {facing : Int} {sb : Nat} {g : Nat → Nat} {pre : List Hr} {k : Nat} {h01 : 0 ≤ (k : Int) ∧ (k : Int) < 24} {b s : Nat} (hsb : w.heap.size + 1 < sb) (hl : pre.length < 24) (hg0 : pos32 (g k) = true)
    (ho : FloatKind.f32.format.order (g k) s = some .gt)
    (hgood : Good pre → bestTo g pre.length = (b, s)) (hk : KeepsOthers W W2) (hbW : Below w.heap.size W W2) (hH : W2.heap[w.heap.size]? = some (.cells (sunC hs ts) 59 (0, 0))) (hF : W2.heap[w.heap.size + 1]? = some (.cells #[.int .i64 facing] 2 (0, 0))) (hB : W2.heap[sb]? = some (.cells #[.int .i64 (b : Int)] 2 (0, 0))) (hS : W2.heap[sb + 1]? = some (.cells #[.float .f32 s] 25 (0, 0))) (hb : Below w.heap.size w W2) :
    let W3 := (W2.setCell ⟨sb, 0, none⟩ (.int .i64 (k : Int))).setCell ⟨sb + 1, 0, none⟩ (.float .f32 (g k))
    KeepsOthers W W3 ∧ Below w.heap.size W W3 ∧ BestI w hs ts facing sb g (pre ++ [⟨k, h01⟩]) W3 := by
  refine ⟨(hk.trans (KeepsOthers.setCell _ _ _)).trans (KeepsOthers.setCell _ _ _), (hbW.setCell (p := ⟨sb, 0, none⟩) (by simp; omega) _).setCell (p := ⟨sb + 1, 0, none⟩) (by simp; omega) _, k, g k, hg0, ?_, ?_, ?_, ?_, best_snoc hl hgood (fun e => ?_), (hb.setCell (p := ⟨sb, 0, none⟩) (by simp; omega) _).setCell (p := ⟨sb + 1, 0, none⟩) (by simp; omega) _⟩
  · rw [heap_setCell_other _ _ _ _ (by simp; omega), heap_setCell_other _ _ _ _ (by simp; omega)]; exact hH
  · rw [heap_setCell_other _ _ _ _ (by simp; omega), heap_setCell_other _ _ _ _ (by simp; omega)]; exact hF
  · rw [heap_setCell_other _ _ _ _ (by simp), heap_setCell_same _ _ _ _ _ _ hB]; rfl
  · rw [heap_setCell_same _ _ _ _ _ _ ((heap_setCell_other _ ⟨sb, 0, none⟩ _ _ (by simp)).trans hS)]; rfl
  · exact bestTo_gt (g := g) (k := k) (by rw [e]; exact ho)

end Go.Proofs.Ytmniodfdoidffaa
