/-
  A statement that draws no order, within a round of a range over a function. No program is named.
-/
import Derived.Test.YtddnfbpgldchcaaDoorRound
import Derived.OwnWalkIn
import Derived.TacticsInMore
namespace Go.Proofs.YtddnfbpgldchcaaDoor
open Go Go.RowKit

theorem list_roundL {P : Program} {l n : Nat} {ops : Array Oper} {Q : Exit → Act → World → Prop} (hlo : ¬ LetsOut Q) :
    ∀ (os : List Oper) (_ : ∀ o ∈ os, ∀ c, o.op ≠ .defer c) (a : Act) (w : World), wpList P ops Q os a w → wpListIn (Fence.wide.inRound l) n P ops Q os a w
  | [], _, _, _, h => h
  | o :: os, hd, a, w, h => by
    unfold wpList at h
    unfold wpListIn
    split
    · rename_i hw
      rw [if_pos hw] at h
      have h2 := h.resolve_right (fun h => hlo h.2)
      exact Oper.wpIn_mono (fun a w h => list_roundL hlo os (fun o ho => hd o (List.mem_cons_of_mem _ ho)) a w h) (op_round (hd o List.mem_cons_self) h2)
    · rename_i hw
      rw [if_neg hw] at h
      exact ⟨fun _ _ => trivial, list_roundL hlo os (fun o ho => hd o (List.mem_cons_of_mem _ ho)) _ w h⟩

/-- A region that draws no order, in a round: from the law outside. -/
theorem region_plain_round {P : Program} {l n id : Nat} {os : List Oper} {Q : Exit → Act → World → Prop} {a : Act} {w : World} (hd : os.all (fun o => match o.op with | .defer _ => false | _ => true) = true) (hlo : ¬ LetsOut Q)
    (h : wpList P os.toArray Q os a w) : (Code.region id os.toArray false).wpIn (Fence.wide.inRound l) n P Q a w :=
  wpIn_region_lit (list_roundL hlo os (fun o ho c hc => by
    have := List.all_eq_true.1 hd o ho
    rw [hc] at this
    cases this) a w h)

theorem wp_onlyL {P : Program} {c : Code} {K : Act → World → Prop} {Q : Exit → Act → World → Prop} {a : Act} {w : World} (h : c.wp P (Exit.then K (fun _ _ _ => False)) a w) : c.wp P (Exit.then K Q) a w :=
  Code.wp_mono (fun e a w h => by cases e <;> first | exact h | exact h.elim) h

end Go.Proofs.YtddnfbpgldchcaaDoor
