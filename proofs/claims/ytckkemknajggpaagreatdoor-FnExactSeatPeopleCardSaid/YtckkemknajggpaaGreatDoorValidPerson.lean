/-
  For every person, valid or not: whether it is valid is what the model says. No conditions.
-/
import Derived.Test.YtckkemknajggpaaGreatDoorPersonA
import Derived.Test.YtckkemknajggpaaGreatDoorPlainN
import Derived.Test.YtckkemknajggpaaGreatDoorLaw
namespace Go.Proofs.YtckkemknajggpaaGreatDoor
open Go.ChangeShapes Go.WideShapes Go.ChangeAt Go.RowKit Go.Deep Go.Joins

def okPe (l m g : Nat) : Bool := plainB l && plainB m && plainB g && le0 (FloatKind.f32.format.order l m)

set_option maxRecDepth 100000 in
set_option maxHeartbeats 1000000 in
theorem implValidPerson_any (l m g : Nat) (w : World) :
    Calls Tryz.prog 41 #[.agg (persC l m g)] w fun e w' => e = .returned (.bool (okPe l m g)) ∧ Below w.heap.size w w' := by
  unfold persC okPe
  rcases h0 : FloatKind.f32.format.order l m with _ | (_ | _ | _)
  all_goals
    cases hl : plainB l <;> cases hm : plainB m <;> cases hg : plainB g
    all_goals
      go_enter Tryz.func41, Tryz.ntmps41
      go_wp2_with (go_at_call 59; refine (isPlain_any _ _).mono ?_; rw [‹plainB _ = _›]; rintro e w' ⟨rfl, rfl⟩)
      go_ret
      exact ⟨rfl, by repeat' first | exact Below.refl _ _ | assumption | refine Below.alloc ?_ (by first | omega | (simp; done) | (simp; omega)) _ | refine Below.setCell ?_ (by first | omega | (simp; done) | (simp; omega)) _ | refine Below.drew ?_⟩

set_option maxRecDepth 100000 in
set_option maxHeartbeats 1000000 in
theorem specValidPerson_any (l m g : Nat) (w : World) :
    Calls Tryz.prog 35 #[.agg (persC l m g)] w fun e w' => e = .returned (.bool (okPe l m g)) ∧ Below w.heap.size w w' := by
  unfold persC okPe
  rcases h0 : FloatKind.f32.format.order l m with _ | (_ | _ | _)
  all_goals
    cases hl : plainB l <;> cases hm : plainB m <;> cases hg : plainB g
    all_goals
      go_enter Tryz.func35, Tryz.ntmps35
      go_wp2_with (go_at_call 54; refine (l01Plain_any _ _).mono ?_; rw [‹plainB _ = _›]; rintro e w' ⟨rfl, rfl⟩)
      go_ret
      exact ⟨rfl, by repeat' first | exact Below.refl _ _ | assumption | refine Below.alloc ?_ (by first | omega | (simp; done) | (simp; omega)) _ | refine Below.setCell ?_ (by first | omega | (simp; done) | (simp; omega)) _ | refine Below.drew ?_⟩

end Go.Proofs.YtckkemknajggpaaGreatDoor
