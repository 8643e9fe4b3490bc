/-
  Numbers of gusts and of what holds against them.
-/
import Derived.Test.YtnienahjfocalaaDoorPlainN
import Derived.Test.YtnienahjfocalaaDoorAgg
import Derived.Test.YtnienahjfocalaaDoorRow
import Derived.Deep.Cut
import Derived.Deep.DeepCutAuto
import Derived.Lib.Hide
namespace Go.Proofs.YtnienahjfocalaaDoor
open Go.ChangeShapes Go.WideShapes Go.ChangeAt Go.RowKit Go.Deep Go.Joins

def frcB (a : Nat) : Bool := plainB a && ge0 (FloatKind.f32.format.order a 0)

set_option maxHeartbeats 1000000 in
theorem isForce_any (a : Nat) (w : World) :
    Calls Tryd.prog 61 #[.float .f32 a] w fun e w' => e = .returned (.bool (frcB a)) ∧ w = w' := by
  unfold frcB
  cases h : plainB a with
  | true =>
    rcases h0 : FloatKind.f32.format.order a 0 with _ | (_ | _ | _)
    all_goals
      go_enter Tryd.func61, Tryd.ntmps61
      go_wp2_with (go_at_call 111; refine (isPlain_any _ _).mono ?_; rw [h]; rintro e w' ⟨rfl, rfl⟩)
      go_ret
      exact ⟨rfl, rfl⟩
  | false =>
    go_enter Tryd.func61, Tryd.ntmps61
    go_wp2_with (go_at_call 111; refine (isPlain_any _ _).mono ?_; rw [h]; rintro e w' ⟨rfl, rfl⟩)
    go_ret
    exact ⟨rfl, rfl⟩

set_option maxHeartbeats 1000000 in
theorem l04Gust_any (a : Nat) (w : World) :
    Calls Tryd.prog 57 #[.float .f32 a] w fun e w' => e = .returned (.bool (frcB a)) ∧ w = w' := by
  unfold frcB
  cases h : plainB a with
  | true =>
    rcases h0 : FloatKind.f32.format.order a 0 with _ | (_ | _ | _)
    all_goals
      go_enter Tryd.func57, Tryd.ntmps57
      go_wp2_with (go_at_call 110; refine (l01Plain_any _ _).mono ?_; rw [h]; rintro e w' ⟨rfl, rfl⟩)
      go_ret
      exact ⟨rfl, rfl⟩
  | false =>
    go_enter Tryd.func57, Tryd.ntmps57
    go_wp2_with (go_at_call 110; refine (l01Plain_any _ _).mono ?_; rw [h]; rintro e w' ⟨rfl, rfl⟩)
    go_ret
    exact ⟨rfl, rfl⟩

end Go.Proofs.YtnienahjfocalaaDoor
