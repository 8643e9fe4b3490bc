/-
  What is asked of a blind: contracts of the program and of the model.
-/
import Derived.Test.YtddnfbpgldchcaaBlind
import Derived.Test.YtddnfbpgldchcaaSgn
namespace Go.Proofs.Ytddnfbpgldchcaa
open Go.ChangeShapes Go.WideShapes Go.ChangeAt Go.RowKit Go.Deep Go.Joins

attribute [local go_sem] run_store_f

def inI (lo hi x : Int) : Bool := decide (lo ≤ x) && decide (x ≤ hi)

theorem inI_get {lo hi x : Int} (h : inI lo hi x = true) : lo ≤ x ∧ x ≤ hi := by
  simpa [inI] using h

def lenB (a : Nat) : Bool := betw a 1031798784 1115684864

def partB (a : Nat) : Bool := betw a 0 1065353216

def okBl (n : Int) (wd gp : Nat) (t : Int) (sh : Nat) : Bool := inI 1 60 n && lenB wd && lenB gp && inI (-64) 64 t && partB sh

set_option maxHeartbeats 1000000 in
theorem isLength_any (a : Nat) (w : World) :
    Calls Try.prog 33 #[.float .f32 a] w fun e w' => e = .returned (.bool (lenB a)) ∧ w = w' := by
  unfold lenB betw
  rcases h0 : FloatKind.f32.format.order a 1031798784 with _ | (_ | _ | _)
  all_goals
    rcases h1 : FloatKind.f32.format.order a 1115684864 with _ | (_ | _ | _)
    all_goals
      go_enter Try.func33, Try.ntmps33
      go_wp2
      go_ret
      exact ⟨rfl, rfl⟩

set_option maxHeartbeats 1000000 in
theorem l02Length_any (a : Nat) (w : World) :
    Calls Try.prog 62 #[.float .f32 a] w fun e w' => e = .returned (.bool (lenB a)) ∧ w = w' := by
  unfold lenB betw
  rcases h0 : FloatKind.f32.format.order a 1031798784 with _ | (_ | _ | _)
  all_goals
    rcases h1 : FloatKind.f32.format.order a 1115684864 with _ | (_ | _ | _)
    all_goals
      go_enter Try.func62, Try.ntmps62
      go_wp2
      go_ret
      exact ⟨rfl, rfl⟩

set_option maxHeartbeats 1000000 in
theorem isPart_any (a : Nat) (w : World) :
    Calls Try.prog 27 #[.float .f32 a] w fun e w' => e = .returned (.bool (partB a)) ∧ w = w' := by
  unfold partB betw
  rcases h0 : FloatKind.f32.format.order a 0 with _ | (_ | _ | _)
  all_goals
    rcases h1 : FloatKind.f32.format.order a 1065353216 with _ | (_ | _ | _)
    all_goals
      go_enter Try.func27, Try.ntmps27
      go_wp2
      go_ret
      exact ⟨rfl, rfl⟩

set_option maxHeartbeats 1000000 in
theorem l01Part_any (a : Nat) (w : World) :
    Calls Try.prog 30 #[.float .f32 a] w fun e w' => e = .returned (.bool (partB a)) ∧ w = w' := by
  unfold partB betw
  rcases h0 : FloatKind.f32.format.order a 0 with _ | (_ | _ | _)
  all_goals
    rcases h1 : FloatKind.f32.format.order a 1065353216 with _ | (_ | _ | _)
    all_goals
      go_enter Try.func30, Try.ntmps30
      go_wp2
      go_ret
      exact ⟨rfl, rfl⟩

set_option maxHeartbeats 1000000 in
theorem l00In_ban (a lo hi : Int) (w : World) :
    Calls Try.prog 41 #[.int .i64 a, .int .i64 lo, .int .i64 hi] w fun e w' => e = .returned (.bool (inI lo hi a)) ∧ w = w' := by
  unfold inI
  by_cases h0 : lo ≤ a
  · by_cases h1 : a ≤ hi
    · go_enter Try.func41, Try.ntmps41
      go_wp2
      go_ret
      first | (simp; done) | (simp; omega)
    · go_enter Try.func41, Try.ntmps41
      go_wp2
      go_ret
      first | (simp; done) | (simp; omega)
  · go_enter Try.func41, Try.ntmps41
    go_wp2
    go_ret
    first | (simp; done) | (simp; omega)

theorem inI_mk {lo hi x : Int} : inI lo hi x = (decide (lo ≤ x) && decide (x ≤ hi)) := rfl

end Go.Proofs.Ytddnfbpgldchcaa
