/-
  What is asked of a blind: contracts of the program and of the model.

-/
import Derived.Test.YtmbgmpeiicjlaaaBlind
import Derived.Test.YtmbgmpeiicjlaaaSgn

namespace Go.Proofs.Ytmbgmpeiicjlaaa

open Go.ChangeShapes Go.WideShapes Go.ChangeAt Go.RowKit Go.Deep Go.Joins

attribute [local go_sem] run_store_f

def inI (lo hi x : Int) : Bool := decide (lo ≤ x) && decide (x ≤ hi)

def partB (a : Nat) : Bool := betw a 0 1065353216

set_option maxHeartbeats 1000000 in
theorem isPart_any (a : Nat) (w : World) :
    Calls Try.prog 18 #[.float .f32 a] w fun e w' => e = .returned (.bool (partB a)) ∧ w = w' := by
  unfold partB betw
  rcases h0 : FloatKind.f32.format.order a 0 with _ | (_ | _ | _)
  all_goals
    rcases h1 : FloatKind.f32.format.order a 1065353216 with _ | (_ | _ | _)
    all_goals
      go_enter Try.func18, Try.ntmps18
      go_wp2
      go_ret
      exact ⟨rfl, rfl⟩

set_option maxHeartbeats 1000000 in
theorem l01Part_any (a : Nat) (w : World) :
    Calls Try.prog 15 #[.float .f32 a] w fun e w' => e = .returned (.bool (partB a)) ∧ w = w' := by
  unfold partB betw
  rcases h0 : FloatKind.f32.format.order a 0 with _ | (_ | _ | _)
  all_goals
    rcases h1 : FloatKind.f32.format.order a 1065353216 with _ | (_ | _ | _)
    all_goals
      go_enter Try.func15, Try.ntmps15
      go_wp2
      go_ret
      exact ⟨rfl, rfl⟩

set_option maxHeartbeats 1000000 in
theorem l00In_ban (a lo hi : Int) (w : World) :
    Calls Try.prog 16 #[.int .i64 a, .int .i64 lo, .int .i64 hi] w fun e w' => e = .returned (.bool (inI lo hi a)) ∧ w = w' := by
  unfold inI
  by_cases h0 : lo ≤ a
  · by_cases h1 : a ≤ hi
    · go_enter Try.func16, Try.ntmps16
      go_wp2
      go_ret
      first | (simp; done) | (simp; omega)
    · go_enter Try.func16, Try.ntmps16
      go_wp2
      go_ret
      first | (simp; done) | (simp; omega)
  · go_enter Try.func16, Try.ntmps16
    go_wp2
    go_ret
    first | (simp; done) | (simp; omega)

end Go.Proofs.Ytmbgmpeiicjlaaa
