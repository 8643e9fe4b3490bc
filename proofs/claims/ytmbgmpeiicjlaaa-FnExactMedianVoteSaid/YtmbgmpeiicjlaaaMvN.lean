/-
  MedianVote: votes that are refused.

-/
import Derived.Test.YtmbgmpeiicjlaaaFlV

namespace Go.Proofs.Ytmbgmpeiicjlaaa

open Go.ChangeShapes Go.WideShapes Go.ChangeAt Go.RowKit Go.Deep Go.Joins

attribute [local go_sem] run_store_f

set_option maxRecDepth 100000 in
set_option maxHeartbeats 1000000 in
theorem iMedianVote_no (sv : Value) (zs : List Nat) (w : World) (hzs : FloatsAt w sv zs) (hok : okVs zs = false) :
    Calls Try.prog 6 #[sv] w fun e w' => e = .returned (.tuple #[.float .f32 0, .int .i64 2]) ∧ w = w' := by
  have HC := Lib.hid (areVotes_any sv zs w hzs)
  rw [hok] at HC
  clear hzs hok
  go_enter Try.func6, Try.ntmps6
  go_wp2_with (go_at_call 10; refine HC.out.mono ?_; rintro e w1 ⟨rfl, rfl⟩)
  go_ret2
  exact ⟨rfl, rfl⟩

set_option maxRecDepth 100000 in
set_option maxHeartbeats 1000000 in
theorem sMedianVote_no (sv : Value) (zs : List Nat) (w : World) (hzs : FloatsAt w sv zs) (hok : okVs zs = false) :
    Calls Try.prog 4 #[sv] w fun e w' => e = .returned (.tuple #[.float .f32 0, .int .i64 2]) ∧ w = w' := by
  have HC := Lib.hid (l05Votes_any sv zs w hzs)
  rw [hok] at HC
  clear hzs hok
  go_enter Try.func4, Try.ntmps4
  go_wp2_with (go_at_call 9; refine HC.out.mono ?_; rintro e w1 ⟨rfl, rfl⟩)
  go_ret2
  exact ⟨rfl, rfl⟩

end Go.Proofs.Ytmbgmpeiicjlaaa
