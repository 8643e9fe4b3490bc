/-
  A blind with another tilt.

-/
import Derived.Test.YtddnfbpgldchcaaGreatDoorBhd

namespace Go.Proofs.YtddnfbpgldchcaaGreatDoor

open Go.ChangeShapes Go.WideShapes Go.ChangeAt Go.RowKit Go.Deep Go.Joins

attribute [local go_sem] run_store_f

set_option maxRecDepth 100000 in
set_option maxHeartbeats 1000000 in
theorem tilted_any2 (n : Int) (wd gp : Nat) (t : Int) (sh : Nat) (x : Int) (x0 : -64 ≤ x) (x1 : x ≤ 64) (w : World) :
    Calls Tryz.prog 140 #[.agg (blindC n wd gp t sh), .int .i64 x] w fun e w' => e = .returned (.agg (blindC n wd gp x sh)) ∧ Below w.heap.size w w' := by
  unfold blindC
  go_enter Tryz.func140, Tryz.ntmps140
  go_wp2
  refine bodyPost_ret (v := .agg #[.int .i8 n, .float .f32 wd, .float .f32 gp, .int .i16 x, .float .f32 sh]) (by simp [results, Tryz.results140, go_sem]) rfl ⟨rfl, ?_⟩
  (repeat' first | exact Below.refl _ _ | assumption | refine Below.alloc ?_ (by first | omega | (simp; done) | (simp; omega)) _ | refine Below.setCell ?_ (by first | omega | (simp; done) | (simp; omega)) _ | refine Below.drew ?_)

end Go.Proofs.YtddnfbpgldchcaaGreatDoor
