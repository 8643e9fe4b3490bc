/-
  For every sun, hour and facing: the light on a window is what the model says. No conditions.
-/
import Derived.Test.YthpimcfmgefkkaaDoorFall
namespace Go.Proofs.YthpimcfmgefkkaaDoor
open Go.ChangeShapes Go.WideShapes Go.ChangeAt Go.RowKit

theorem isFacing_is (n : Int) (b : Bool) (h : inF n = b) (w : World) : Calls Tryd.prog 14 #[.int .i64 n] w fun e w' => e = .returned (.bool b) ∧ w = w' := by
  subst h; exact isFacing_any n w

theorem l01Faced_is (n : Int) (b : Bool) (h : inF n = b) (w : World) : Calls Tryd.prog 24 #[.int .i64 n] w fun e w' => e = .returned (.bool b) ∧ w = w' := by
  subst h; exact l01Faced_any n w

theorem inF_bd {n : Int} (h : inF n = true) : 0 ≤ n ∧ n ≤ 255 := inB_true h

end Go.Proofs.YthpimcfmgefkkaaDoor
