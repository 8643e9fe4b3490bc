/-
  Whether there is a height: contracts that tell the answer.
-/
import Derived.Test.YtdccmdcgbembpaaBfn
import Derived.Test.YtdccmdcgbembpaaLaw
import Derived.Test.YtdccmdcgbembpaaSame
namespace Go.Proofs.Ytdccmdcgbembpaa
open Go.ChangeShapes Go.WideShapes Go.ChangeAt Go.RowKit Go.Deep Go.Joins

theorem isHeight_is (h : Int) (fine : Bool) (hi : inI 1 64 h = fine) (w : World) : Calls Try.prog 27 #[.int .i64 h] w fun e w' => e = .returned (.bool fine) ∧ w = w' := by
  rw [← hi]; exact isHeight_any h w

theorem l02Up_is (h : Int) (fine : Bool) (hi : inI 1 64 h = fine) (w : World) : Calls Try.prog 34 #[.int .i64 h] w fun e w' => e = .returned (.bool fine) ∧ w = w' := by
  rw [← hi]; exact l02Up_any h w

end Go.Proofs.Ytdccmdcgbembpaa
