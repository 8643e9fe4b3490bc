/-
  The contract of the comparison of two numbers that are given alike.
-/
import Derived.Test.YtdccmdcgbembpaaWide
import Derived.Test.YtdccmdcgbembpaaRows
import Derived.WalkKit
import Derived.WalkSpells
import Derived.WalkLawsBesides
import Derived.Lib.Hide
namespace Go.Proofs.Ytdccmdcgbembpaa
open Go.RowKit

theorem div_zero_pos : floatBits .quo .f64 4607182418800017408 0 = some 9218868437227405312 := by decide +kernel

theorem div_zero_neg : floatBits .quo .f64 4607182418800017408 9223372036854775808 = some 18442240474082181120 := by decide +kernel







theorem bcell {W w1 : World} (hb : Below W.heap.size W w1) : (∀ b o, b < W.heap.size → w1.cell? ⟨b, o, none⟩ = W.cell? ⟨b, o, none⟩) ∧ (∀ b o, b < W.heap.size → w1.frozen? ⟨b, o, none⟩ = W.frozen? ⟨b, o, none⟩) :=
  ⟨fun b o h => hb.cell (p := ⟨b, o, none⟩) h, fun b o h => hb.frozen (p := ⟨b, o, none⟩) h⟩

end Go.Proofs.Ytdccmdcgbembpaa
