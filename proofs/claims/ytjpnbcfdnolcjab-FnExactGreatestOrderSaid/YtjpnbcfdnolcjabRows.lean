/-
  No cell of these rows narrows 'for every input' (looked for: loops, veiled, ifaces, maps, wideKeys, modest, calm, conditions, laid).
  DERIVED. THE GIVEN ROWS OF THIS SEAT. 10 by the template 'for every input the law returns true; each argument reads behind the call as it read before'; 0 by the template 'total and deterministic' (their statements: YtjpnbcfdnolcjabTotals.lean).
  GIVEN WITH THE SEED: the statements are not yours to turn. If you find one false, say at which input.
  Laid BY PROGRAM, IN A SANDBOX (cutbox-rows.mjs): the forced cells as the released guide's own fill.sh prints them over the translation 71e05c3275e877ce… (all of the seat's roots in one cut). By AI agents, Wed Nov 11 2026. No macro, syntax, notation, axiom, sorry.
-/
import Derived.Test.YtjpnbcfdnolcjabChecked
import GoSem.Claim
import GoSem.ClaimJoined
import GoSem.ClaimMapViews
import Derived.JoinedTies
import Derived.KernelRfl
namespace Go.Proofs.Ytjpnbcfdnolcjab
/- THE CELL 'sum', in the pinned program and in every row, IS THE sha256 OF THE DUMP (.gsa) THAT YtjpnbcfdnolcjabProg.lean LOADS. Nothing in Lean hashes anything: it is a label: what it is worth is what the hold of that sum in a sandbox is worth. -/
noncomputable def Try.pinned : Pinned := { name := "ytjpnbcfdnolcjab", sum := "71e05c3275e877ce626ffef5e9391f483a2263ca396d8b45f778c232facf1840", checked := Try.checked }
namespace Rows
def none {H : Type} : Left H := { results := [], args := [] }

/-- 'laws.FnExactSumLeft': WHATEVER THE INPUT: true; the input reads as it did. -/
def fnExactSumLeftSpec : ChangeSpec := { name := "fnExactSumLeft", fn := fun _ => fun
  | [d] => { results := [.lit (.bool true)], args := [d] }
  | _ => none }
def fnExactSumLeftRow : OpenClaim := { program := "ytjpnbcfdnolcjab", sum := "71e05c3275e877ce626ffef5e9391f483a2263ca396d8b45f778c232facf1840", func := "loop.example/g01367/laws.FnExactSumLeft", spec := "fnExactSumLeft", inPlace := ["math.Float32bits"], unfollowed := true, recurses := true, apart := false }
def FnExactSumLeftSaid : Prop := fnExactSumLeftRow.holds Try.pinned (OpenSpec.ofChange fnExactSumLeftSpec)

/-- ITS FALSE NEIGHBOUR: 'it returns false'. Refute it at one input. -/
def fnExactSumLeftWrong : ChangeSpec := { name := "fnExactSumLeft", fn := fun _ => fun
  | [d] => { results := [.lit (.bool false)], args := [d] }
  | _ => none }
def FnExactSumLeftWrongFalsely : Prop := fnExactSumLeftRow.holds Try.pinned (OpenSpec.ofChange fnExactSumLeftWrong)

/-- 'laws.FnExactSumRight': WHATEVER THE INPUT: true; the input reads as it did. -/
def fnExactSumRightSpec : ChangeSpec := { name := "fnExactSumRight", fn := fun _ => fun
  | [d] => { results := [.lit (.bool true)], args := [d] }
  | _ => none }
def fnExactSumRightRow : OpenClaim := { program := "ytjpnbcfdnolcjab", sum := "71e05c3275e877ce626ffef5e9391f483a2263ca396d8b45f778c232facf1840", func := "loop.example/g01367/laws.FnExactSumRight", spec := "fnExactSumRight", inPlace := ["math.Float32bits"], unfollowed := true, recurses := true, apart := false }
def FnExactSumRightSaid : Prop := fnExactSumRightRow.holds Try.pinned (OpenSpec.ofChange fnExactSumRightSpec)

/-- ITS FALSE NEIGHBOUR: 'it returns false'. Refute it at one input. -/
def fnExactSumRightWrong : ChangeSpec := { name := "fnExactSumRight", fn := fun _ => fun
  | [d] => { results := [.lit (.bool false)], args := [d] }
  | _ => none }
def FnExactSumRightWrongFalsely : Prop := fnExactSumRightRow.holds Try.pinned (OpenSpec.ofChange fnExactSumRightWrong)

/-- 'laws.FnExactSumPairs': WHATEVER THE INPUT: true; the input reads as it did. -/
def fnExactSumPairsSpec : ChangeSpec := { name := "fnExactSumPairs", fn := fun _ => fun
  | [d] => { results := [.lit (.bool true)], args := [d] }
  | _ => none }
def fnExactSumPairsRow : OpenClaim := { program := "ytjpnbcfdnolcjab", sum := "71e05c3275e877ce626ffef5e9391f483a2263ca396d8b45f778c232facf1840", func := "loop.example/g01367/laws.FnExactSumPairs", spec := "fnExactSumPairs", inPlace := ["math.Float32bits"], unfollowed := true, recurses := true, apart := false }
def FnExactSumPairsSaid : Prop := fnExactSumPairsRow.holds Try.pinned (OpenSpec.ofChange fnExactSumPairsSpec)

/-- ITS FALSE NEIGHBOUR: 'it returns false'. Refute it at one input. -/
def fnExactSumPairsWrong : ChangeSpec := { name := "fnExactSumPairs", fn := fun _ => fun
  | [d] => { results := [.lit (.bool false)], args := [d] }
  | _ => none }
def FnExactSumPairsWrongFalsely : Prop := fnExactSumPairsRow.holds Try.pinned (OpenSpec.ofChange fnExactSumPairsWrong)

/-- 'laws.FnExactSumKept': WHATEVER THE INPUT: true; the input reads as it did. -/
def fnExactSumKeptSpec : ChangeSpec := { name := "fnExactSumKept", fn := fun _ => fun
  | [d] => { results := [.lit (.bool true)], args := [d] }
  | _ => none }
def fnExactSumKeptRow : OpenClaim := { program := "ytjpnbcfdnolcjab", sum := "71e05c3275e877ce626ffef5e9391f483a2263ca396d8b45f778c232facf1840", func := "loop.example/g01367/laws.FnExactSumKept", spec := "fnExactSumKept", inPlace := ["math.Float32bits"], unfollowed := true, recurses := true, apart := false }
def FnExactSumKeptSaid : Prop := fnExactSumKeptRow.holds Try.pinned (OpenSpec.ofChange fnExactSumKeptSpec)

/-- ITS FALSE NEIGHBOUR: 'it returns false'. Refute it at one input. -/
def fnExactSumKeptWrong : ChangeSpec := { name := "fnExactSumKept", fn := fun _ => fun
  | [d] => { results := [.lit (.bool false)], args := [d] }
  | _ => none }
def FnExactSumKeptWrongFalsely : Prop := fnExactSumKeptRow.holds Try.pinned (OpenSpec.ofChange fnExactSumKeptWrong)

/-- 'laws.FnExactSumWide': WHATEVER THE INPUT: true; the input reads as it did. -/
def fnExactSumWideSpec : ChangeSpec := { name := "fnExactSumWide", fn := fun _ => fun
  | [d] => { results := [.lit (.bool true)], args := [d] }
  | _ => none }
def fnExactSumWideRow : OpenClaim := { program := "ytjpnbcfdnolcjab", sum := "71e05c3275e877ce626ffef5e9391f483a2263ca396d8b45f778c232facf1840", func := "loop.example/g01367/laws.FnExactSumWide", spec := "fnExactSumWide", inPlace := ["math.Float32bits"], unfollowed := true, recurses := true, apart := false }
def FnExactSumWideSaid : Prop := fnExactSumWideRow.holds Try.pinned (OpenSpec.ofChange fnExactSumWideSpec)

/-- ITS FALSE NEIGHBOUR: 'it returns false'. Refute it at one input. -/
def fnExactSumWideWrong : ChangeSpec := { name := "fnExactSumWide", fn := fun _ => fun
  | [d] => { results := [.lit (.bool false)], args := [d] }
  | _ => none }
def FnExactSumWideWrongFalsely : Prop := fnExactSumWideRow.holds Try.pinned (OpenSpec.ofChange fnExactSumWideWrong)

/-- 'laws.FnExactSumSmall': WHATEVER THE INPUT: true; the input reads as it did. -/
def fnExactSumSmallSpec : ChangeSpec := { name := "fnExactSumSmall", fn := fun _ => fun
  | [d] => { results := [.lit (.bool true)], args := [d] }
  | _ => none }
def fnExactSumSmallRow : OpenClaim := { program := "ytjpnbcfdnolcjab", sum := "71e05c3275e877ce626ffef5e9391f483a2263ca396d8b45f778c232facf1840", func := "loop.example/g01367/laws.FnExactSumSmall", spec := "fnExactSumSmall", inPlace := ["math.Float64bits", "math.Float32bits"], unfollowed := true, recurses := true, apart := false }
def FnExactSumSmallSaid : Prop := fnExactSumSmallRow.holds Try.pinned (OpenSpec.ofChange fnExactSumSmallSpec)

/-- ITS FALSE NEIGHBOUR: 'it returns false'. Refute it at one input. -/
def fnExactSumSmallWrong : ChangeSpec := { name := "fnExactSumSmall", fn := fun _ => fun
  | [d] => { results := [.lit (.bool false)], args := [d] }
  | _ => none }
def FnExactSumSmallWrongFalsely : Prop := fnExactSumSmallRow.holds Try.pinned (OpenSpec.ofChange fnExactSumSmallWrong)

/-- 'laws.FnExactOrdersApart': WHATEVER THE INPUT: true; the input reads as it did. -/
def fnExactOrdersApartSpec : ChangeSpec := { name := "fnExactOrdersApart", fn := fun _ => fun
  | [d] => { results := [.lit (.bool true)], args := [d] }
  | _ => none }
def fnExactOrdersApartRow : OpenClaim := { program := "ytjpnbcfdnolcjab", sum := "71e05c3275e877ce626ffef5e9391f483a2263ca396d8b45f778c232facf1840", func := "loop.example/g01367/laws.FnExactOrdersApart", spec := "fnExactOrdersApart", inPlace := ["math.Float64bits", "math.Float32bits"], unfollowed := true, recurses := true, apart := false }
def FnExactOrdersApartSaid : Prop := fnExactOrdersApartRow.holds Try.pinned (OpenSpec.ofChange fnExactOrdersApartSpec)

/-- ITS FALSE NEIGHBOUR: 'it returns false'. Refute it at one input. -/
def fnExactOrdersApartWrong : ChangeSpec := { name := "fnExactOrdersApart", fn := fun _ => fun
  | [d] => { results := [.lit (.bool false)], args := [d] }
  | _ => none }
def FnExactOrdersApartWrongFalsely : Prop := fnExactOrdersApartRow.holds Try.pinned (OpenSpec.ofChange fnExactOrdersApartWrong)

/-- 'laws.FnExactGreatestOrder': WHATEVER THE INPUT: true; the input reads as it did. -/
def fnExactGreatestOrderSpec : ChangeSpec := { name := "fnExactGreatestOrder", fn := fun _ => fun
  | [d] => { results := [.lit (.bool true)], args := [d] }
  | _ => none }
def fnExactGreatestOrderRow : OpenClaim := { program := "ytjpnbcfdnolcjab", sum := "71e05c3275e877ce626ffef5e9391f483a2263ca396d8b45f778c232facf1840", func := "loop.example/g01367/laws.FnExactGreatestOrder", spec := "fnExactGreatestOrder", unfollowed := true, recurses := true, apart := false }
def FnExactGreatestOrderSaid : Prop := fnExactGreatestOrderRow.holds Try.pinned (OpenSpec.ofChange fnExactGreatestOrderSpec)

/-- ITS FALSE NEIGHBOUR: 'it returns false'. Refute it at one input. -/
def fnExactGreatestOrderWrong : ChangeSpec := { name := "fnExactGreatestOrder", fn := fun _ => fun
  | [d] => { results := [.lit (.bool false)], args := [d] }
  | _ => none }
def FnExactGreatestOrderWrongFalsely : Prop := fnExactGreatestOrderRow.holds Try.pinned (OpenSpec.ofChange fnExactGreatestOrderWrong)

/-- 'laws.FnExactSortList': WHATEVER THE INPUT: true; the input reads as it did. -/
def fnExactSortListSpec : ChangeSpec := { name := "fnExactSortList", fn := fun _ => fun
  | [d] => { results := [.lit (.bool true)], args := [d] }
  | _ => none }
def fnExactSortListRow : OpenClaim := { program := "ytjpnbcfdnolcjab", sum := "71e05c3275e877ce626ffef5e9391f483a2263ca396d8b45f778c232facf1840", func := "loop.example/g01367/laws.FnExactSortList", spec := "fnExactSortList", inPlace := ["math.Float64bits", "math.Float32bits"], unfollowed := true, recurses := true, apart := false }
def FnExactSortListSaid : Prop := fnExactSortListRow.holds Try.pinned (OpenSpec.ofChange fnExactSortListSpec)

/-- ITS FALSE NEIGHBOUR: 'it returns false'. Refute it at one input. -/
def fnExactSortListWrong : ChangeSpec := { name := "fnExactSortList", fn := fun _ => fun
  | [d] => { results := [.lit (.bool false)], args := [d] }
  | _ => none }
def FnExactSortListWrongFalsely : Prop := fnExactSortListRow.holds Try.pinned (OpenSpec.ofChange fnExactSortListWrong)

/-- 'laws.FnExactMedianOf': WHATEVER THE INPUT: true; the input reads as it did. -/
def fnExactMedianOfSpec : ChangeSpec := { name := "fnExactMedianOf", fn := fun _ => fun
  | [d] => { results := [.lit (.bool true)], args := [d] }
  | _ => none }
def fnExactMedianOfRow : OpenClaim := { program := "ytjpnbcfdnolcjab", sum := "71e05c3275e877ce626ffef5e9391f483a2263ca396d8b45f778c232facf1840", func := "loop.example/g01367/laws.FnExactMedianOf", spec := "fnExactMedianOf", inPlace := ["math.Float64bits", "math.Float32bits"], unfollowed := true, recurses := true, apart := false }
def FnExactMedianOfSaid : Prop := fnExactMedianOfRow.holds Try.pinned (OpenSpec.ofChange fnExactMedianOfSpec)

/-- ITS FALSE NEIGHBOUR: 'it returns false'. Refute it at one input. -/
def fnExactMedianOfWrong : ChangeSpec := { name := "fnExactMedianOf", fn := fun _ => fun
  | [d] => { results := [.lit (.bool false)], args := [d] }
  | _ => none }
def FnExactMedianOfWrongFalsely : Prop := fnExactMedianOfRow.holds Try.pinned (OpenSpec.ofChange fnExactMedianOfWrong)

/- THE SECOND FORM. 'bulk': how many values and letters a reading holds, each counted each time it is reached (what is shared counts as often as it is met; a slice's spare places count too). A statement '..UptoSaid' is the law's where the arguments, and the package variables that the reading takes, are together of bulk at most 1048576: NARROWER than '..Said'. Prove '..Said' where nothing that the law and all that it calls make is longer than what came in: it says more and counts as full. Else prove '..UptoSaid'. A law counts once. -/
mutual
def uptoBulk {H : Type} : DataW H → Nat
  | .lit (.string bytes) => bytes.length + 1
  | .lit _ => 1
  | .nil => 1
  | .ptr d => uptoBulk d + 1
  | .slice elems spare => uptoBulkAll elems + uptoBulkAll spare + 1
  | .agg parts => uptoBulkAll parts + 1
  | .iface _ d => uptoBulk d + 1
  | .map entries => uptoBulkEntries entries + 1
  | .held _ => 1
def uptoBulkAll {H : Type} : List (DataW H) → Nat
  | [] => 0
  | d :: r => uptoBulk d + uptoBulkAll r
def uptoBulkEntries {H : Type} : List (Lit × DataW H) → Nat
  | [] => 0
  | x :: r => uptoBulkEntry x + uptoBulkEntries r
def uptoBulkEntry {H : Type} : Lit × DataW H → Nat
  | (.string bytes, d) => bytes.length + uptoBulk d + 1
  | (_, d) => uptoBulk d + 1
 end
def uptoSmall : (H : Type) → List (DataW H) → Bool := fun _ ds => decide (uptoBulkAll ds ≤ 1048576)
def OpenSpec.upto (s : _root_.Go.ChangeSpec) : _root_.Go.OpenSpec := { _root_.Go.OpenSpec.ofChange s with cond := some uptoSmall }

/-- 'laws.FnExactSumLeft', WHERE WHAT IT READS IS OF BULK AT MOST 1048576: true; the input reads as it did. -/
def fnExactSumLeftUptoRow : OpenClaim := { program := "ytjpnbcfdnolcjab", sum := "71e05c3275e877ce626ffef5e9391f483a2263ca396d8b45f778c232facf1840", func := "loop.example/g01367/laws.FnExactSumLeft", spec := "fnExactSumLeft", inPlace := ["math.Float32bits"], unfollowed := true, recurses := true, apart := false, narrowed := true }
def FnExactSumLeftUptoSaid : Prop := fnExactSumLeftUptoRow.holds Try.pinned (OpenSpec.upto fnExactSumLeftSpec)

/-- 'laws.FnExactSumRight', WHERE WHAT IT READS IS OF BULK AT MOST 1048576: true; the input reads as it did. -/
def fnExactSumRightUptoRow : OpenClaim := { program := "ytjpnbcfdnolcjab", sum := "71e05c3275e877ce626ffef5e9391f483a2263ca396d8b45f778c232facf1840", func := "loop.example/g01367/laws.FnExactSumRight", spec := "fnExactSumRight", inPlace := ["math.Float32bits"], unfollowed := true, recurses := true, apart := false, narrowed := true }
def FnExactSumRightUptoSaid : Prop := fnExactSumRightUptoRow.holds Try.pinned (OpenSpec.upto fnExactSumRightSpec)

/-- 'laws.FnExactSumPairs', WHERE WHAT IT READS IS OF BULK AT MOST 1048576: true; the input reads as it did. -/
def fnExactSumPairsUptoRow : OpenClaim := { program := "ytjpnbcfdnolcjab", sum := "71e05c3275e877ce626ffef5e9391f483a2263ca396d8b45f778c232facf1840", func := "loop.example/g01367/laws.FnExactSumPairs", spec := "fnExactSumPairs", inPlace := ["math.Float32bits"], unfollowed := true, recurses := true, apart := false, narrowed := true }
def FnExactSumPairsUptoSaid : Prop := fnExactSumPairsUptoRow.holds Try.pinned (OpenSpec.upto fnExactSumPairsSpec)

/-- 'laws.FnExactSumKept', WHERE WHAT IT READS IS OF BULK AT MOST 1048576: true; the input reads as it did. -/
def fnExactSumKeptUptoRow : OpenClaim := { program := "ytjpnbcfdnolcjab", sum := "71e05c3275e877ce626ffef5e9391f483a2263ca396d8b45f778c232facf1840", func := "loop.example/g01367/laws.FnExactSumKept", spec := "fnExactSumKept", inPlace := ["math.Float32bits"], unfollowed := true, recurses := true, apart := false, narrowed := true }
def FnExactSumKeptUptoSaid : Prop := fnExactSumKeptUptoRow.holds Try.pinned (OpenSpec.upto fnExactSumKeptSpec)

/-- 'laws.FnExactSumWide', WHERE WHAT IT READS IS OF BULK AT MOST 1048576: true; the input reads as it did. -/
def fnExactSumWideUptoRow : OpenClaim := { program := "ytjpnbcfdnolcjab", sum := "71e05c3275e877ce626ffef5e9391f483a2263ca396d8b45f778c232facf1840", func := "loop.example/g01367/laws.FnExactSumWide", spec := "fnExactSumWide", inPlace := ["math.Float32bits"], unfollowed := true, recurses := true, apart := false, narrowed := true }
def FnExactSumWideUptoSaid : Prop := fnExactSumWideUptoRow.holds Try.pinned (OpenSpec.upto fnExactSumWideSpec)

/-- 'laws.FnExactSumSmall', WHERE WHAT IT READS IS OF BULK AT MOST 1048576: true; the input reads as it did. -/
def fnExactSumSmallUptoRow : OpenClaim := { program := "ytjpnbcfdnolcjab", sum := "71e05c3275e877ce626ffef5e9391f483a2263ca396d8b45f778c232facf1840", func := "loop.example/g01367/laws.FnExactSumSmall", spec := "fnExactSumSmall", inPlace := ["math.Float64bits", "math.Float32bits"], unfollowed := true, recurses := true, apart := false, narrowed := true }
def FnExactSumSmallUptoSaid : Prop := fnExactSumSmallUptoRow.holds Try.pinned (OpenSpec.upto fnExactSumSmallSpec)

/-- 'laws.FnExactOrdersApart', WHERE WHAT IT READS IS OF BULK AT MOST 1048576: true; the input reads as it did. -/
def fnExactOrdersApartUptoRow : OpenClaim := { program := "ytjpnbcfdnolcjab", sum := "71e05c3275e877ce626ffef5e9391f483a2263ca396d8b45f778c232facf1840", func := "loop.example/g01367/laws.FnExactOrdersApart", spec := "fnExactOrdersApart", inPlace := ["math.Float64bits", "math.Float32bits"], unfollowed := true, recurses := true, apart := false, narrowed := true }
def FnExactOrdersApartUptoSaid : Prop := fnExactOrdersApartUptoRow.holds Try.pinned (OpenSpec.upto fnExactOrdersApartSpec)

/-- 'laws.FnExactGreatestOrder', WHERE WHAT IT READS IS OF BULK AT MOST 1048576: true; the input reads as it did. -/
def fnExactGreatestOrderUptoRow : OpenClaim := { program := "ytjpnbcfdnolcjab", sum := "71e05c3275e877ce626ffef5e9391f483a2263ca396d8b45f778c232facf1840", func := "loop.example/g01367/laws.FnExactGreatestOrder", spec := "fnExactGreatestOrder", unfollowed := true, recurses := true, apart := false, narrowed := true }
def FnExactGreatestOrderUptoSaid : Prop := fnExactGreatestOrderUptoRow.holds Try.pinned (OpenSpec.upto fnExactGreatestOrderSpec)

/-- 'laws.FnExactSortList', WHERE WHAT IT READS IS OF BULK AT MOST 1048576: true; the input reads as it did. -/
def fnExactSortListUptoRow : OpenClaim := { program := "ytjpnbcfdnolcjab", sum := "71e05c3275e877ce626ffef5e9391f483a2263ca396d8b45f778c232facf1840", func := "loop.example/g01367/laws.FnExactSortList", spec := "fnExactSortList", inPlace := ["math.Float64bits", "math.Float32bits"], unfollowed := true, recurses := true, apart := false, narrowed := true }
def FnExactSortListUptoSaid : Prop := fnExactSortListUptoRow.holds Try.pinned (OpenSpec.upto fnExactSortListSpec)

/-- 'laws.FnExactMedianOf', WHERE WHAT IT READS IS OF BULK AT MOST 1048576: true; the input reads as it did. -/
def fnExactMedianOfUptoRow : OpenClaim := { program := "ytjpnbcfdnolcjab", sum := "71e05c3275e877ce626ffef5e9391f483a2263ca396d8b45f778c232facf1840", func := "loop.example/g01367/laws.FnExactMedianOf", spec := "fnExactMedianOf", inPlace := ["math.Float64bits", "math.Float32bits"], unfollowed := true, recurses := true, apart := false, narrowed := true }
def FnExactMedianOfUptoSaid : Prop := fnExactMedianOfUptoRow.holds Try.pinned (OpenSpec.upto fnExactMedianOfSpec)

end Rows
end Go.Proofs.Ytjpnbcfdnolcjab
