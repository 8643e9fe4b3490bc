/-
  No cell of these rows narrows 'for every input' (looked for: loops, veiled, ifaces, maps, wideKeys, modest, calm, conditions, laid).
  DERIVED. THE GIVEN ROWS OF THIS SEAT. 12 by the template 'for every input the law returns true; each argument reads behind the call as it read before'; 0 by the template 'total and deterministic' (their statements: YtjpnbcfdnolcjaaTotals.lean).
  GIVEN WITH THE SEED: the statements are not yours to turn. If you find one false, say at which input.
  Laid BY PROGRAM, IN A SANDBOX (cutbox-rows.mjs): the forced cells as the released guide's own fill.sh prints them over the translation dc611af2622930de… (all of the seat's roots in one cut). By AI agents, Wed Nov 11 2026. No macro, syntax, notation, axiom, sorry.
-/
import Derived.Test.YtjpnbcfdnolcjaaChecked
import GoSem.Claim
import GoSem.ClaimJoined
import GoSem.ClaimMapViews
import Derived.JoinedTies
import Derived.KernelRfl
namespace Go.Proofs.Ytjpnbcfdnolcjaa
/- THE CELL 'sum', in the pinned program and in every row, IS THE sha256 OF THE DUMP (.gsa) THAT YtjpnbcfdnolcjaaProg.lean LOADS. Nothing in Lean hashes anything: it is a label: what it is worth is what the hold of that sum in a sandbox is worth. -/
noncomputable def Try.pinned : Pinned := { name := "ytjpnbcfdnolcjaa", sum := "dc611af2622930dec9d2cf7cf7710e165db69e34fa0a35068e7f2f9ec41d352f", checked := Try.checked }
namespace Rows
def none {H : Type} : Left H := { results := [], args := [] }

/-- 'laws.FnExactValidList': WHATEVER THE INPUT: true; the input reads as it did. -/
def fnExactValidListSpec : ChangeSpec := { name := "fnExactValidList", fn := fun _ => fun
  | [d] => { results := [.lit (.bool true)], args := [d] }
  | _ => none }
def fnExactValidListRow : OpenClaim := { program := "ytjpnbcfdnolcjaa", sum := "dc611af2622930dec9d2cf7cf7710e165db69e34fa0a35068e7f2f9ec41d352f", func := "loop.example/g01367/laws.FnExactValidList", spec := "fnExactValidList", unfollowed := true, recurses := true, apart := false }
def FnExactValidListSaid : Prop := fnExactValidListRow.holds Try.pinned (OpenSpec.ofChange fnExactValidListSpec)

/-- ITS FALSE NEIGHBOUR: 'it returns false'. Refute it at one input. -/
def fnExactValidListWrong : ChangeSpec := { name := "fnExactValidList", fn := fun _ => fun
  | [d] => { results := [.lit (.bool false)], args := [d] }
  | _ => none }
def FnExactValidListWrongFalsely : Prop := fnExactValidListRow.holds Try.pinned (OpenSpec.ofChange fnExactValidListWrong)

/-- 'laws.FnExactSameList': WHATEVER THE INPUT: true; the input reads as it did. -/
def fnExactSameListSpec : ChangeSpec := { name := "fnExactSameList", fn := fun _ => fun
  | [d1, d2] => { results := [.lit (.bool true)], args := [d1, d2] }
  | _ => none }
def fnExactSameListRow : OpenClaim := { program := "ytjpnbcfdnolcjaa", sum := "dc611af2622930dec9d2cf7cf7710e165db69e34fa0a35068e7f2f9ec41d352f", func := "loop.example/g01367/laws.FnExactSameList", spec := "fnExactSameList", inPlace := ["math.Float32bits"], unfollowed := true, recurses := true, apart := false }
def FnExactSameListSaid : Prop := fnExactSameListRow.holds Try.pinned (OpenSpec.ofChange fnExactSameListSpec)

/-- ITS FALSE NEIGHBOUR: 'it returns false'. Refute it at one input. -/
def fnExactSameListWrong : ChangeSpec := { name := "fnExactSameList", fn := fun _ => fun
  | [d1, d2] => { results := [.lit (.bool false)], args := [d1, d2] }
  | _ => none }
def FnExactSameListWrongFalsely : Prop := fnExactSameListRow.holds Try.pinned (OpenSpec.ofChange fnExactSameListWrong)

/-- 'laws.FnExactStepsApart': WHATEVER THE INPUT: true; the input reads as it did. -/
def fnExactStepsApartSpec : ChangeSpec := { name := "fnExactStepsApart", fn := fun _ => fun
  | [d1, d2] => { results := [.lit (.bool true)], args := [d1, d2] }
  | _ => none }
def fnExactStepsApartRow : OpenClaim := { program := "ytjpnbcfdnolcjaa", sum := "dc611af2622930dec9d2cf7cf7710e165db69e34fa0a35068e7f2f9ec41d352f", func := "loop.example/g01367/laws.FnExactStepsApart", spec := "fnExactStepsApart", inPlace := ["math.Float32bits"], apart := false }
def FnExactStepsApartSaid : Prop := fnExactStepsApartRow.holds Try.pinned (OpenSpec.ofChange fnExactStepsApartSpec)

/-- ITS FALSE NEIGHBOUR: 'it returns false'. Refute it at one input. -/
def fnExactStepsApartWrong : ChangeSpec := { name := "fnExactStepsApart", fn := fun _ => fun
  | [d1, d2] => { results := [.lit (.bool false)], args := [d1, d2] }
  | _ => none }
def FnExactStepsApartWrongFalsely : Prop := fnExactStepsApartRow.holds Try.pinned (OpenSpec.ofChange fnExactStepsApartWrong)

/-- 'laws.FnExactStepFrom': WHATEVER THE INPUT: true; the input reads as it did. -/
def fnExactStepFromSpec : ChangeSpec := { name := "fnExactStepFrom", fn := fun _ => fun
  | [d1, d2] => { results := [.lit (.bool true)], args := [d1, d2] }
  | _ => none }
def fnExactStepFromRow : OpenClaim := { program := "ytjpnbcfdnolcjaa", sum := "dc611af2622930dec9d2cf7cf7710e165db69e34fa0a35068e7f2f9ec41d352f", func := "loop.example/g01367/laws.FnExactStepFrom", spec := "fnExactStepFrom", inPlace := ["math.Float32bits", "math.Float32frombits"], apart := false }
def FnExactStepFromSaid : Prop := fnExactStepFromRow.holds Try.pinned (OpenSpec.ofChange fnExactStepFromSpec)

/-- ITS FALSE NEIGHBOUR: 'it returns false'. Refute it at one input. -/
def fnExactStepFromWrong : ChangeSpec := { name := "fnExactStepFrom", fn := fun _ => fun
  | [d1, d2] => { results := [.lit (.bool false)], args := [d1, d2] }
  | _ => none }
def FnExactStepFromWrongFalsely : Prop := fnExactStepFromRow.holds Try.pinned (OpenSpec.ofChange fnExactStepFromWrong)

/-- 'laws.FnExactRunningSums': WHATEVER THE INPUT: true; the input reads as it did. -/
def fnExactRunningSumsSpec : ChangeSpec := { name := "fnExactRunningSums", fn := fun _ => fun
  | [d] => { results := [.lit (.bool true)], args := [d] }
  | _ => none }
def fnExactRunningSumsRow : OpenClaim := { program := "ytjpnbcfdnolcjaa", sum := "dc611af2622930dec9d2cf7cf7710e165db69e34fa0a35068e7f2f9ec41d352f", func := "loop.example/g01367/laws.FnExactRunningSums", spec := "fnExactRunningSums", unfollowed := true, recurses := true, apart := false }
def FnExactRunningSumsSaid : Prop := fnExactRunningSumsRow.holds Try.pinned (OpenSpec.ofChange fnExactRunningSumsSpec)

/-- ITS FALSE NEIGHBOUR: 'it returns false'. Refute it at one input. -/
def fnExactRunningSumsWrong : ChangeSpec := { name := "fnExactRunningSums", fn := fun _ => fun
  | [d] => { results := [.lit (.bool false)], args := [d] }
  | _ => none }
def FnExactRunningSumsWrongFalsely : Prop := fnExactRunningSumsRow.holds Try.pinned (OpenSpec.ofChange fnExactRunningSumsWrong)

/-- 'laws.FnExactMeanOf': WHATEVER THE INPUT: true; the input reads as it did. -/
def fnExactMeanOfSpec : ChangeSpec := { name := "fnExactMeanOf", fn := fun _ => fun
  | [d] => { results := [.lit (.bool true)], args := [d] }
  | _ => none }
def fnExactMeanOfRow : OpenClaim := { program := "ytjpnbcfdnolcjaa", sum := "dc611af2622930dec9d2cf7cf7710e165db69e34fa0a35068e7f2f9ec41d352f", func := "loop.example/g01367/laws.FnExactMeanOf", spec := "fnExactMeanOf", unfollowed := true, recurses := true, apart := false }
def FnExactMeanOfSaid : Prop := fnExactMeanOfRow.holds Try.pinned (OpenSpec.ofChange fnExactMeanOfSpec)

/-- ITS FALSE NEIGHBOUR: 'it returns false'. Refute it at one input. -/
def fnExactMeanOfWrong : ChangeSpec := { name := "fnExactMeanOf", fn := fun _ => fun
  | [d] => { results := [.lit (.bool false)], args := [d] }
  | _ => none }
def FnExactMeanOfWrongFalsely : Prop := fnExactMeanOfRow.holds Try.pinned (OpenSpec.ofChange fnExactMeanOfWrong)

/-- 'laws.FnExactSpreadOf': WHATEVER THE INPUT: true; the input reads as it did. -/
def fnExactSpreadOfSpec : ChangeSpec := { name := "fnExactSpreadOf", fn := fun _ => fun
  | [d] => { results := [.lit (.bool true)], args := [d] }
  | _ => none }
def fnExactSpreadOfRow : OpenClaim := { program := "ytjpnbcfdnolcjaa", sum := "dc611af2622930dec9d2cf7cf7710e165db69e34fa0a35068e7f2f9ec41d352f", func := "loop.example/g01367/laws.FnExactSpreadOf", spec := "fnExactSpreadOf", inPlace := ["math.Float64bits"], unfollowed := true, recurses := true, apart := false }
def FnExactSpreadOfSaid : Prop := fnExactSpreadOfRow.holds Try.pinned (OpenSpec.ofChange fnExactSpreadOfSpec)

/-- ITS FALSE NEIGHBOUR: 'it returns false'. Refute it at one input. -/
def fnExactSpreadOfWrong : ChangeSpec := { name := "fnExactSpreadOf", fn := fun _ => fun
  | [d] => { results := [.lit (.bool false)], args := [d] }
  | _ => none }
def FnExactSpreadOfWrongFalsely : Prop := fnExactSpreadOfRow.holds Try.pinned (OpenSpec.ofChange fnExactSpreadOfWrong)

/-- 'laws.FnExactSquareOff': WHATEVER THE INPUT: true; the input reads as it did. -/
def fnExactSquareOffSpec : ChangeSpec := { name := "fnExactSquareOff", fn := fun _ => fun
  | [d] => { results := [.lit (.bool true)], args := [d] }
  | _ => none }
def fnExactSquareOffRow : OpenClaim := { program := "ytjpnbcfdnolcjaa", sum := "dc611af2622930dec9d2cf7cf7710e165db69e34fa0a35068e7f2f9ec41d352f", func := "loop.example/g01367/laws.FnExactSquareOff", spec := "fnExactSquareOff", unfollowed := true, recurses := true, apart := false }
def FnExactSquareOffSaid : Prop := fnExactSquareOffRow.holds Try.pinned (OpenSpec.ofChange fnExactSquareOffSpec)

/-- ITS FALSE NEIGHBOUR: 'it returns false'. Refute it at one input. -/
def fnExactSquareOffWrong : ChangeSpec := { name := "fnExactSquareOff", fn := fun _ => fun
  | [d] => { results := [.lit (.bool false)], args := [d] }
  | _ => none }
def FnExactSquareOffWrongFalsely : Prop := fnExactSquareOffRow.holds Try.pinned (OpenSpec.ofChange fnExactSquareOffWrong)

/-- 'laws.FnExactDotOf': WHATEVER THE INPUT: true; the input reads as it did. -/
def fnExactDotOfSpec : ChangeSpec := { name := "fnExactDotOf", fn := fun _ => fun
  | [d1, d2] => { results := [.lit (.bool true)], args := [d1, d2] }
  | _ => none }
def fnExactDotOfRow : OpenClaim := { program := "ytjpnbcfdnolcjaa", sum := "dc611af2622930dec9d2cf7cf7710e165db69e34fa0a35068e7f2f9ec41d352f", func := "loop.example/g01367/laws.FnExactDotOf", spec := "fnExactDotOf", unfollowed := true, recurses := true, apart := false }
def FnExactDotOfSaid : Prop := fnExactDotOfRow.holds Try.pinned (OpenSpec.ofChange fnExactDotOfSpec)

/-- ITS FALSE NEIGHBOUR: 'it returns false'. Refute it at one input. -/
def fnExactDotOfWrong : ChangeSpec := { name := "fnExactDotOf", fn := fun _ => fun
  | [d1, d2] => { results := [.lit (.bool false)], args := [d1, d2] }
  | _ => none }
def FnExactDotOfWrongFalsely : Prop := fnExactDotOfRow.holds Try.pinned (OpenSpec.ofChange fnExactDotOfWrong)

/-- 'laws.FnExactMovingMeans': WHATEVER THE INPUT: true; the input reads as it did. -/
def fnExactMovingMeansSpec : ChangeSpec := { name := "fnExactMovingMeans", fn := fun _ => fun
  | [d1, d2] => { results := [.lit (.bool true)], args := [d1, d2] }
  | _ => none }
def fnExactMovingMeansRow : OpenClaim := { program := "ytjpnbcfdnolcjaa", sum := "dc611af2622930dec9d2cf7cf7710e165db69e34fa0a35068e7f2f9ec41d352f", func := "loop.example/g01367/laws.FnExactMovingMeans", spec := "fnExactMovingMeans", unfollowed := true, recurses := true, apart := false }
def FnExactMovingMeansSaid : Prop := fnExactMovingMeansRow.holds Try.pinned (OpenSpec.ofChange fnExactMovingMeansSpec)

/-- ITS FALSE NEIGHBOUR: 'it returns false'. Refute it at one input. -/
def fnExactMovingMeansWrong : ChangeSpec := { name := "fnExactMovingMeans", fn := fun _ => fun
  | [d1, d2] => { results := [.lit (.bool false)], args := [d1, d2] }
  | _ => none }
def FnExactMovingMeansWrongFalsely : Prop := fnExactMovingMeansRow.holds Try.pinned (OpenSpec.ofChange fnExactMovingMeansWrong)

/-- 'laws.FnExactPackAbove': WHATEVER THE INPUT: true; the input reads as it did. -/
def fnExactPackAboveSpec : ChangeSpec := { name := "fnExactPackAbove", fn := fun _ => fun
  | [d1, d2] => { results := [.lit (.bool true)], args := [d1, d2] }
  | _ => none }
def fnExactPackAboveRow : OpenClaim := { program := "ytjpnbcfdnolcjaa", sum := "dc611af2622930dec9d2cf7cf7710e165db69e34fa0a35068e7f2f9ec41d352f", func := "loop.example/g01367/laws.FnExactPackAbove", spec := "fnExactPackAbove", unfollowed := true, recurses := true, apart := false }
def FnExactPackAboveSaid : Prop := fnExactPackAboveRow.holds Try.pinned (OpenSpec.ofChange fnExactPackAboveSpec)

/-- ITS FALSE NEIGHBOUR: 'it returns false'. Refute it at one input. -/
def fnExactPackAboveWrong : ChangeSpec := { name := "fnExactPackAbove", fn := fun _ => fun
  | [d1, d2] => { results := [.lit (.bool false)], args := [d1, d2] }
  | _ => none }
def FnExactPackAboveWrongFalsely : Prop := fnExactPackAboveRow.holds Try.pinned (OpenSpec.ofChange fnExactPackAboveWrong)

/-- 'laws.FnExactCountBins': WHATEVER THE INPUT: true; the input reads as it did. -/
def fnExactCountBinsSpec : ChangeSpec := { name := "fnExactCountBins", fn := fun _ => fun
  | [d1, d2] => { results := [.lit (.bool true)], args := [d1, d2] }
  | _ => none }
def fnExactCountBinsRow : OpenClaim := { program := "ytjpnbcfdnolcjaa", sum := "dc611af2622930dec9d2cf7cf7710e165db69e34fa0a35068e7f2f9ec41d352f", func := "loop.example/g01367/laws.FnExactCountBins", spec := "fnExactCountBins", unfollowed := true, recurses := true, apart := false }
def FnExactCountBinsSaid : Prop := fnExactCountBinsRow.holds Try.pinned (OpenSpec.ofChange fnExactCountBinsSpec)

/-- ITS FALSE NEIGHBOUR: 'it returns false'. Refute it at one input. -/
def fnExactCountBinsWrong : ChangeSpec := { name := "fnExactCountBins", fn := fun _ => fun
  | [d1, d2] => { results := [.lit (.bool false)], args := [d1, d2] }
  | _ => none }
def FnExactCountBinsWrongFalsely : Prop := fnExactCountBinsRow.holds Try.pinned (OpenSpec.ofChange fnExactCountBinsWrong)

/- THE SECOND FORM. 'bulk': how many values and letters a reading holds, each counted each time it is reached (what is shared counts as often as it is met; a slice's spare places count too). A statement '..UptoSaid' is the law's where the arguments, and the package variables that the reading takes, are together of bulk at most 1048576: NARROWER than '..Said'. Prove '..Said' where nothing that the law and all that it calls make is longer than what came in: it says more and counts as full. Else prove '..UptoSaid'. A law counts once. -/
mutual
def uptoBulk {H : Type} : DataW H → Nat
  | .lit (.string bytes) => bytes.length + 1
  | .lit _ => 1
  | .nil => 1
  | .ptr d => uptoBulk d + 1
  | .slice elems spare => uptoBulkAll elems + uptoBulkAll spare + 1
  | .agg parts => uptoBulkAll parts + 1
  | .iface _ d => uptoBulk d + 1
  | .map entries => uptoBulkEntries entries + 1
  | .held _ => 1
def uptoBulkAll {H : Type} : List (DataW H) → Nat
  | [] => 0
  | d :: r => uptoBulk d + uptoBulkAll r
def uptoBulkEntries {H : Type} : List (Lit × DataW H) → Nat
  | [] => 0
  | x :: r => uptoBulkEntry x + uptoBulkEntries r
def uptoBulkEntry {H : Type} : Lit × DataW H → Nat
  | (.string bytes, d) => bytes.length + uptoBulk d + 1
  | (_, d) => uptoBulk d + 1
 end
def uptoSmall : (H : Type) → List (DataW H) → Bool := fun _ ds => decide (uptoBulkAll ds ≤ 1048576)
def OpenSpec.upto (s : _root_.Go.ChangeSpec) : _root_.Go.OpenSpec := { _root_.Go.OpenSpec.ofChange s with cond := some uptoSmall }

/-- 'laws.FnExactValidList', WHERE WHAT IT READS IS OF BULK AT MOST 1048576: true; the input reads as it did. -/
def fnExactValidListUptoRow : OpenClaim := { program := "ytjpnbcfdnolcjaa", sum := "dc611af2622930dec9d2cf7cf7710e165db69e34fa0a35068e7f2f9ec41d352f", func := "loop.example/g01367/laws.FnExactValidList", spec := "fnExactValidList", unfollowed := true, recurses := true, apart := false, narrowed := true }
def FnExactValidListUptoSaid : Prop := fnExactValidListUptoRow.holds Try.pinned (OpenSpec.upto fnExactValidListSpec)

/-- 'laws.FnExactSameList', WHERE WHAT IT READS IS OF BULK AT MOST 1048576: true; the input reads as it did. -/
def fnExactSameListUptoRow : OpenClaim := { program := "ytjpnbcfdnolcjaa", sum := "dc611af2622930dec9d2cf7cf7710e165db69e34fa0a35068e7f2f9ec41d352f", func := "loop.example/g01367/laws.FnExactSameList", spec := "fnExactSameList", inPlace := ["math.Float32bits"], unfollowed := true, recurses := true, apart := false, narrowed := true }
def FnExactSameListUptoSaid : Prop := fnExactSameListUptoRow.holds Try.pinned (OpenSpec.upto fnExactSameListSpec)

/-- 'laws.FnExactStepsApart', WHERE WHAT IT READS IS OF BULK AT MOST 1048576: true; the input reads as it did. -/
def fnExactStepsApartUptoRow : OpenClaim := { program := "ytjpnbcfdnolcjaa", sum := "dc611af2622930dec9d2cf7cf7710e165db69e34fa0a35068e7f2f9ec41d352f", func := "loop.example/g01367/laws.FnExactStepsApart", spec := "fnExactStepsApart", inPlace := ["math.Float32bits"], apart := false, narrowed := true }
def FnExactStepsApartUptoSaid : Prop := fnExactStepsApartUptoRow.holds Try.pinned (OpenSpec.upto fnExactStepsApartSpec)

/-- 'laws.FnExactStepFrom', WHERE WHAT IT READS IS OF BULK AT MOST 1048576: true; the input reads as it did. -/
def fnExactStepFromUptoRow : OpenClaim := { program := "ytjpnbcfdnolcjaa", sum := "dc611af2622930dec9d2cf7cf7710e165db69e34fa0a35068e7f2f9ec41d352f", func := "loop.example/g01367/laws.FnExactStepFrom", spec := "fnExactStepFrom", inPlace := ["math.Float32bits", "math.Float32frombits"], apart := false, narrowed := true }
def FnExactStepFromUptoSaid : Prop := fnExactStepFromUptoRow.holds Try.pinned (OpenSpec.upto fnExactStepFromSpec)

/-- 'laws.FnExactRunningSums', WHERE WHAT IT READS IS OF BULK AT MOST 1048576: true; the input reads as it did. -/
def fnExactRunningSumsUptoRow : OpenClaim := { program := "ytjpnbcfdnolcjaa", sum := "dc611af2622930dec9d2cf7cf7710e165db69e34fa0a35068e7f2f9ec41d352f", func := "loop.example/g01367/laws.FnExactRunningSums", spec := "fnExactRunningSums", unfollowed := true, recurses := true, apart := false, narrowed := true }
def FnExactRunningSumsUptoSaid : Prop := fnExactRunningSumsUptoRow.holds Try.pinned (OpenSpec.upto fnExactRunningSumsSpec)

/-- 'laws.FnExactMeanOf', WHERE WHAT IT READS IS OF BULK AT MOST 1048576: true; the input reads as it did. -/
def fnExactMeanOfUptoRow : OpenClaim := { program := "ytjpnbcfdnolcjaa", sum := "dc611af2622930dec9d2cf7cf7710e165db69e34fa0a35068e7f2f9ec41d352f", func := "loop.example/g01367/laws.FnExactMeanOf", spec := "fnExactMeanOf", unfollowed := true, recurses := true, apart := false, narrowed := true }
def FnExactMeanOfUptoSaid : Prop := fnExactMeanOfUptoRow.holds Try.pinned (OpenSpec.upto fnExactMeanOfSpec)

/-- 'laws.FnExactSpreadOf', WHERE WHAT IT READS IS OF BULK AT MOST 1048576: true; the input reads as it did. -/
def fnExactSpreadOfUptoRow : OpenClaim := { program := "ytjpnbcfdnolcjaa", sum := "dc611af2622930dec9d2cf7cf7710e165db69e34fa0a35068e7f2f9ec41d352f", func := "loop.example/g01367/laws.FnExactSpreadOf", spec := "fnExactSpreadOf", inPlace := ["math.Float64bits"], unfollowed := true, recurses := true, apart := false, narrowed := true }
def FnExactSpreadOfUptoSaid : Prop := fnExactSpreadOfUptoRow.holds Try.pinned (OpenSpec.upto fnExactSpreadOfSpec)

/-- 'laws.FnExactSquareOff', WHERE WHAT IT READS IS OF BULK AT MOST 1048576: true; the input reads as it did. -/
def fnExactSquareOffUptoRow : OpenClaim := { program := "ytjpnbcfdnolcjaa", sum := "dc611af2622930dec9d2cf7cf7710e165db69e34fa0a35068e7f2f9ec41d352f", func := "loop.example/g01367/laws.FnExactSquareOff", spec := "fnExactSquareOff", unfollowed := true, recurses := true, apart := false, narrowed := true }
def FnExactSquareOffUptoSaid : Prop := fnExactSquareOffUptoRow.holds Try.pinned (OpenSpec.upto fnExactSquareOffSpec)

/-- 'laws.FnExactDotOf', WHERE WHAT IT READS IS OF BULK AT MOST 1048576: true; the input reads as it did. -/
def fnExactDotOfUptoRow : OpenClaim := { program := "ytjpnbcfdnolcjaa", sum := "dc611af2622930dec9d2cf7cf7710e165db69e34fa0a35068e7f2f9ec41d352f", func := "loop.example/g01367/laws.FnExactDotOf", spec := "fnExactDotOf", unfollowed := true, recurses := true, apart := false, narrowed := true }
def FnExactDotOfUptoSaid : Prop := fnExactDotOfUptoRow.holds Try.pinned (OpenSpec.upto fnExactDotOfSpec)

/-- 'laws.FnExactMovingMeans', WHERE WHAT IT READS IS OF BULK AT MOST 1048576: true; the input reads as it did. -/
def fnExactMovingMeansUptoRow : OpenClaim := { program := "ytjpnbcfdnolcjaa", sum := "dc611af2622930dec9d2cf7cf7710e165db69e34fa0a35068e7f2f9ec41d352f", func := "loop.example/g01367/laws.FnExactMovingMeans", spec := "fnExactMovingMeans", unfollowed := true, recurses := true, apart := false, narrowed := true }
def FnExactMovingMeansUptoSaid : Prop := fnExactMovingMeansUptoRow.holds Try.pinned (OpenSpec.upto fnExactMovingMeansSpec)

/-- 'laws.FnExactPackAbove', WHERE WHAT IT READS IS OF BULK AT MOST 1048576: true; the input reads as it did. -/
def fnExactPackAboveUptoRow : OpenClaim := { program := "ytjpnbcfdnolcjaa", sum := "dc611af2622930dec9d2cf7cf7710e165db69e34fa0a35068e7f2f9ec41d352f", func := "loop.example/g01367/laws.FnExactPackAbove", spec := "fnExactPackAbove", unfollowed := true, recurses := true, apart := false, narrowed := true }
def FnExactPackAboveUptoSaid : Prop := fnExactPackAboveUptoRow.holds Try.pinned (OpenSpec.upto fnExactPackAboveSpec)

/-- 'laws.FnExactCountBins', WHERE WHAT IT READS IS OF BULK AT MOST 1048576: true; the input reads as it did. -/
def fnExactCountBinsUptoRow : OpenClaim := { program := "ytjpnbcfdnolcjaa", sum := "dc611af2622930dec9d2cf7cf7710e165db69e34fa0a35068e7f2f9ec41d352f", func := "loop.example/g01367/laws.FnExactCountBins", spec := "fnExactCountBins", unfollowed := true, recurses := true, apart := false, narrowed := true }
def FnExactCountBinsUptoSaid : Prop := fnExactCountBinsUptoRow.holds Try.pinned (OpenSpec.upto fnExactCountBinsSpec)

end Rows
end Go.Proofs.Ytjpnbcfdnolcjaa
