/-
  NARROWER THAN 'FOR EVERY INPUT', by the rows' own cells (each row's printed sentence says how): FnExactBrightest: ifaces, laid · FnExactLitTiles: ifaces, laid · FnExactLeastGlare: ifaces, laid · FnExactGlareBits: ifaces, laid · FnExactDimWindow: ifaces, laid · FnExactLitBy: ifaces, laid · FnExactMirrorRoom: ifaces, laid · FnExactBestAwning: ifaces, laid.
  DERIVED. THE GIVEN ROWS OF THIS SEAT. 8 by the template 'for every input the law returns true; each argument reads behind the call as it read before'; 0 by the template 'total and deterministic' (their statements: YtdccmdcgbembpaaDoorTotals.lean).
  GIVEN WITH THE SEED: the statements are not yours to turn. If you find one false, say at which input.
  Laid BY PROGRAM, IN A SANDBOX (cutbox-rows.mjs): the forced cells as the released guide's own fill.sh prints them over the translation 21c13f55352ee7a9… (all of the seat's roots in one cut). By AI agents, Wed Nov 11 2026. No macro, syntax, notation, axiom, sorry.
-/
import Derived.Test.YtdccmdcgbembpaaDoorChecked
import GoSem.Claim
import GoSem.ClaimJoined
import GoSem.ClaimMapViews
import Derived.JoinedTies
import Derived.KernelRfl
namespace Go.Proofs.YtdccmdcgbembpaaDoor
/- THE CELL 'sum', in the pinned program and in every row, IS THE sha256 OF THE DUMP (.gsa) THAT YtdccmdcgbembpaaDoorProg.lean LOADS. Nothing in Lean hashes anything: it is a label: what it is worth is what the hold of that sum in a sandbox is worth. -/
noncomputable def Tryd.pinned : Pinned := { name := "ytdccmdcgbembpaadoor", sum := "21c13f55352ee7a966a60dcef225a07fe67e5aebbb25b9d3eb95c2c69beacb9a", checked := Tryd.checked }
namespace Rows
def none {H : Type} : Left H := { results := [], args := [] }

/- WHAT THE LISTED PACKAGE-LEVEL VARIABLES READ AS WHEN THE CALL BEGINS. Each datum BY PROGRAM (the guide's laid-datum.mjs) off the statement by which the dump's own 'gosem.cut.vars' lays the variable. In a bare row this is a premise. The card (YtdccmdcgbembpaaDoorCards.lean) ties it to the program's text. -/
def laid_loop_example_g01367_impl_errInvalid {H : Type} : DataW H := .iface "*errors.errorString" (.ptr (.agg [.lit (.string [97, 110, 32, 97, 114, 103, 117, 109, 101, 110, 116, 32, 105, 115, 32, 110, 111, 116, 32, 118, 97, 108, 105, 100])]))
def laid_loop_example_g01367_impl_errRange {H : Type} : DataW H := .iface "*errors.errorString" (.ptr (.agg [.lit (.string [97, 110, 32, 97, 114, 103, 117, 109, 101, 110, 116, 32, 105, 115, 32, 111, 117, 116, 32, 111, 102, 32, 105, 116, 115, 32, 114, 97, 110, 103, 101])]))
def laid_loop_example_g01367_impl_errLimit {H : Type} : DataW H := .iface "*errors.errorString" (.ptr (.agg [.lit (.string [116, 104, 101, 114, 101, 32, 97, 114, 101, 32, 116, 111, 111, 32, 109, 97, 110, 121])]))
def laid_loop_example_g01367_impl_errNotFound {H : Type} : DataW H := .iface "*errors.errorString" (.ptr (.agg [.lit (.string [116, 104, 101, 114, 101, 32, 105, 115, 32, 110, 111, 110, 101])]))

/-- 'laws.FnExactBrightest': WHATEVER THE INPUT: true; the input reads as it did. -/
def fnExactBrightestSpec : ChangeSpec := { name := "fnExactBrightest", vars := ["loop.example/g01367/impl.errInvalid", "loop.example/g01367/impl.errRange", "loop.example/g01367/impl.errLimit", "loop.example/g01367/impl.errNotFound"], fn := fun _ => fun
  | [d, g1, g2, g3, g4] => { results := [.lit (.bool true)], args := [d], vars := [g1, g2, g3, g4] }
  | _ => none }
def fnExactBrightestRow : OpenClaim := { program := "ytdccmdcgbembpaadoor", sum := "21c13f55352ee7a966a60dcef225a07fe67e5aebbb25b9d3eb95c2c69beacb9a", func := "loop.example/g01367/laws.FnExactBrightest", spec := "fnExactBrightest", inPlace := ["internal/reflectlite.TypeOf", "math.Float32bits"], unfollowed := true, recurses := true, named := ["loop.example/g01367/impl.errInvalid", "loop.example/g01367/impl.errRange", "loop.example/g01367/impl.errLimit", "loop.example/g01367/impl.errNotFound"], ifaces := true, apart := false, laid := [("loop.example/g01367/impl.errInvalid", laid_loop_example_g01367_impl_errInvalid), ("loop.example/g01367/impl.errRange", laid_loop_example_g01367_impl_errRange), ("loop.example/g01367/impl.errLimit", laid_loop_example_g01367_impl_errLimit), ("loop.example/g01367/impl.errNotFound", laid_loop_example_g01367_impl_errNotFound)] }
def FnExactBrightestSaid : Prop := fnExactBrightestRow.holds Tryd.pinned (OpenSpec.ofChange fnExactBrightestSpec)

/-- ITS FALSE NEIGHBOUR: 'it returns false'. Refute it at one input. -/
def fnExactBrightestWrong : ChangeSpec := { name := "fnExactBrightest", vars := ["loop.example/g01367/impl.errInvalid", "loop.example/g01367/impl.errRange", "loop.example/g01367/impl.errLimit", "loop.example/g01367/impl.errNotFound"], fn := fun _ => fun
  | [d, g1, g2, g3, g4] => { results := [.lit (.bool false)], args := [d], vars := [g1, g2, g3, g4] }
  | _ => none }
def FnExactBrightestWrongFalsely : Prop := fnExactBrightestRow.holds Tryd.pinned (OpenSpec.ofChange fnExactBrightestWrong)

/-- 'laws.FnExactLitTiles': WHATEVER THE INPUT: true; the input reads as it did. -/
def fnExactLitTilesSpec : ChangeSpec := { name := "fnExactLitTiles", vars := ["loop.example/g01367/impl.errInvalid", "loop.example/g01367/impl.errRange", "loop.example/g01367/impl.errLimit", "loop.example/g01367/impl.errNotFound"], fn := fun _ => fun
  | [d1, d2, g1, g2, g3, g4] => { results := [.lit (.bool true)], args := [d1, d2], vars := [g1, g2, g3, g4] }
  | _ => none }
def fnExactLitTilesRow : OpenClaim := { program := "ytdccmdcgbembpaadoor", sum := "21c13f55352ee7a966a60dcef225a07fe67e5aebbb25b9d3eb95c2c69beacb9a", func := "loop.example/g01367/laws.FnExactLitTiles", spec := "fnExactLitTiles", inPlace := ["internal/reflectlite.TypeOf"], unfollowed := true, recurses := true, named := ["loop.example/g01367/impl.errInvalid", "loop.example/g01367/impl.errRange", "loop.example/g01367/impl.errLimit", "loop.example/g01367/impl.errNotFound"], ifaces := true, apart := false, laid := [("loop.example/g01367/impl.errInvalid", laid_loop_example_g01367_impl_errInvalid), ("loop.example/g01367/impl.errRange", laid_loop_example_g01367_impl_errRange), ("loop.example/g01367/impl.errLimit", laid_loop_example_g01367_impl_errLimit), ("loop.example/g01367/impl.errNotFound", laid_loop_example_g01367_impl_errNotFound)] }
def FnExactLitTilesSaid : Prop := fnExactLitTilesRow.holds Tryd.pinned (OpenSpec.ofChange fnExactLitTilesSpec)

/-- ITS FALSE NEIGHBOUR: 'it returns false'. Refute it at one input. -/
def fnExactLitTilesWrong : ChangeSpec := { name := "fnExactLitTiles", vars := ["loop.example/g01367/impl.errInvalid", "loop.example/g01367/impl.errRange", "loop.example/g01367/impl.errLimit", "loop.example/g01367/impl.errNotFound"], fn := fun _ => fun
  | [d1, d2, g1, g2, g3, g4] => { results := [.lit (.bool false)], args := [d1, d2], vars := [g1, g2, g3, g4] }
  | _ => none }
def FnExactLitTilesWrongFalsely : Prop := fnExactLitTilesRow.holds Tryd.pinned (OpenSpec.ofChange fnExactLitTilesWrong)

/-- 'laws.FnExactLeastGlare': WHATEVER THE INPUT: true; the input reads as it did. -/
def fnExactLeastGlareSpec : ChangeSpec := { name := "fnExactLeastGlare", vars := ["loop.example/g01367/impl.errInvalid", "loop.example/g01367/impl.errRange", "loop.example/g01367/impl.errLimit", "loop.example/g01367/impl.errNotFound"], fn := fun _ => fun
  | [d1, d2, g1, g2, g3, g4] => { results := [.lit (.bool true)], args := [d1, d2], vars := [g1, g2, g3, g4] }
  | _ => none }
def fnExactLeastGlareRow : OpenClaim := { program := "ytdccmdcgbembpaadoor", sum := "21c13f55352ee7a966a60dcef225a07fe67e5aebbb25b9d3eb95c2c69beacb9a", func := "loop.example/g01367/laws.FnExactLeastGlare", spec := "fnExactLeastGlare", inPlace := ["internal/reflectlite.TypeOf"], unfollowed := true, recurses := true, named := ["loop.example/g01367/impl.errInvalid", "loop.example/g01367/impl.errRange", "loop.example/g01367/impl.errLimit", "loop.example/g01367/impl.errNotFound"], ifaces := true, apart := false, laid := [("loop.example/g01367/impl.errInvalid", laid_loop_example_g01367_impl_errInvalid), ("loop.example/g01367/impl.errRange", laid_loop_example_g01367_impl_errRange), ("loop.example/g01367/impl.errLimit", laid_loop_example_g01367_impl_errLimit), ("loop.example/g01367/impl.errNotFound", laid_loop_example_g01367_impl_errNotFound)] }
def FnExactLeastGlareSaid : Prop := fnExactLeastGlareRow.holds Tryd.pinned (OpenSpec.ofChange fnExactLeastGlareSpec)

/-- ITS FALSE NEIGHBOUR: 'it returns false'. Refute it at one input. -/
def fnExactLeastGlareWrong : ChangeSpec := { name := "fnExactLeastGlare", vars := ["loop.example/g01367/impl.errInvalid", "loop.example/g01367/impl.errRange", "loop.example/g01367/impl.errLimit", "loop.example/g01367/impl.errNotFound"], fn := fun _ => fun
  | [d1, d2, g1, g2, g3, g4] => { results := [.lit (.bool false)], args := [d1, d2], vars := [g1, g2, g3, g4] }
  | _ => none }
def FnExactLeastGlareWrongFalsely : Prop := fnExactLeastGlareRow.holds Tryd.pinned (OpenSpec.ofChange fnExactLeastGlareWrong)

/-- 'laws.FnExactGlareBits': WHATEVER THE INPUT: true; the input reads as it did. -/
def fnExactGlareBitsSpec : ChangeSpec := { name := "fnExactGlareBits", vars := ["loop.example/g01367/impl.errInvalid", "loop.example/g01367/impl.errRange", "loop.example/g01367/impl.errLimit", "loop.example/g01367/impl.errNotFound"], fn := fun _ => fun
  | [d1, d2, d3, g1, g2, g3, g4] => { results := [.lit (.bool true)], args := [d1, d2, d3], vars := [g1, g2, g3, g4] }
  | _ => none }
def fnExactGlareBitsRow : OpenClaim := { program := "ytdccmdcgbembpaadoor", sum := "21c13f55352ee7a966a60dcef225a07fe67e5aebbb25b9d3eb95c2c69beacb9a", func := "loop.example/g01367/laws.FnExactGlareBits", spec := "fnExactGlareBits", inPlace := ["internal/reflectlite.TypeOf"], unfollowed := true, recurses := true, named := ["loop.example/g01367/impl.errInvalid", "loop.example/g01367/impl.errRange", "loop.example/g01367/impl.errLimit", "loop.example/g01367/impl.errNotFound"], ifaces := true, apart := false, laid := [("loop.example/g01367/impl.errInvalid", laid_loop_example_g01367_impl_errInvalid), ("loop.example/g01367/impl.errRange", laid_loop_example_g01367_impl_errRange), ("loop.example/g01367/impl.errLimit", laid_loop_example_g01367_impl_errLimit), ("loop.example/g01367/impl.errNotFound", laid_loop_example_g01367_impl_errNotFound)] }
def FnExactGlareBitsSaid : Prop := fnExactGlareBitsRow.holds Tryd.pinned (OpenSpec.ofChange fnExactGlareBitsSpec)

/-- ITS FALSE NEIGHBOUR: 'it returns false'. Refute it at one input. -/
def fnExactGlareBitsWrong : ChangeSpec := { name := "fnExactGlareBits", vars := ["loop.example/g01367/impl.errInvalid", "loop.example/g01367/impl.errRange", "loop.example/g01367/impl.errLimit", "loop.example/g01367/impl.errNotFound"], fn := fun _ => fun
  | [d1, d2, d3, g1, g2, g3, g4] => { results := [.lit (.bool false)], args := [d1, d2, d3], vars := [g1, g2, g3, g4] }
  | _ => none }
def FnExactGlareBitsWrongFalsely : Prop := fnExactGlareBitsRow.holds Tryd.pinned (OpenSpec.ofChange fnExactGlareBitsWrong)

/-- 'laws.FnExactDimWindow': WHATEVER THE INPUT: true; the input reads as it did. -/
def fnExactDimWindowSpec : ChangeSpec := { name := "fnExactDimWindow", vars := ["loop.example/g01367/impl.errInvalid", "loop.example/g01367/impl.errRange", "loop.example/g01367/impl.errLimit", "loop.example/g01367/impl.errNotFound"], fn := fun _ => fun
  | [d1, d2, d3, g1, g2, g3, g4] => { results := [.lit (.bool true)], args := [d1, d2, d3], vars := [g1, g2, g3, g4] }
  | _ => none }
def fnExactDimWindowRow : OpenClaim := { program := "ytdccmdcgbembpaadoor", sum := "21c13f55352ee7a966a60dcef225a07fe67e5aebbb25b9d3eb95c2c69beacb9a", func := "loop.example/g01367/laws.FnExactDimWindow", spec := "fnExactDimWindow", inPlace := ["internal/reflectlite.TypeOf"], unfollowed := true, recurses := true, named := ["loop.example/g01367/impl.errInvalid", "loop.example/g01367/impl.errRange", "loop.example/g01367/impl.errLimit", "loop.example/g01367/impl.errNotFound"], ifaces := true, apart := false, laid := [("loop.example/g01367/impl.errInvalid", laid_loop_example_g01367_impl_errInvalid), ("loop.example/g01367/impl.errRange", laid_loop_example_g01367_impl_errRange), ("loop.example/g01367/impl.errLimit", laid_loop_example_g01367_impl_errLimit), ("loop.example/g01367/impl.errNotFound", laid_loop_example_g01367_impl_errNotFound)] }
def FnExactDimWindowSaid : Prop := fnExactDimWindowRow.holds Tryd.pinned (OpenSpec.ofChange fnExactDimWindowSpec)

/-- ITS FALSE NEIGHBOUR: 'it returns false'. Refute it at one input. -/
def fnExactDimWindowWrong : ChangeSpec := { name := "fnExactDimWindow", vars := ["loop.example/g01367/impl.errInvalid", "loop.example/g01367/impl.errRange", "loop.example/g01367/impl.errLimit", "loop.example/g01367/impl.errNotFound"], fn := fun _ => fun
  | [d1, d2, d3, g1, g2, g3, g4] => { results := [.lit (.bool false)], args := [d1, d2, d3], vars := [g1, g2, g3, g4] }
  | _ => none }
def FnExactDimWindowWrongFalsely : Prop := fnExactDimWindowRow.holds Tryd.pinned (OpenSpec.ofChange fnExactDimWindowWrong)

/-- 'laws.FnExactLitBy': WHATEVER THE INPUT: true; the input reads as it did. -/
def fnExactLitBySpec : ChangeSpec := { name := "fnExactLitBy", vars := ["loop.example/g01367/impl.errInvalid", "loop.example/g01367/impl.errRange", "loop.example/g01367/impl.errLimit", "loop.example/g01367/impl.errNotFound"], fn := fun _ => fun
  | [d1, d2, d3, d4, g1, g2, g3, g4] => { results := [.lit (.bool true)], args := [d1, d2, d3, d4], vars := [g1, g2, g3, g4] }
  | _ => none }
def fnExactLitByRow : OpenClaim := { program := "ytdccmdcgbembpaadoor", sum := "21c13f55352ee7a966a60dcef225a07fe67e5aebbb25b9d3eb95c2c69beacb9a", func := "loop.example/g01367/laws.FnExactLitBy", spec := "fnExactLitBy", inPlace := ["internal/reflectlite.TypeOf"], unfollowed := true, recurses := true, named := ["loop.example/g01367/impl.errInvalid", "loop.example/g01367/impl.errRange", "loop.example/g01367/impl.errLimit", "loop.example/g01367/impl.errNotFound"], ifaces := true, apart := false, laid := [("loop.example/g01367/impl.errInvalid", laid_loop_example_g01367_impl_errInvalid), ("loop.example/g01367/impl.errRange", laid_loop_example_g01367_impl_errRange), ("loop.example/g01367/impl.errLimit", laid_loop_example_g01367_impl_errLimit), ("loop.example/g01367/impl.errNotFound", laid_loop_example_g01367_impl_errNotFound)] }
def FnExactLitBySaid : Prop := fnExactLitByRow.holds Tryd.pinned (OpenSpec.ofChange fnExactLitBySpec)

/-- ITS FALSE NEIGHBOUR: 'it returns false'. Refute it at one input. -/
def fnExactLitByWrong : ChangeSpec := { name := "fnExactLitBy", vars := ["loop.example/g01367/impl.errInvalid", "loop.example/g01367/impl.errRange", "loop.example/g01367/impl.errLimit", "loop.example/g01367/impl.errNotFound"], fn := fun _ => fun
  | [d1, d2, d3, d4, g1, g2, g3, g4] => { results := [.lit (.bool false)], args := [d1, d2, d3, d4], vars := [g1, g2, g3, g4] }
  | _ => none }
def FnExactLitByWrongFalsely : Prop := fnExactLitByRow.holds Tryd.pinned (OpenSpec.ofChange fnExactLitByWrong)

/-- 'laws.FnExactMirrorRoom': WHATEVER THE INPUT: true; the input reads as it did. -/
def fnExactMirrorRoomSpec : ChangeSpec := { name := "fnExactMirrorRoom", vars := ["loop.example/g01367/impl.errInvalid", "loop.example/g01367/impl.errRange", "loop.example/g01367/impl.errLimit", "loop.example/g01367/impl.errNotFound"], fn := fun _ => fun
  | [d, g1, g2, g3, g4] => { results := [.lit (.bool true)], args := [d], vars := [g1, g2, g3, g4] }
  | _ => none }
def fnExactMirrorRoomRow : OpenClaim := { program := "ytdccmdcgbembpaadoor", sum := "21c13f55352ee7a966a60dcef225a07fe67e5aebbb25b9d3eb95c2c69beacb9a", func := "loop.example/g01367/laws.FnExactMirrorRoom", spec := "fnExactMirrorRoom", inPlace := ["internal/reflectlite.TypeOf"], unfollowed := true, recurses := true, named := ["loop.example/g01367/impl.errInvalid", "loop.example/g01367/impl.errRange", "loop.example/g01367/impl.errLimit", "loop.example/g01367/impl.errNotFound"], ifaces := true, apart := false, laid := [("loop.example/g01367/impl.errInvalid", laid_loop_example_g01367_impl_errInvalid), ("loop.example/g01367/impl.errRange", laid_loop_example_g01367_impl_errRange), ("loop.example/g01367/impl.errLimit", laid_loop_example_g01367_impl_errLimit), ("loop.example/g01367/impl.errNotFound", laid_loop_example_g01367_impl_errNotFound)] }
def FnExactMirrorRoomSaid : Prop := fnExactMirrorRoomRow.holds Tryd.pinned (OpenSpec.ofChange fnExactMirrorRoomSpec)

/-- ITS FALSE NEIGHBOUR: 'it returns false'. Refute it at one input. -/
def fnExactMirrorRoomWrong : ChangeSpec := { name := "fnExactMirrorRoom", vars := ["loop.example/g01367/impl.errInvalid", "loop.example/g01367/impl.errRange", "loop.example/g01367/impl.errLimit", "loop.example/g01367/impl.errNotFound"], fn := fun _ => fun
  | [d, g1, g2, g3, g4] => { results := [.lit (.bool false)], args := [d], vars := [g1, g2, g3, g4] }
  | _ => none }
def FnExactMirrorRoomWrongFalsely : Prop := fnExactMirrorRoomRow.holds Tryd.pinned (OpenSpec.ofChange fnExactMirrorRoomWrong)

/-- 'laws.FnExactBestAwning': WHATEVER THE INPUT: true; the input reads as it did. -/
def fnExactBestAwningSpec : ChangeSpec := { name := "fnExactBestAwning", vars := ["loop.example/g01367/impl.errInvalid", "loop.example/g01367/impl.errRange", "loop.example/g01367/impl.errLimit", "loop.example/g01367/impl.errNotFound"], fn := fun _ => fun
  | [d1, d2, d3, g1, g2, g3, g4] => { results := [.lit (.bool true)], args := [d1, d2, d3], vars := [g1, g2, g3, g4] }
  | _ => none }
def fnExactBestAwningRow : OpenClaim := { program := "ytdccmdcgbembpaadoor", sum := "21c13f55352ee7a966a60dcef225a07fe67e5aebbb25b9d3eb95c2c69beacb9a", func := "loop.example/g01367/laws.FnExactBestAwning", spec := "fnExactBestAwning", inPlace := ["internal/reflectlite.TypeOf"], unfollowed := true, recurses := true, named := ["loop.example/g01367/impl.errInvalid", "loop.example/g01367/impl.errRange", "loop.example/g01367/impl.errLimit", "loop.example/g01367/impl.errNotFound"], ifaces := true, apart := false, laid := [("loop.example/g01367/impl.errInvalid", laid_loop_example_g01367_impl_errInvalid), ("loop.example/g01367/impl.errRange", laid_loop_example_g01367_impl_errRange), ("loop.example/g01367/impl.errLimit", laid_loop_example_g01367_impl_errLimit), ("loop.example/g01367/impl.errNotFound", laid_loop_example_g01367_impl_errNotFound)] }
def FnExactBestAwningSaid : Prop := fnExactBestAwningRow.holds Tryd.pinned (OpenSpec.ofChange fnExactBestAwningSpec)

/-- ITS FALSE NEIGHBOUR: 'it returns false'. Refute it at one input. -/
def fnExactBestAwningWrong : ChangeSpec := { name := "fnExactBestAwning", vars := ["loop.example/g01367/impl.errInvalid", "loop.example/g01367/impl.errRange", "loop.example/g01367/impl.errLimit", "loop.example/g01367/impl.errNotFound"], fn := fun _ => fun
  | [d1, d2, d3, g1, g2, g3, g4] => { results := [.lit (.bool false)], args := [d1, d2, d3], vars := [g1, g2, g3, g4] }
  | _ => none }
def FnExactBestAwningWrongFalsely : Prop := fnExactBestAwningRow.holds Tryd.pinned (OpenSpec.ofChange fnExactBestAwningWrong)

/- THE SECOND FORM. 'bulk': how many values and letters a reading holds, each counted each time it is reached (what is shared counts as often as it is met; a slice's spare places count too). A statement '..UptoSaid' is the law's where the arguments, and the package variables that the reading takes, are together of bulk at most 1048576: NARROWER than '..Said'. Prove '..Said' where nothing that the law and all that it calls make is longer than what came in: it says more and counts as full. Else prove '..UptoSaid'. A law counts once. -/
mutual
def uptoBulk {H : Type} : DataW H → Nat
  | .lit (.string bytes) => bytes.length + 1
  | .lit _ => 1
  | .nil => 1
  | .ptr d => uptoBulk d + 1
  | .slice elems spare => uptoBulkAll elems + uptoBulkAll spare + 1
  | .agg parts => uptoBulkAll parts + 1
  | .iface _ d => uptoBulk d + 1
  | .map entries => uptoBulkEntries entries + 1
  | .held _ => 1
def uptoBulkAll {H : Type} : List (DataW H) → Nat
  | [] => 0
  | d :: r => uptoBulk d + uptoBulkAll r
def uptoBulkEntries {H : Type} : List (Lit × DataW H) → Nat
  | [] => 0
  | x :: r => uptoBulkEntry x + uptoBulkEntries r
def uptoBulkEntry {H : Type} : Lit × DataW H → Nat
  | (.string bytes, d) => bytes.length + uptoBulk d + 1
  | (_, d) => uptoBulk d + 1
 end
def uptoSmall : (H : Type) → List (DataW H) → Bool := fun _ ds => decide (uptoBulkAll ds ≤ 1048576)
def OpenSpec.upto (s : _root_.Go.ChangeSpec) : _root_.Go.OpenSpec := { _root_.Go.OpenSpec.ofChange s with cond := some uptoSmall }

/-- 'laws.FnExactBrightest', WHERE WHAT IT READS IS OF BULK AT MOST 1048576: true; the input reads as it did. -/
def fnExactBrightestUptoRow : OpenClaim := { program := "ytdccmdcgbembpaadoor", sum := "21c13f55352ee7a966a60dcef225a07fe67e5aebbb25b9d3eb95c2c69beacb9a", func := "loop.example/g01367/laws.FnExactBrightest", spec := "fnExactBrightest", inPlace := ["internal/reflectlite.TypeOf", "math.Float32bits"], unfollowed := true, recurses := true, named := ["loop.example/g01367/impl.errInvalid", "loop.example/g01367/impl.errRange", "loop.example/g01367/impl.errLimit", "loop.example/g01367/impl.errNotFound"], ifaces := true, apart := false, laid := [("loop.example/g01367/impl.errInvalid", laid_loop_example_g01367_impl_errInvalid), ("loop.example/g01367/impl.errRange", laid_loop_example_g01367_impl_errRange), ("loop.example/g01367/impl.errLimit", laid_loop_example_g01367_impl_errLimit), ("loop.example/g01367/impl.errNotFound", laid_loop_example_g01367_impl_errNotFound)], narrowed := true }
def FnExactBrightestUptoSaid : Prop := fnExactBrightestUptoRow.holds Tryd.pinned (OpenSpec.upto fnExactBrightestSpec)

/-- 'laws.FnExactLitTiles', WHERE WHAT IT READS IS OF BULK AT MOST 1048576: true; the input reads as it did. -/
def fnExactLitTilesUptoRow : OpenClaim := { program := "ytdccmdcgbembpaadoor", sum := "21c13f55352ee7a966a60dcef225a07fe67e5aebbb25b9d3eb95c2c69beacb9a", func := "loop.example/g01367/laws.FnExactLitTiles", spec := "fnExactLitTiles", inPlace := ["internal/reflectlite.TypeOf"], unfollowed := true, recurses := true, named := ["loop.example/g01367/impl.errInvalid", "loop.example/g01367/impl.errRange", "loop.example/g01367/impl.errLimit", "loop.example/g01367/impl.errNotFound"], ifaces := true, apart := false, laid := [("loop.example/g01367/impl.errInvalid", laid_loop_example_g01367_impl_errInvalid), ("loop.example/g01367/impl.errRange", laid_loop_example_g01367_impl_errRange), ("loop.example/g01367/impl.errLimit", laid_loop_example_g01367_impl_errLimit), ("loop.example/g01367/impl.errNotFound", laid_loop_example_g01367_impl_errNotFound)], narrowed := true }
def FnExactLitTilesUptoSaid : Prop := fnExactLitTilesUptoRow.holds Tryd.pinned (OpenSpec.upto fnExactLitTilesSpec)

/-- 'laws.FnExactLeastGlare', WHERE WHAT IT READS IS OF BULK AT MOST 1048576: true; the input reads as it did. -/
def fnExactLeastGlareUptoRow : OpenClaim := { program := "ytdccmdcgbembpaadoor", sum := "21c13f55352ee7a966a60dcef225a07fe67e5aebbb25b9d3eb95c2c69beacb9a", func := "loop.example/g01367/laws.FnExactLeastGlare", spec := "fnExactLeastGlare", inPlace := ["internal/reflectlite.TypeOf"], unfollowed := true, recurses := true, named := ["loop.example/g01367/impl.errInvalid", "loop.example/g01367/impl.errRange", "loop.example/g01367/impl.errLimit", "loop.example/g01367/impl.errNotFound"], ifaces := true, apart := false, laid := [("loop.example/g01367/impl.errInvalid", laid_loop_example_g01367_impl_errInvalid), ("loop.example/g01367/impl.errRange", laid_loop_example_g01367_impl_errRange), ("loop.example/g01367/impl.errLimit", laid_loop_example_g01367_impl_errLimit), ("loop.example/g01367/impl.errNotFound", laid_loop_example_g01367_impl_errNotFound)], narrowed := true }
def FnExactLeastGlareUptoSaid : Prop := fnExactLeastGlareUptoRow.holds Tryd.pinned (OpenSpec.upto fnExactLeastGlareSpec)

/-- 'laws.FnExactGlareBits', WHERE WHAT IT READS IS OF BULK AT MOST 1048576: true; the input reads as it did. -/
def fnExactGlareBitsUptoRow : OpenClaim := { program := "ytdccmdcgbembpaadoor", sum := "21c13f55352ee7a966a60dcef225a07fe67e5aebbb25b9d3eb95c2c69beacb9a", func := "loop.example/g01367/laws.FnExactGlareBits", spec := "fnExactGlareBits", inPlace := ["internal/reflectlite.TypeOf"], unfollowed := true, recurses := true, named := ["loop.example/g01367/impl.errInvalid", "loop.example/g01367/impl.errRange", "loop.example/g01367/impl.errLimit", "loop.example/g01367/impl.errNotFound"], ifaces := true, apart := false, laid := [("loop.example/g01367/impl.errInvalid", laid_loop_example_g01367_impl_errInvalid), ("loop.example/g01367/impl.errRange", laid_loop_example_g01367_impl_errRange), ("loop.example/g01367/impl.errLimit", laid_loop_example_g01367_impl_errLimit), ("loop.example/g01367/impl.errNotFound", laid_loop_example_g01367_impl_errNotFound)], narrowed := true }
def FnExactGlareBitsUptoSaid : Prop := fnExactGlareBitsUptoRow.holds Tryd.pinned (OpenSpec.upto fnExactGlareBitsSpec)

/-- 'laws.FnExactDimWindow', WHERE WHAT IT READS IS OF BULK AT MOST 1048576: true; the input reads as it did. -/
def fnExactDimWindowUptoRow : OpenClaim := { program := "ytdccmdcgbembpaadoor", sum := "21c13f55352ee7a966a60dcef225a07fe67e5aebbb25b9d3eb95c2c69beacb9a", func := "loop.example/g01367/laws.FnExactDimWindow", spec := "fnExactDimWindow", inPlace := ["internal/reflectlite.TypeOf"], unfollowed := true, recurses := true, named := ["loop.example/g01367/impl.errInvalid", "loop.example/g01367/impl.errRange", "loop.example/g01367/impl.errLimit", "loop.example/g01367/impl.errNotFound"], ifaces := true, apart := false, laid := [("loop.example/g01367/impl.errInvalid", laid_loop_example_g01367_impl_errInvalid), ("loop.example/g01367/impl.errRange", laid_loop_example_g01367_impl_errRange), ("loop.example/g01367/impl.errLimit", laid_loop_example_g01367_impl_errLimit), ("loop.example/g01367/impl.errNotFound", laid_loop_example_g01367_impl_errNotFound)], narrowed := true }
def FnExactDimWindowUptoSaid : Prop := fnExactDimWindowUptoRow.holds Tryd.pinned (OpenSpec.upto fnExactDimWindowSpec)

/-- 'laws.FnExactLitBy', WHERE WHAT IT READS IS OF BULK AT MOST 1048576: true; the input reads as it did. -/
def fnExactLitByUptoRow : OpenClaim := { program := "ytdccmdcgbembpaadoor", sum := "21c13f55352ee7a966a60dcef225a07fe67e5aebbb25b9d3eb95c2c69beacb9a", func := "loop.example/g01367/laws.FnExactLitBy", spec := "fnExactLitBy", inPlace := ["internal/reflectlite.TypeOf"], unfollowed := true, recurses := true, named := ["loop.example/g01367/impl.errInvalid", "loop.example/g01367/impl.errRange", "loop.example/g01367/impl.errLimit", "loop.example/g01367/impl.errNotFound"], ifaces := true, apart := false, laid := [("loop.example/g01367/impl.errInvalid", laid_loop_example_g01367_impl_errInvalid), ("loop.example/g01367/impl.errRange", laid_loop_example_g01367_impl_errRange), ("loop.example/g01367/impl.errLimit", laid_loop_example_g01367_impl_errLimit), ("loop.example/g01367/impl.errNotFound", laid_loop_example_g01367_impl_errNotFound)], narrowed := true }
def FnExactLitByUptoSaid : Prop := fnExactLitByUptoRow.holds Tryd.pinned (OpenSpec.upto fnExactLitBySpec)

/-- 'laws.FnExactMirrorRoom', WHERE WHAT IT READS IS OF BULK AT MOST 1048576: true; the input reads as it did. -/
def fnExactMirrorRoomUptoRow : OpenClaim := { program := "ytdccmdcgbembpaadoor", sum := "21c13f55352ee7a966a60dcef225a07fe67e5aebbb25b9d3eb95c2c69beacb9a", func := "loop.example/g01367/laws.FnExactMirrorRoom", spec := "fnExactMirrorRoom", inPlace := ["internal/reflectlite.TypeOf"], unfollowed := true, recurses := true, named := ["loop.example/g01367/impl.errInvalid", "loop.example/g01367/impl.errRange", "loop.example/g01367/impl.errLimit", "loop.example/g01367/impl.errNotFound"], ifaces := true, apart := false, laid := [("loop.example/g01367/impl.errInvalid", laid_loop_example_g01367_impl_errInvalid), ("loop.example/g01367/impl.errRange", laid_loop_example_g01367_impl_errRange), ("loop.example/g01367/impl.errLimit", laid_loop_example_g01367_impl_errLimit), ("loop.example/g01367/impl.errNotFound", laid_loop_example_g01367_impl_errNotFound)], narrowed := true }
def FnExactMirrorRoomUptoSaid : Prop := fnExactMirrorRoomUptoRow.holds Tryd.pinned (OpenSpec.upto fnExactMirrorRoomSpec)

/-- 'laws.FnExactBestAwning', WHERE WHAT IT READS IS OF BULK AT MOST 1048576: true; the input reads as it did. -/
def fnExactBestAwningUptoRow : OpenClaim := { program := "ytdccmdcgbembpaadoor", sum := "21c13f55352ee7a966a60dcef225a07fe67e5aebbb25b9d3eb95c2c69beacb9a", func := "loop.example/g01367/laws.FnExactBestAwning", spec := "fnExactBestAwning", inPlace := ["internal/reflectlite.TypeOf"], unfollowed := true, recurses := true, named := ["loop.example/g01367/impl.errInvalid", "loop.example/g01367/impl.errRange", "loop.example/g01367/impl.errLimit", "loop.example/g01367/impl.errNotFound"], ifaces := true, apart := false, laid := [("loop.example/g01367/impl.errInvalid", laid_loop_example_g01367_impl_errInvalid), ("loop.example/g01367/impl.errRange", laid_loop_example_g01367_impl_errRange), ("loop.example/g01367/impl.errLimit", laid_loop_example_g01367_impl_errLimit), ("loop.example/g01367/impl.errNotFound", laid_loop_example_g01367_impl_errNotFound)], narrowed := true }
def FnExactBestAwningUptoSaid : Prop := fnExactBestAwningUptoRow.holds Tryd.pinned (OpenSpec.upto fnExactBestAwningSpec)

end Rows
end Go.Proofs.YtdccmdcgbembpaaDoor
