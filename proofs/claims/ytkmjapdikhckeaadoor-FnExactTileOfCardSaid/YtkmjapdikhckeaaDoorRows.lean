/-
  NARROWER THAN 'FOR EVERY INPUT', by the rows' own cells (each row's printed sentence says how): FnExactTileOf: ifaces, laid · FnExactLightAt: ifaces, laid · FnExactLightMap: ifaces, laid · FnExactMeanLight: ifaces, laid · FnExactBrightest: ifaces, laid · FnExactLitTiles: ifaces, laid · FnExactGlareAt: ifaces, laid · FnExactLeastGlare: ifaces, laid · FnExactGlareBits: ifaces, laid.
  DERIVED. THE GIVEN ROWS OF THIS SEAT. 9 by the template 'for every input the law returns true; each argument reads behind the call as it read before'; 0 by the template 'total and deterministic' (their statements: YtkmjapdikhckeaaDoorTotals.lean).
  GIVEN WITH THE SEED: the statements are not yours to turn. If you find one false, say at which input.
  Laid BY PROGRAM, IN A SANDBOX (cutbox-rows.mjs): the forced cells as the released guide's own fill.sh prints them over the translation 558ac4de3fcee83f… (all of the seat's roots in one cut). By AI agents, Wed Nov 11 2026. No macro, syntax, notation, axiom, sorry.
-/
import Derived.Test.YtkmjapdikhckeaaDoorChecked
import GoSem.Claim
import GoSem.ClaimJoined
import GoSem.ClaimMapViews
import Derived.JoinedTies
import Derived.KernelRfl
namespace Go.Proofs.YtkmjapdikhckeaaDoor
/- THE CELL 'sum', in the pinned program and in every row, IS THE sha256 OF THE DUMP (.gsa) THAT YtkmjapdikhckeaaDoorProg.lean LOADS. Nothing in Lean hashes anything: it is a label: what it is worth is what the hold of that sum in a sandbox is worth. -/
noncomputable def Tryd.pinned : Pinned := { name := "ytkmjapdikhckeaadoor", sum := "558ac4de3fcee83f68949a49949b875e6dc866fe50060e072d3edaec185ace4e", checked := Tryd.checked }
namespace Rows
def none {H : Type} : Left H := { results := [], args := [] }

/- WHAT THE LISTED PACKAGE-LEVEL VARIABLES READ AS WHEN THE CALL BEGINS. Each datum BY PROGRAM (the guide's laid-datum.mjs) off the statement by which the dump's own 'gosem.cut.vars' lays the variable. In a bare row this is a premise. The card (YtkmjapdikhckeaaDoorCards.lean) ties it to the program's text. -/
def laid_loop_example_g01367_impl_errInvalid {H : Type} : DataW H := .iface "*errors.errorString" (.ptr (.agg [.lit (.string [97, 110, 32, 97, 114, 103, 117, 109, 101, 110, 116, 32, 105, 115, 32, 110, 111, 116, 32, 118, 97, 108, 105, 100])]))
def laid_loop_example_g01367_impl_errRange {H : Type} : DataW H := .iface "*errors.errorString" (.ptr (.agg [.lit (.string [97, 110, 32, 97, 114, 103, 117, 109, 101, 110, 116, 32, 105, 115, 32, 111, 117, 116, 32, 111, 102, 32, 105, 116, 115, 32, 114, 97, 110, 103, 101])]))
def laid_loop_example_g01367_impl_errLimit {H : Type} : DataW H := .iface "*errors.errorString" (.ptr (.agg [.lit (.string [116, 104, 101, 114, 101, 32, 97, 114, 101, 32, 116, 111, 111, 32, 109, 97, 110, 121])]))
def laid_loop_example_g01367_impl_errNotFound {H : Type} : DataW H := .iface "*errors.errorString" (.ptr (.agg [.lit (.string [116, 104, 101, 114, 101, 32, 105, 115, 32, 110, 111, 110, 101])]))

/-- 'laws.FnExactTileOf': WHATEVER THE INPUT: true; the input reads as it did. -/
def fnExactTileOfSpec : ChangeSpec := { name := "fnExactTileOf", vars := ["loop.example/g01367/impl.errInvalid", "loop.example/g01367/impl.errRange", "loop.example/g01367/impl.errLimit", "loop.example/g01367/impl.errNotFound"], fn := fun _ => fun
  | [d1, d2, g1, g2, g3, g4] => { results := [.lit (.bool true)], args := [d1, d2], vars := [g1, g2, g3, g4] }
  | _ => none }
def fnExactTileOfRow : OpenClaim := { program := "ytkmjapdikhckeaadoor", sum := "558ac4de3fcee83f68949a49949b875e6dc866fe50060e072d3edaec185ace4e", func := "loop.example/g01367/laws.FnExactTileOf", spec := "fnExactTileOf", inPlace := ["internal/reflectlite.TypeOf"], unfollowed := true, recurses := true, named := ["loop.example/g01367/impl.errInvalid", "loop.example/g01367/impl.errRange", "loop.example/g01367/impl.errLimit", "loop.example/g01367/impl.errNotFound"], ifaces := true, apart := false, laid := [("loop.example/g01367/impl.errInvalid", laid_loop_example_g01367_impl_errInvalid), ("loop.example/g01367/impl.errRange", laid_loop_example_g01367_impl_errRange), ("loop.example/g01367/impl.errLimit", laid_loop_example_g01367_impl_errLimit), ("loop.example/g01367/impl.errNotFound", laid_loop_example_g01367_impl_errNotFound)] }
def FnExactTileOfSaid : Prop := fnExactTileOfRow.holds Tryd.pinned (OpenSpec.ofChange fnExactTileOfSpec)

/-- ITS FALSE NEIGHBOUR: 'it returns false'. Refute it at one input. -/
def fnExactTileOfWrong : ChangeSpec := { name := "fnExactTileOf", vars := ["loop.example/g01367/impl.errInvalid", "loop.example/g01367/impl.errRange", "loop.example/g01367/impl.errLimit", "loop.example/g01367/impl.errNotFound"], fn := fun _ => fun
  | [d1, d2, g1, g2, g3, g4] => { results := [.lit (.bool false)], args := [d1, d2], vars := [g1, g2, g3, g4] }
  | _ => none }
def FnExactTileOfWrongFalsely : Prop := fnExactTileOfRow.holds Tryd.pinned (OpenSpec.ofChange fnExactTileOfWrong)

/-- 'laws.FnExactLightAt': WHATEVER THE INPUT: true; the input reads as it did. -/
def fnExactLightAtSpec : ChangeSpec := { name := "fnExactLightAt", vars := ["loop.example/g01367/impl.errInvalid", "loop.example/g01367/impl.errRange", "loop.example/g01367/impl.errLimit", "loop.example/g01367/impl.errNotFound"], fn := fun _ => fun
  | [d1, d2, g1, g2, g3, g4] => { results := [.lit (.bool true)], args := [d1, d2], vars := [g1, g2, g3, g4] }
  | _ => none }
def fnExactLightAtRow : OpenClaim := { program := "ytkmjapdikhckeaadoor", sum := "558ac4de3fcee83f68949a49949b875e6dc866fe50060e072d3edaec185ace4e", func := "loop.example/g01367/laws.FnExactLightAt", spec := "fnExactLightAt", inPlace := ["internal/reflectlite.TypeOf"], unfollowed := true, recurses := true, named := ["loop.example/g01367/impl.errInvalid", "loop.example/g01367/impl.errRange", "loop.example/g01367/impl.errLimit", "loop.example/g01367/impl.errNotFound"], ifaces := true, apart := false, laid := [("loop.example/g01367/impl.errInvalid", laid_loop_example_g01367_impl_errInvalid), ("loop.example/g01367/impl.errRange", laid_loop_example_g01367_impl_errRange), ("loop.example/g01367/impl.errLimit", laid_loop_example_g01367_impl_errLimit), ("loop.example/g01367/impl.errNotFound", laid_loop_example_g01367_impl_errNotFound)] }
def FnExactLightAtSaid : Prop := fnExactLightAtRow.holds Tryd.pinned (OpenSpec.ofChange fnExactLightAtSpec)

/-- ITS FALSE NEIGHBOUR: 'it returns false'. Refute it at one input. -/
def fnExactLightAtWrong : ChangeSpec := { name := "fnExactLightAt", vars := ["loop.example/g01367/impl.errInvalid", "loop.example/g01367/impl.errRange", "loop.example/g01367/impl.errLimit", "loop.example/g01367/impl.errNotFound"], fn := fun _ => fun
  | [d1, d2, g1, g2, g3, g4] => { results := [.lit (.bool false)], args := [d1, d2], vars := [g1, g2, g3, g4] }
  | _ => none }
def FnExactLightAtWrongFalsely : Prop := fnExactLightAtRow.holds Tryd.pinned (OpenSpec.ofChange fnExactLightAtWrong)

/-- 'laws.FnExactLightMap': WHATEVER THE INPUT: true; the input reads as it did. -/
def fnExactLightMapSpec : ChangeSpec := { name := "fnExactLightMap", vars := ["loop.example/g01367/impl.errInvalid", "loop.example/g01367/impl.errRange", "loop.example/g01367/impl.errLimit", "loop.example/g01367/impl.errNotFound"], fn := fun _ => fun
  | [d, g1, g2, g3, g4] => { results := [.lit (.bool true)], args := [d], vars := [g1, g2, g3, g4] }
  | _ => none }
def fnExactLightMapRow : OpenClaim := { program := "ytkmjapdikhckeaadoor", sum := "558ac4de3fcee83f68949a49949b875e6dc866fe50060e072d3edaec185ace4e", func := "loop.example/g01367/laws.FnExactLightMap", spec := "fnExactLightMap", inPlace := ["internal/reflectlite.TypeOf"], unfollowed := true, recurses := true, named := ["loop.example/g01367/impl.errInvalid", "loop.example/g01367/impl.errRange", "loop.example/g01367/impl.errLimit", "loop.example/g01367/impl.errNotFound"], ifaces := true, apart := false, laid := [("loop.example/g01367/impl.errInvalid", laid_loop_example_g01367_impl_errInvalid), ("loop.example/g01367/impl.errRange", laid_loop_example_g01367_impl_errRange), ("loop.example/g01367/impl.errLimit", laid_loop_example_g01367_impl_errLimit), ("loop.example/g01367/impl.errNotFound", laid_loop_example_g01367_impl_errNotFound)] }
def FnExactLightMapSaid : Prop := fnExactLightMapRow.holds Tryd.pinned (OpenSpec.ofChange fnExactLightMapSpec)

/-- ITS FALSE NEIGHBOUR: 'it returns false'. Refute it at one input. -/
def fnExactLightMapWrong : ChangeSpec := { name := "fnExactLightMap", vars := ["loop.example/g01367/impl.errInvalid", "loop.example/g01367/impl.errRange", "loop.example/g01367/impl.errLimit", "loop.example/g01367/impl.errNotFound"], fn := fun _ => fun
  | [d, g1, g2, g3, g4] => { results := [.lit (.bool false)], args := [d], vars := [g1, g2, g3, g4] }
  | _ => none }
def FnExactLightMapWrongFalsely : Prop := fnExactLightMapRow.holds Tryd.pinned (OpenSpec.ofChange fnExactLightMapWrong)

/-- 'laws.FnExactMeanLight': WHATEVER THE INPUT: true; the input reads as it did. -/
def fnExactMeanLightSpec : ChangeSpec := { name := "fnExactMeanLight", vars := ["loop.example/g01367/impl.errInvalid", "loop.example/g01367/impl.errRange", "loop.example/g01367/impl.errLimit", "loop.example/g01367/impl.errNotFound"], fn := fun _ => fun
  | [d, g1, g2, g3, g4] => { results := [.lit (.bool true)], args := [d], vars := [g1, g2, g3, g4] }
  | _ => none }
def fnExactMeanLightRow : OpenClaim := { program := "ytkmjapdikhckeaadoor", sum := "558ac4de3fcee83f68949a49949b875e6dc866fe50060e072d3edaec185ace4e", func := "loop.example/g01367/laws.FnExactMeanLight", spec := "fnExactMeanLight", inPlace := ["internal/reflectlite.TypeOf"], unfollowed := true, recurses := true, named := ["loop.example/g01367/impl.errInvalid", "loop.example/g01367/impl.errRange", "loop.example/g01367/impl.errLimit", "loop.example/g01367/impl.errNotFound"], ifaces := true, apart := false, laid := [("loop.example/g01367/impl.errInvalid", laid_loop_example_g01367_impl_errInvalid), ("loop.example/g01367/impl.errRange", laid_loop_example_g01367_impl_errRange), ("loop.example/g01367/impl.errLimit", laid_loop_example_g01367_impl_errLimit), ("loop.example/g01367/impl.errNotFound", laid_loop_example_g01367_impl_errNotFound)] }
def FnExactMeanLightSaid : Prop := fnExactMeanLightRow.holds Tryd.pinned (OpenSpec.ofChange fnExactMeanLightSpec)

/-- ITS FALSE NEIGHBOUR: 'it returns false'. Refute it at one input. -/
def fnExactMeanLightWrong : ChangeSpec := { name := "fnExactMeanLight", vars := ["loop.example/g01367/impl.errInvalid", "loop.example/g01367/impl.errRange", "loop.example/g01367/impl.errLimit", "loop.example/g01367/impl.errNotFound"], fn := fun _ => fun
  | [d, g1, g2, g3, g4] => { results := [.lit (.bool false)], args := [d], vars := [g1, g2, g3, g4] }
  | _ => none }
def FnExactMeanLightWrongFalsely : Prop := fnExactMeanLightRow.holds Tryd.pinned (OpenSpec.ofChange fnExactMeanLightWrong)

/-- 'laws.FnExactBrightest': WHATEVER THE INPUT: true; the input reads as it did. -/
def fnExactBrightestSpec : ChangeSpec := { name := "fnExactBrightest", vars := ["loop.example/g01367/impl.errInvalid", "loop.example/g01367/impl.errRange", "loop.example/g01367/impl.errLimit", "loop.example/g01367/impl.errNotFound"], fn := fun _ => fun
  | [d, g1, g2, g3, g4] => { results := [.lit (.bool true)], args := [d], vars := [g1, g2, g3, g4] }
  | _ => none }
def fnExactBrightestRow : OpenClaim := { program := "ytkmjapdikhckeaadoor", sum := "558ac4de3fcee83f68949a49949b875e6dc866fe50060e072d3edaec185ace4e", func := "loop.example/g01367/laws.FnExactBrightest", spec := "fnExactBrightest", inPlace := ["internal/reflectlite.TypeOf", "math.Float32bits"], unfollowed := true, recurses := true, named := ["loop.example/g01367/impl.errInvalid", "loop.example/g01367/impl.errRange", "loop.example/g01367/impl.errLimit", "loop.example/g01367/impl.errNotFound"], ifaces := true, apart := false, laid := [("loop.example/g01367/impl.errInvalid", laid_loop_example_g01367_impl_errInvalid), ("loop.example/g01367/impl.errRange", laid_loop_example_g01367_impl_errRange), ("loop.example/g01367/impl.errLimit", laid_loop_example_g01367_impl_errLimit), ("loop.example/g01367/impl.errNotFound", laid_loop_example_g01367_impl_errNotFound)] }
def FnExactBrightestSaid : Prop := fnExactBrightestRow.holds Tryd.pinned (OpenSpec.ofChange fnExactBrightestSpec)

/-- ITS FALSE NEIGHBOUR: 'it returns false'. Refute it at one input. -/
def fnExactBrightestWrong : ChangeSpec := { name := "fnExactBrightest", vars := ["loop.example/g01367/impl.errInvalid", "loop.example/g01367/impl.errRange", "loop.example/g01367/impl.errLimit", "loop.example/g01367/impl.errNotFound"], fn := fun _ => fun
  | [d, g1, g2, g3, g4] => { results := [.lit (.bool false)], args := [d], vars := [g1, g2, g3, g4] }
  | _ => none }
def FnExactBrightestWrongFalsely : Prop := fnExactBrightestRow.holds Tryd.pinned (OpenSpec.ofChange fnExactBrightestWrong)

/-- 'laws.FnExactLitTiles': WHATEVER THE INPUT: true; the input reads as it did. -/
def fnExactLitTilesSpec : ChangeSpec := { name := "fnExactLitTiles", vars := ["loop.example/g01367/impl.errInvalid", "loop.example/g01367/impl.errRange", "loop.example/g01367/impl.errLimit", "loop.example/g01367/impl.errNotFound"], fn := fun _ => fun
  | [d1, d2, g1, g2, g3, g4] => { results := [.lit (.bool true)], args := [d1, d2], vars := [g1, g2, g3, g4] }
  | _ => none }
def fnExactLitTilesRow : OpenClaim := { program := "ytkmjapdikhckeaadoor", sum := "558ac4de3fcee83f68949a49949b875e6dc866fe50060e072d3edaec185ace4e", func := "loop.example/g01367/laws.FnExactLitTiles", spec := "fnExactLitTiles", inPlace := ["internal/reflectlite.TypeOf"], unfollowed := true, recurses := true, named := ["loop.example/g01367/impl.errInvalid", "loop.example/g01367/impl.errRange", "loop.example/g01367/impl.errLimit", "loop.example/g01367/impl.errNotFound"], ifaces := true, apart := false, laid := [("loop.example/g01367/impl.errInvalid", laid_loop_example_g01367_impl_errInvalid), ("loop.example/g01367/impl.errRange", laid_loop_example_g01367_impl_errRange), ("loop.example/g01367/impl.errLimit", laid_loop_example_g01367_impl_errLimit), ("loop.example/g01367/impl.errNotFound", laid_loop_example_g01367_impl_errNotFound)] }
def FnExactLitTilesSaid : Prop := fnExactLitTilesRow.holds Tryd.pinned (OpenSpec.ofChange fnExactLitTilesSpec)

/-- ITS FALSE NEIGHBOUR: 'it returns false'. Refute it at one input. -/
def fnExactLitTilesWrong : ChangeSpec := { name := "fnExactLitTiles", vars := ["loop.example/g01367/impl.errInvalid", "loop.example/g01367/impl.errRange", "loop.example/g01367/impl.errLimit", "loop.example/g01367/impl.errNotFound"], fn := fun _ => fun
  | [d1, d2, g1, g2, g3, g4] => { results := [.lit (.bool false)], args := [d1, d2], vars := [g1, g2, g3, g4] }
  | _ => none }
def FnExactLitTilesWrongFalsely : Prop := fnExactLitTilesRow.holds Tryd.pinned (OpenSpec.ofChange fnExactLitTilesWrong)

/-- 'laws.FnExactGlareAt': WHATEVER THE INPUT: true; the input reads as it did. -/
def fnExactGlareAtSpec : ChangeSpec := { name := "fnExactGlareAt", vars := ["loop.example/g01367/impl.errInvalid", "loop.example/g01367/impl.errRange", "loop.example/g01367/impl.errLimit", "loop.example/g01367/impl.errNotFound"], fn := fun _ => fun
  | [d1, d2, g1, g2, g3, g4] => { results := [.lit (.bool true)], args := [d1, d2], vars := [g1, g2, g3, g4] }
  | _ => none }
def fnExactGlareAtRow : OpenClaim := { program := "ytkmjapdikhckeaadoor", sum := "558ac4de3fcee83f68949a49949b875e6dc866fe50060e072d3edaec185ace4e", func := "loop.example/g01367/laws.FnExactGlareAt", spec := "fnExactGlareAt", inPlace := ["internal/reflectlite.TypeOf"], unfollowed := true, recurses := true, named := ["loop.example/g01367/impl.errInvalid", "loop.example/g01367/impl.errRange", "loop.example/g01367/impl.errLimit", "loop.example/g01367/impl.errNotFound"], ifaces := true, apart := false, laid := [("loop.example/g01367/impl.errInvalid", laid_loop_example_g01367_impl_errInvalid), ("loop.example/g01367/impl.errRange", laid_loop_example_g01367_impl_errRange), ("loop.example/g01367/impl.errLimit", laid_loop_example_g01367_impl_errLimit), ("loop.example/g01367/impl.errNotFound", laid_loop_example_g01367_impl_errNotFound)] }
def FnExactGlareAtSaid : Prop := fnExactGlareAtRow.holds Tryd.pinned (OpenSpec.ofChange fnExactGlareAtSpec)

/-- ITS FALSE NEIGHBOUR: 'it returns false'. Refute it at one input. -/
def fnExactGlareAtWrong : ChangeSpec := { name := "fnExactGlareAt", vars := ["loop.example/g01367/impl.errInvalid", "loop.example/g01367/impl.errRange", "loop.example/g01367/impl.errLimit", "loop.example/g01367/impl.errNotFound"], fn := fun _ => fun
  | [d1, d2, g1, g2, g3, g4] => { results := [.lit (.bool false)], args := [d1, d2], vars := [g1, g2, g3, g4] }
  | _ => none }
def FnExactGlareAtWrongFalsely : Prop := fnExactGlareAtRow.holds Tryd.pinned (OpenSpec.ofChange fnExactGlareAtWrong)

/-- 'laws.FnExactLeastGlare': WHATEVER THE INPUT: true; the input reads as it did. -/
def fnExactLeastGlareSpec : ChangeSpec := { name := "fnExactLeastGlare", vars := ["loop.example/g01367/impl.errInvalid", "loop.example/g01367/impl.errRange", "loop.example/g01367/impl.errLimit", "loop.example/g01367/impl.errNotFound"], fn := fun _ => fun
  | [d1, d2, g1, g2, g3, g4] => { results := [.lit (.bool true)], args := [d1, d2], vars := [g1, g2, g3, g4] }
  | _ => none }
def fnExactLeastGlareRow : OpenClaim := { program := "ytkmjapdikhckeaadoor", sum := "558ac4de3fcee83f68949a49949b875e6dc866fe50060e072d3edaec185ace4e", func := "loop.example/g01367/laws.FnExactLeastGlare", spec := "fnExactLeastGlare", inPlace := ["internal/reflectlite.TypeOf"], unfollowed := true, recurses := true, named := ["loop.example/g01367/impl.errInvalid", "loop.example/g01367/impl.errRange", "loop.example/g01367/impl.errLimit", "loop.example/g01367/impl.errNotFound"], ifaces := true, apart := false, laid := [("loop.example/g01367/impl.errInvalid", laid_loop_example_g01367_impl_errInvalid), ("loop.example/g01367/impl.errRange", laid_loop_example_g01367_impl_errRange), ("loop.example/g01367/impl.errLimit", laid_loop_example_g01367_impl_errLimit), ("loop.example/g01367/impl.errNotFound", laid_loop_example_g01367_impl_errNotFound)] }
def FnExactLeastGlareSaid : Prop := fnExactLeastGlareRow.holds Tryd.pinned (OpenSpec.ofChange fnExactLeastGlareSpec)

/-- ITS FALSE NEIGHBOUR: 'it returns false'. Refute it at one input. -/
def fnExactLeastGlareWrong : ChangeSpec := { name := "fnExactLeastGlare", vars := ["loop.example/g01367/impl.errInvalid", "loop.example/g01367/impl.errRange", "loop.example/g01367/impl.errLimit", "loop.example/g01367/impl.errNotFound"], fn := fun _ => fun
  | [d1, d2, g1, g2, g3, g4] => { results := [.lit (.bool false)], args := [d1, d2], vars := [g1, g2, g3, g4] }
  | _ => none }
def FnExactLeastGlareWrongFalsely : Prop := fnExactLeastGlareRow.holds Tryd.pinned (OpenSpec.ofChange fnExactLeastGlareWrong)

/-- 'laws.FnExactGlareBits': WHATEVER THE INPUT: true; the input reads as it did. -/
def fnExactGlareBitsSpec : ChangeSpec := { name := "fnExactGlareBits", vars := ["loop.example/g01367/impl.errInvalid", "loop.example/g01367/impl.errRange", "loop.example/g01367/impl.errLimit", "loop.example/g01367/impl.errNotFound"], fn := fun _ => fun
  | [d1, d2, d3, g1, g2, g3, g4] => { results := [.lit (.bool true)], args := [d1, d2, d3], vars := [g1, g2, g3, g4] }
  | _ => none }
def fnExactGlareBitsRow : OpenClaim := { program := "ytkmjapdikhckeaadoor", sum := "558ac4de3fcee83f68949a49949b875e6dc866fe50060e072d3edaec185ace4e", func := "loop.example/g01367/laws.FnExactGlareBits", spec := "fnExactGlareBits", inPlace := ["internal/reflectlite.TypeOf"], unfollowed := true, recurses := true, named := ["loop.example/g01367/impl.errInvalid", "loop.example/g01367/impl.errRange", "loop.example/g01367/impl.errLimit", "loop.example/g01367/impl.errNotFound"], ifaces := true, apart := false, laid := [("loop.example/g01367/impl.errInvalid", laid_loop_example_g01367_impl_errInvalid), ("loop.example/g01367/impl.errRange", laid_loop_example_g01367_impl_errRange), ("loop.example/g01367/impl.errLimit", laid_loop_example_g01367_impl_errLimit), ("loop.example/g01367/impl.errNotFound", laid_loop_example_g01367_impl_errNotFound)] }
def FnExactGlareBitsSaid : Prop := fnExactGlareBitsRow.holds Tryd.pinned (OpenSpec.ofChange fnExactGlareBitsSpec)

/-- ITS FALSE NEIGHBOUR: 'it returns false'. Refute it at one input. -/
def fnExactGlareBitsWrong : ChangeSpec := { name := "fnExactGlareBits", vars := ["loop.example/g01367/impl.errInvalid", "loop.example/g01367/impl.errRange", "loop.example/g01367/impl.errLimit", "loop.example/g01367/impl.errNotFound"], fn := fun _ => fun
  | [d1, d2, d3, g1, g2, g3, g4] => { results := [.lit (.bool false)], args := [d1, d2, d3], vars := [g1, g2, g3, g4] }
  | _ => none }
def FnExactGlareBitsWrongFalsely : Prop := fnExactGlareBitsRow.holds Tryd.pinned (OpenSpec.ofChange fnExactGlareBitsWrong)

/- THE SECOND FORM. 'bulk': how many values and letters a reading holds, each counted each time it is reached (what is shared counts as often as it is met; a slice's spare places count too). A statement '..UptoSaid' is the law's where the arguments, and the package variables that the reading takes, are together of bulk at most 1048576: NARROWER than '..Said'. Prove '..Said' where nothing that the law and all that it calls make is longer than what came in: it says more and counts as full. Else prove '..UptoSaid'. A law counts once. -/
mutual
def uptoBulk {H : Type} : DataW H → Nat
  | .lit (.string bytes) => bytes.length + 1
  | .lit _ => 1
  | .nil => 1
  | .ptr d => uptoBulk d + 1
  | .slice elems spare => uptoBulkAll elems + uptoBulkAll spare + 1
  | .agg parts => uptoBulkAll parts + 1
  | .iface _ d => uptoBulk d + 1
  | .map entries => uptoBulkEntries entries + 1
  | .held _ => 1
def uptoBulkAll {H : Type} : List (DataW H) → Nat
  | [] => 0
  | d :: r => uptoBulk d + uptoBulkAll r
def uptoBulkEntries {H : Type} : List (Lit × DataW H) → Nat
  | [] => 0
  | x :: r => uptoBulkEntry x + uptoBulkEntries r
def uptoBulkEntry {H : Type} : Lit × DataW H → Nat
  | (.string bytes, d) => bytes.length + uptoBulk d + 1
  | (_, d) => uptoBulk d + 1
 end
def uptoSmall : (H : Type) → List (DataW H) → Bool := fun _ ds => decide (uptoBulkAll ds ≤ 1048576)
def OpenSpec.upto (s : _root_.Go.ChangeSpec) : _root_.Go.OpenSpec := { _root_.Go.OpenSpec.ofChange s with cond := some uptoSmall }

/-- 'laws.FnExactTileOf', WHERE WHAT IT READS IS OF BULK AT MOST 1048576: true; the input reads as it did. -/
def fnExactTileOfUptoRow : OpenClaim := { program := "ytkmjapdikhckeaadoor", sum := "558ac4de3fcee83f68949a49949b875e6dc866fe50060e072d3edaec185ace4e", func := "loop.example/g01367/laws.FnExactTileOf", spec := "fnExactTileOf", inPlace := ["internal/reflectlite.TypeOf"], unfollowed := true, recurses := true, named := ["loop.example/g01367/impl.errInvalid", "loop.example/g01367/impl.errRange", "loop.example/g01367/impl.errLimit", "loop.example/g01367/impl.errNotFound"], ifaces := true, apart := false, laid := [("loop.example/g01367/impl.errInvalid", laid_loop_example_g01367_impl_errInvalid), ("loop.example/g01367/impl.errRange", laid_loop_example_g01367_impl_errRange), ("loop.example/g01367/impl.errLimit", laid_loop_example_g01367_impl_errLimit), ("loop.example/g01367/impl.errNotFound", laid_loop_example_g01367_impl_errNotFound)], narrowed := true }
def FnExactTileOfUptoSaid : Prop := fnExactTileOfUptoRow.holds Tryd.pinned (OpenSpec.upto fnExactTileOfSpec)

/-- 'laws.FnExactLightAt', WHERE WHAT IT READS IS OF BULK AT MOST 1048576: true; the input reads as it did. -/
def fnExactLightAtUptoRow : OpenClaim := { program := "ytkmjapdikhckeaadoor", sum := "558ac4de3fcee83f68949a49949b875e6dc866fe50060e072d3edaec185ace4e", func := "loop.example/g01367/laws.FnExactLightAt", spec := "fnExactLightAt", inPlace := ["internal/reflectlite.TypeOf"], unfollowed := true, recurses := true, named := ["loop.example/g01367/impl.errInvalid", "loop.example/g01367/impl.errRange", "loop.example/g01367/impl.errLimit", "loop.example/g01367/impl.errNotFound"], ifaces := true, apart := false, laid := [("loop.example/g01367/impl.errInvalid", laid_loop_example_g01367_impl_errInvalid), ("loop.example/g01367/impl.errRange", laid_loop_example_g01367_impl_errRange), ("loop.example/g01367/impl.errLimit", laid_loop_example_g01367_impl_errLimit), ("loop.example/g01367/impl.errNotFound", laid_loop_example_g01367_impl_errNotFound)], narrowed := true }
def FnExactLightAtUptoSaid : Prop := fnExactLightAtUptoRow.holds Tryd.pinned (OpenSpec.upto fnExactLightAtSpec)

/-- 'laws.FnExactLightMap', WHERE WHAT IT READS IS OF BULK AT MOST 1048576: true; the input reads as it did. -/
def fnExactLightMapUptoRow : OpenClaim := { program := "ytkmjapdikhckeaadoor", sum := "558ac4de3fcee83f68949a49949b875e6dc866fe50060e072d3edaec185ace4e", func := "loop.example/g01367/laws.FnExactLightMap", spec := "fnExactLightMap", inPlace := ["internal/reflectlite.TypeOf"], unfollowed := true, recurses := true, named := ["loop.example/g01367/impl.errInvalid", "loop.example/g01367/impl.errRange", "loop.example/g01367/impl.errLimit", "loop.example/g01367/impl.errNotFound"], ifaces := true, apart := false, laid := [("loop.example/g01367/impl.errInvalid", laid_loop_example_g01367_impl_errInvalid), ("loop.example/g01367/impl.errRange", laid_loop_example_g01367_impl_errRange), ("loop.example/g01367/impl.errLimit", laid_loop_example_g01367_impl_errLimit), ("loop.example/g01367/impl.errNotFound", laid_loop_example_g01367_impl_errNotFound)], narrowed := true }
def FnExactLightMapUptoSaid : Prop := fnExactLightMapUptoRow.holds Tryd.pinned (OpenSpec.upto fnExactLightMapSpec)

/-- 'laws.FnExactMeanLight', WHERE WHAT IT READS IS OF BULK AT MOST 1048576: true; the input reads as it did. -/
def fnExactMeanLightUptoRow : OpenClaim := { program := "ytkmjapdikhckeaadoor", sum := "558ac4de3fcee83f68949a49949b875e6dc866fe50060e072d3edaec185ace4e", func := "loop.example/g01367/laws.FnExactMeanLight", spec := "fnExactMeanLight", inPlace := ["internal/reflectlite.TypeOf"], unfollowed := true, recurses := true, named := ["loop.example/g01367/impl.errInvalid", "loop.example/g01367/impl.errRange", "loop.example/g01367/impl.errLimit", "loop.example/g01367/impl.errNotFound"], ifaces := true, apart := false, laid := [("loop.example/g01367/impl.errInvalid", laid_loop_example_g01367_impl_errInvalid), ("loop.example/g01367/impl.errRange", laid_loop_example_g01367_impl_errRange), ("loop.example/g01367/impl.errLimit", laid_loop_example_g01367_impl_errLimit), ("loop.example/g01367/impl.errNotFound", laid_loop_example_g01367_impl_errNotFound)], narrowed := true }
def FnExactMeanLightUptoSaid : Prop := fnExactMeanLightUptoRow.holds Tryd.pinned (OpenSpec.upto fnExactMeanLightSpec)

/-- 'laws.FnExactBrightest', WHERE WHAT IT READS IS OF BULK AT MOST 1048576: true; the input reads as it did. -/
def fnExactBrightestUptoRow : OpenClaim := { program := "ytkmjapdikhckeaadoor", sum := "558ac4de3fcee83f68949a49949b875e6dc866fe50060e072d3edaec185ace4e", func := "loop.example/g01367/laws.FnExactBrightest", spec := "fnExactBrightest", inPlace := ["internal/reflectlite.TypeOf", "math.Float32bits"], unfollowed := true, recurses := true, named := ["loop.example/g01367/impl.errInvalid", "loop.example/g01367/impl.errRange", "loop.example/g01367/impl.errLimit", "loop.example/g01367/impl.errNotFound"], ifaces := true, apart := false, laid := [("loop.example/g01367/impl.errInvalid", laid_loop_example_g01367_impl_errInvalid), ("loop.example/g01367/impl.errRange", laid_loop_example_g01367_impl_errRange), ("loop.example/g01367/impl.errLimit", laid_loop_example_g01367_impl_errLimit), ("loop.example/g01367/impl.errNotFound", laid_loop_example_g01367_impl_errNotFound)], narrowed := true }
def FnExactBrightestUptoSaid : Prop := fnExactBrightestUptoRow.holds Tryd.pinned (OpenSpec.upto fnExactBrightestSpec)

/-- 'laws.FnExactLitTiles', WHERE WHAT IT READS IS OF BULK AT MOST 1048576: true; the input reads as it did. -/
def fnExactLitTilesUptoRow : OpenClaim := { program := "ytkmjapdikhckeaadoor", sum := "558ac4de3fcee83f68949a49949b875e6dc866fe50060e072d3edaec185ace4e", func := "loop.example/g01367/laws.FnExactLitTiles", spec := "fnExactLitTiles", inPlace := ["internal/reflectlite.TypeOf"], unfollowed := true, recurses := true, named := ["loop.example/g01367/impl.errInvalid", "loop.example/g01367/impl.errRange", "loop.example/g01367/impl.errLimit", "loop.example/g01367/impl.errNotFound"], ifaces := true, apart := false, laid := [("loop.example/g01367/impl.errInvalid", laid_loop_example_g01367_impl_errInvalid), ("loop.example/g01367/impl.errRange", laid_loop_example_g01367_impl_errRange), ("loop.example/g01367/impl.errLimit", laid_loop_example_g01367_impl_errLimit), ("loop.example/g01367/impl.errNotFound", laid_loop_example_g01367_impl_errNotFound)], narrowed := true }
def FnExactLitTilesUptoSaid : Prop := fnExactLitTilesUptoRow.holds Tryd.pinned (OpenSpec.upto fnExactLitTilesSpec)

/-- 'laws.FnExactGlareAt', WHERE WHAT IT READS IS OF BULK AT MOST 1048576: true; the input reads as it did. -/
def fnExactGlareAtUptoRow : OpenClaim := { program := "ytkmjapdikhckeaadoor", sum := "558ac4de3fcee83f68949a49949b875e6dc866fe50060e072d3edaec185ace4e", func := "loop.example/g01367/laws.FnExactGlareAt", spec := "fnExactGlareAt", inPlace := ["internal/reflectlite.TypeOf"], unfollowed := true, recurses := true, named := ["loop.example/g01367/impl.errInvalid", "loop.example/g01367/impl.errRange", "loop.example/g01367/impl.errLimit", "loop.example/g01367/impl.errNotFound"], ifaces := true, apart := false, laid := [("loop.example/g01367/impl.errInvalid", laid_loop_example_g01367_impl_errInvalid), ("loop.example/g01367/impl.errRange", laid_loop_example_g01367_impl_errRange), ("loop.example/g01367/impl.errLimit", laid_loop_example_g01367_impl_errLimit), ("loop.example/g01367/impl.errNotFound", laid_loop_example_g01367_impl_errNotFound)], narrowed := true }
def FnExactGlareAtUptoSaid : Prop := fnExactGlareAtUptoRow.holds Tryd.pinned (OpenSpec.upto fnExactGlareAtSpec)

/-- 'laws.FnExactLeastGlare', WHERE WHAT IT READS IS OF BULK AT MOST 1048576: true; the input reads as it did. -/
def fnExactLeastGlareUptoRow : OpenClaim := { program := "ytkmjapdikhckeaadoor", sum := "558ac4de3fcee83f68949a49949b875e6dc866fe50060e072d3edaec185ace4e", func := "loop.example/g01367/laws.FnExactLeastGlare", spec := "fnExactLeastGlare", inPlace := ["internal/reflectlite.TypeOf"], unfollowed := true, recurses := true, named := ["loop.example/g01367/impl.errInvalid", "loop.example/g01367/impl.errRange", "loop.example/g01367/impl.errLimit", "loop.example/g01367/impl.errNotFound"], ifaces := true, apart := false, laid := [("loop.example/g01367/impl.errInvalid", laid_loop_example_g01367_impl_errInvalid), ("loop.example/g01367/impl.errRange", laid_loop_example_g01367_impl_errRange), ("loop.example/g01367/impl.errLimit", laid_loop_example_g01367_impl_errLimit), ("loop.example/g01367/impl.errNotFound", laid_loop_example_g01367_impl_errNotFound)], narrowed := true }
def FnExactLeastGlareUptoSaid : Prop := fnExactLeastGlareUptoRow.holds Tryd.pinned (OpenSpec.upto fnExactLeastGlareSpec)

/-- 'laws.FnExactGlareBits', WHERE WHAT IT READS IS OF BULK AT MOST 1048576: true; the input reads as it did. -/
def fnExactGlareBitsUptoRow : OpenClaim := { program := "ytkmjapdikhckeaadoor", sum := "558ac4de3fcee83f68949a49949b875e6dc866fe50060e072d3edaec185ace4e", func := "loop.example/g01367/laws.FnExactGlareBits", spec := "fnExactGlareBits", inPlace := ["internal/reflectlite.TypeOf"], unfollowed := true, recurses := true, named := ["loop.example/g01367/impl.errInvalid", "loop.example/g01367/impl.errRange", "loop.example/g01367/impl.errLimit", "loop.example/g01367/impl.errNotFound"], ifaces := true, apart := false, laid := [("loop.example/g01367/impl.errInvalid", laid_loop_example_g01367_impl_errInvalid), ("loop.example/g01367/impl.errRange", laid_loop_example_g01367_impl_errRange), ("loop.example/g01367/impl.errLimit", laid_loop_example_g01367_impl_errLimit), ("loop.example/g01367/impl.errNotFound", laid_loop_example_g01367_impl_errNotFound)], narrowed := true }
def FnExactGlareBitsUptoSaid : Prop := fnExactGlareBitsUptoRow.holds Tryd.pinned (OpenSpec.upto fnExactGlareBitsSpec)

end Rows
end Go.Proofs.YtkmjapdikhckeaaDoor
