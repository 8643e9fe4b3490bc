/-
  NARROWER THAN 'FOR EVERY INPUT', by the rows' own cells (each row's printed sentence says how): FnExactStrainOf: ifaces, laid · FnExactShadedPart: ifaces, laid · FnExactLightBehind: ifaces, laid · FnExactDayBehind: ifaces, laid · FnExactGustyDay: ifaces, laid · FnExactShadedHours: ifaces, laid · FnExactOutFor: ifaces, laid · FnExactHiddenAt: ifaces, laid · FnExactHiddenHours: ifaces, laid · FnExactBareSun: ifaces, laid · FnExactBestAwning: ifaces, laid · FnExactGlareAt: ifaces, laid.
  DERIVED. THE GIVEN ROWS OF THIS SEAT. 12 by the template 'for every input the law returns true; each argument reads behind the call as it read before'; 0 by the template 'total and deterministic' (their statements: YtnienahjfocalaaDoorTotals.lean).
  GIVEN WITH THE SEED: the statements are not yours to turn. If you find one false, say at which input.
  Laid BY PROGRAM, IN A SANDBOX (cutbox-rows.mjs): the forced cells as the released guide's own fill.sh prints them over the translation 27a3dfd919cc8cda… (all of the seat's roots in one cut). By AI agents, Wed Nov 11 2026. No macro, syntax, notation, axiom, sorry.
-/
import Derived.Test.YtnienahjfocalaaDoorChecked
import GoSem.Claim
import GoSem.ClaimJoined
import GoSem.ClaimMapViews
import Derived.JoinedTies
import Derived.KernelRfl
namespace Go.Proofs.YtnienahjfocalaaDoor
/- THE CELL 'sum', in the pinned program and in every row, IS THE sha256 OF THE DUMP (.gsa) THAT YtnienahjfocalaaDoorProg.lean LOADS. Nothing in Lean hashes anything: it is a label: what it is worth is what the hold of that sum in a sandbox is worth. -/
noncomputable def Tryd.pinned : Pinned := { name := "ytnienahjfocalaadoor", sum := "27a3dfd919cc8cdaa3c7fcc1931b465ac2cc5d74eac5b0a3f95f78eaf1a0af6f", checked := Tryd.checked }
namespace Rows
def none {H : Type} : Left H := { results := [], args := [] }

/- WHAT THE LISTED PACKAGE-LEVEL VARIABLES READ AS WHEN THE CALL BEGINS. Each datum BY PROGRAM (the guide's laid-datum.mjs) off the statement by which the dump's own 'gosem.cut.vars' lays the variable. In a bare row this is a premise. The card (YtnienahjfocalaaDoorCards.lean) ties it to the program's text. -/
def laid_loop_example_g01367_impl_errInvalid {H : Type} : DataW H := .iface "*errors.errorString" (.ptr (.agg [.lit (.string [97, 110, 32, 97, 114, 103, 117, 109, 101, 110, 116, 32, 105, 115, 32, 110, 111, 116, 32, 118, 97, 108, 105, 100])]))
def laid_loop_example_g01367_impl_errRange {H : Type} : DataW H := .iface "*errors.errorString" (.ptr (.agg [.lit (.string [97, 110, 32, 97, 114, 103, 117, 109, 101, 110, 116, 32, 105, 115, 32, 111, 117, 116, 32, 111, 102, 32, 105, 116, 115, 32, 114, 97, 110, 103, 101])]))
def laid_loop_example_g01367_impl_errLimit {H : Type} : DataW H := .iface "*errors.errorString" (.ptr (.agg [.lit (.string [116, 104, 101, 114, 101, 32, 97, 114, 101, 32, 116, 111, 111, 32, 109, 97, 110, 121])]))
def laid_loop_example_g01367_impl_errNotFound {H : Type} : DataW H := .iface "*errors.errorString" (.ptr (.agg [.lit (.string [116, 104, 101, 114, 101, 32, 105, 115, 32, 110, 111, 110, 101])]))

/-- 'laws.FnExactStrainOf': WHATEVER THE INPUT: true; the input reads as it did. -/
def fnExactStrainOfSpec : ChangeSpec := { name := "fnExactStrainOf", vars := ["loop.example/g01367/impl.errInvalid", "loop.example/g01367/impl.errRange", "loop.example/g01367/impl.errLimit", "loop.example/g01367/impl.errNotFound"], fn := fun _ => fun
  | [d1, d2, g1, g2, g3, g4] => { results := [.lit (.bool true)], args := [d1, d2], vars := [g1, g2, g3, g4] }
  | _ => none }
def fnExactStrainOfRow : OpenClaim := { program := "ytnienahjfocalaadoor", sum := "27a3dfd919cc8cdaa3c7fcc1931b465ac2cc5d74eac5b0a3f95f78eaf1a0af6f", func := "loop.example/g01367/laws.FnExactStrainOf", spec := "fnExactStrainOf", inPlace := ["internal/reflectlite.TypeOf"], unfollowed := true, recurses := true, named := ["loop.example/g01367/impl.errInvalid", "loop.example/g01367/impl.errRange", "loop.example/g01367/impl.errLimit", "loop.example/g01367/impl.errNotFound"], ifaces := true, plainKeys := false, apart := false, laid := [("loop.example/g01367/impl.errInvalid", laid_loop_example_g01367_impl_errInvalid), ("loop.example/g01367/impl.errRange", laid_loop_example_g01367_impl_errRange), ("loop.example/g01367/impl.errLimit", laid_loop_example_g01367_impl_errLimit), ("loop.example/g01367/impl.errNotFound", laid_loop_example_g01367_impl_errNotFound)] }
def FnExactStrainOfSaid : Prop := fnExactStrainOfRow.holds Tryd.pinned (OpenSpec.ofChange fnExactStrainOfSpec)

/-- ITS FALSE NEIGHBOUR: 'it returns false'. Refute it at one input. -/
def fnExactStrainOfWrong : ChangeSpec := { name := "fnExactStrainOf", vars := ["loop.example/g01367/impl.errInvalid", "loop.example/g01367/impl.errRange", "loop.example/g01367/impl.errLimit", "loop.example/g01367/impl.errNotFound"], fn := fun _ => fun
  | [d1, d2, g1, g2, g3, g4] => { results := [.lit (.bool false)], args := [d1, d2], vars := [g1, g2, g3, g4] }
  | _ => none }
def FnExactStrainOfWrongFalsely : Prop := fnExactStrainOfRow.holds Tryd.pinned (OpenSpec.ofChange fnExactStrainOfWrong)

/-- 'laws.FnExactShadedPart': WHATEVER THE INPUT: true; the input reads as it did. -/
def fnExactShadedPartSpec : ChangeSpec := { name := "fnExactShadedPart", vars := ["loop.example/g01367/impl.errInvalid", "loop.example/g01367/impl.errRange", "loop.example/g01367/impl.errLimit", "loop.example/g01367/impl.errNotFound"], fn := fun _ => fun
  | [d1, d2, d3, d4, g1, g2, g3, g4] => { results := [.lit (.bool true)], args := [d1, d2, d3, d4], vars := [g1, g2, g3, g4] }
  | _ => none }
def fnExactShadedPartRow : OpenClaim := { program := "ytnienahjfocalaadoor", sum := "27a3dfd919cc8cdaa3c7fcc1931b465ac2cc5d74eac5b0a3f95f78eaf1a0af6f", func := "loop.example/g01367/laws.FnExactShadedPart", spec := "fnExactShadedPart", inPlace := ["internal/reflectlite.TypeOf"], unfollowed := true, recurses := true, named := ["loop.example/g01367/impl.errInvalid", "loop.example/g01367/impl.errRange", "loop.example/g01367/impl.errLimit", "loop.example/g01367/impl.errNotFound"], ifaces := true, plainKeys := false, apart := false, laid := [("loop.example/g01367/impl.errInvalid", laid_loop_example_g01367_impl_errInvalid), ("loop.example/g01367/impl.errRange", laid_loop_example_g01367_impl_errRange), ("loop.example/g01367/impl.errLimit", laid_loop_example_g01367_impl_errLimit), ("loop.example/g01367/impl.errNotFound", laid_loop_example_g01367_impl_errNotFound)] }
def FnExactShadedPartSaid : Prop := fnExactShadedPartRow.holds Tryd.pinned (OpenSpec.ofChange fnExactShadedPartSpec)

/-- ITS FALSE NEIGHBOUR: 'it returns false'. Refute it at one input. -/
def fnExactShadedPartWrong : ChangeSpec := { name := "fnExactShadedPart", vars := ["loop.example/g01367/impl.errInvalid", "loop.example/g01367/impl.errRange", "loop.example/g01367/impl.errLimit", "loop.example/g01367/impl.errNotFound"], fn := fun _ => fun
  | [d1, d2, d3, d4, g1, g2, g3, g4] => { results := [.lit (.bool false)], args := [d1, d2, d3, d4], vars := [g1, g2, g3, g4] }
  | _ => none }
def FnExactShadedPartWrongFalsely : Prop := fnExactShadedPartRow.holds Tryd.pinned (OpenSpec.ofChange fnExactShadedPartWrong)

/-- 'laws.FnExactLightBehind': WHATEVER THE INPUT: true; the input reads as it did. -/
def fnExactLightBehindSpec : ChangeSpec := { name := "fnExactLightBehind", vars := ["loop.example/g01367/impl.errInvalid", "loop.example/g01367/impl.errRange", "loop.example/g01367/impl.errLimit", "loop.example/g01367/impl.errNotFound"], fn := fun _ => fun
  | [d1, d2, d3, d4, g1, g2, g3, g4] => { results := [.lit (.bool true)], args := [d1, d2, d3, d4], vars := [g1, g2, g3, g4] }
  | _ => none }
def fnExactLightBehindRow : OpenClaim := { program := "ytnienahjfocalaadoor", sum := "27a3dfd919cc8cdaa3c7fcc1931b465ac2cc5d74eac5b0a3f95f78eaf1a0af6f", func := "loop.example/g01367/laws.FnExactLightBehind", spec := "fnExactLightBehind", inPlace := ["internal/reflectlite.TypeOf"], unfollowed := true, recurses := true, named := ["loop.example/g01367/impl.errInvalid", "loop.example/g01367/impl.errRange", "loop.example/g01367/impl.errLimit", "loop.example/g01367/impl.errNotFound"], ifaces := true, plainKeys := false, apart := false, laid := [("loop.example/g01367/impl.errInvalid", laid_loop_example_g01367_impl_errInvalid), ("loop.example/g01367/impl.errRange", laid_loop_example_g01367_impl_errRange), ("loop.example/g01367/impl.errLimit", laid_loop_example_g01367_impl_errLimit), ("loop.example/g01367/impl.errNotFound", laid_loop_example_g01367_impl_errNotFound)] }
def FnExactLightBehindSaid : Prop := fnExactLightBehindRow.holds Tryd.pinned (OpenSpec.ofChange fnExactLightBehindSpec)

/-- ITS FALSE NEIGHBOUR: 'it returns false'. Refute it at one input. -/
def fnExactLightBehindWrong : ChangeSpec := { name := "fnExactLightBehind", vars := ["loop.example/g01367/impl.errInvalid", "loop.example/g01367/impl.errRange", "loop.example/g01367/impl.errLimit", "loop.example/g01367/impl.errNotFound"], fn := fun _ => fun
  | [d1, d2, d3, d4, g1, g2, g3, g4] => { results := [.lit (.bool false)], args := [d1, d2, d3, d4], vars := [g1, g2, g3, g4] }
  | _ => none }
def FnExactLightBehindWrongFalsely : Prop := fnExactLightBehindRow.holds Tryd.pinned (OpenSpec.ofChange fnExactLightBehindWrong)

/-- 'laws.FnExactDayBehind': WHATEVER THE INPUT: true; the input reads as it did. -/
def fnExactDayBehindSpec : ChangeSpec := { name := "fnExactDayBehind", vars := ["loop.example/g01367/impl.errInvalid", "loop.example/g01367/impl.errRange", "loop.example/g01367/impl.errLimit", "loop.example/g01367/impl.errNotFound"], fn := fun _ => fun
  | [d1, d2, d3, g1, g2, g3, g4] => { results := [.lit (.bool true)], args := [d1, d2, d3], vars := [g1, g2, g3, g4] }
  | _ => none }
def fnExactDayBehindRow : OpenClaim := { program := "ytnienahjfocalaadoor", sum := "27a3dfd919cc8cdaa3c7fcc1931b465ac2cc5d74eac5b0a3f95f78eaf1a0af6f", func := "loop.example/g01367/laws.FnExactDayBehind", spec := "fnExactDayBehind", inPlace := ["internal/reflectlite.TypeOf"], unfollowed := true, recurses := true, named := ["loop.example/g01367/impl.errInvalid", "loop.example/g01367/impl.errRange", "loop.example/g01367/impl.errLimit", "loop.example/g01367/impl.errNotFound"], ifaces := true, plainKeys := false, apart := false, laid := [("loop.example/g01367/impl.errInvalid", laid_loop_example_g01367_impl_errInvalid), ("loop.example/g01367/impl.errRange", laid_loop_example_g01367_impl_errRange), ("loop.example/g01367/impl.errLimit", laid_loop_example_g01367_impl_errLimit), ("loop.example/g01367/impl.errNotFound", laid_loop_example_g01367_impl_errNotFound)] }
def FnExactDayBehindSaid : Prop := fnExactDayBehindRow.holds Tryd.pinned (OpenSpec.ofChange fnExactDayBehindSpec)

/-- ITS FALSE NEIGHBOUR: 'it returns false'. Refute it at one input. -/
def fnExactDayBehindWrong : ChangeSpec := { name := "fnExactDayBehind", vars := ["loop.example/g01367/impl.errInvalid", "loop.example/g01367/impl.errRange", "loop.example/g01367/impl.errLimit", "loop.example/g01367/impl.errNotFound"], fn := fun _ => fun
  | [d1, d2, d3, g1, g2, g3, g4] => { results := [.lit (.bool false)], args := [d1, d2, d3], vars := [g1, g2, g3, g4] }
  | _ => none }
def FnExactDayBehindWrongFalsely : Prop := fnExactDayBehindRow.holds Tryd.pinned (OpenSpec.ofChange fnExactDayBehindWrong)

/-- 'laws.FnExactGustyDay': WHATEVER THE INPUT: true; the input reads as it did. -/
def fnExactGustyDaySpec : ChangeSpec := { name := "fnExactGustyDay", vars := ["loop.example/g01367/impl.errInvalid", "loop.example/g01367/impl.errRange", "loop.example/g01367/impl.errLimit", "loop.example/g01367/impl.errNotFound"], fn := fun _ => fun
  | [d1, d2, d3, d4, g1, g2, g3, g4] => { results := [.lit (.bool true)], args := [d1, d2, d3, d4], vars := [g1, g2, g3, g4] }
  | _ => none }
def fnExactGustyDayRow : OpenClaim := { program := "ytnienahjfocalaadoor", sum := "27a3dfd919cc8cdaa3c7fcc1931b465ac2cc5d74eac5b0a3f95f78eaf1a0af6f", func := "loop.example/g01367/laws.FnExactGustyDay", spec := "fnExactGustyDay", inPlace := ["internal/reflectlite.TypeOf"], unfollowed := true, recurses := true, named := ["loop.example/g01367/impl.errInvalid", "loop.example/g01367/impl.errRange", "loop.example/g01367/impl.errLimit", "loop.example/g01367/impl.errNotFound"], ifaces := true, plainKeys := false, apart := false, laid := [("loop.example/g01367/impl.errInvalid", laid_loop_example_g01367_impl_errInvalid), ("loop.example/g01367/impl.errRange", laid_loop_example_g01367_impl_errRange), ("loop.example/g01367/impl.errLimit", laid_loop_example_g01367_impl_errLimit), ("loop.example/g01367/impl.errNotFound", laid_loop_example_g01367_impl_errNotFound)] }
def FnExactGustyDaySaid : Prop := fnExactGustyDayRow.holds Tryd.pinned (OpenSpec.ofChange fnExactGustyDaySpec)

/-- ITS FALSE NEIGHBOUR: 'it returns false'. Refute it at one input. -/
def fnExactGustyDayWrong : ChangeSpec := { name := "fnExactGustyDay", vars := ["loop.example/g01367/impl.errInvalid", "loop.example/g01367/impl.errRange", "loop.example/g01367/impl.errLimit", "loop.example/g01367/impl.errNotFound"], fn := fun _ => fun
  | [d1, d2, d3, d4, g1, g2, g3, g4] => { results := [.lit (.bool false)], args := [d1, d2, d3, d4], vars := [g1, g2, g3, g4] }
  | _ => none }
def FnExactGustyDayWrongFalsely : Prop := fnExactGustyDayRow.holds Tryd.pinned (OpenSpec.ofChange fnExactGustyDayWrong)

/-- 'laws.FnExactShadedHours': WHATEVER THE INPUT: true; the input reads as it did. -/
def fnExactShadedHoursSpec : ChangeSpec := { name := "fnExactShadedHours", vars := ["loop.example/g01367/impl.errInvalid", "loop.example/g01367/impl.errRange", "loop.example/g01367/impl.errLimit", "loop.example/g01367/impl.errNotFound"], fn := fun _ => fun
  | [d1, d2, d3, d4, g1, g2, g3, g4] => { results := [.lit (.bool true)], args := [d1, d2, d3, d4], vars := [g1, g2, g3, g4] }
  | _ => none }
def fnExactShadedHoursRow : OpenClaim := { program := "ytnienahjfocalaadoor", sum := "27a3dfd919cc8cdaa3c7fcc1931b465ac2cc5d74eac5b0a3f95f78eaf1a0af6f", func := "loop.example/g01367/laws.FnExactShadedHours", spec := "fnExactShadedHours", inPlace := ["internal/reflectlite.TypeOf"], unfollowed := true, recurses := true, named := ["loop.example/g01367/impl.errInvalid", "loop.example/g01367/impl.errRange", "loop.example/g01367/impl.errLimit", "loop.example/g01367/impl.errNotFound"], ifaces := true, plainKeys := false, apart := false, laid := [("loop.example/g01367/impl.errInvalid", laid_loop_example_g01367_impl_errInvalid), ("loop.example/g01367/impl.errRange", laid_loop_example_g01367_impl_errRange), ("loop.example/g01367/impl.errLimit", laid_loop_example_g01367_impl_errLimit), ("loop.example/g01367/impl.errNotFound", laid_loop_example_g01367_impl_errNotFound)] }
def FnExactShadedHoursSaid : Prop := fnExactShadedHoursRow.holds Tryd.pinned (OpenSpec.ofChange fnExactShadedHoursSpec)

/-- ITS FALSE NEIGHBOUR: 'it returns false'. Refute it at one input. -/
def fnExactShadedHoursWrong : ChangeSpec := { name := "fnExactShadedHours", vars := ["loop.example/g01367/impl.errInvalid", "loop.example/g01367/impl.errRange", "loop.example/g01367/impl.errLimit", "loop.example/g01367/impl.errNotFound"], fn := fun _ => fun
  | [d1, d2, d3, d4, g1, g2, g3, g4] => { results := [.lit (.bool false)], args := [d1, d2, d3, d4], vars := [g1, g2, g3, g4] }
  | _ => none }
def FnExactShadedHoursWrongFalsely : Prop := fnExactShadedHoursRow.holds Tryd.pinned (OpenSpec.ofChange fnExactShadedHoursWrong)

/-- 'laws.FnExactOutFor': WHATEVER THE INPUT: true; the input reads as it did. -/
def fnExactOutForSpec : ChangeSpec := { name := "fnExactOutFor", vars := ["loop.example/g01367/impl.errInvalid", "loop.example/g01367/impl.errRange", "loop.example/g01367/impl.errLimit", "loop.example/g01367/impl.errNotFound"], fn := fun _ => fun
  | [d1, d2, d3, d4, d5, g1, g2, g3, g4] => { results := [.lit (.bool true)], args := [d1, d2, d3, d4, d5], vars := [g1, g2, g3, g4] }
  | _ => none }
def fnExactOutForRow : OpenClaim := { program := "ytnienahjfocalaadoor", sum := "27a3dfd919cc8cdaa3c7fcc1931b465ac2cc5d74eac5b0a3f95f78eaf1a0af6f", func := "loop.example/g01367/laws.FnExactOutFor", spec := "fnExactOutFor", inPlace := ["internal/reflectlite.TypeOf"], unfollowed := true, recurses := true, named := ["loop.example/g01367/impl.errInvalid", "loop.example/g01367/impl.errRange", "loop.example/g01367/impl.errLimit", "loop.example/g01367/impl.errNotFound"], ifaces := true, plainKeys := false, apart := false, laid := [("loop.example/g01367/impl.errInvalid", laid_loop_example_g01367_impl_errInvalid), ("loop.example/g01367/impl.errRange", laid_loop_example_g01367_impl_errRange), ("loop.example/g01367/impl.errLimit", laid_loop_example_g01367_impl_errLimit), ("loop.example/g01367/impl.errNotFound", laid_loop_example_g01367_impl_errNotFound)] }
def FnExactOutForSaid : Prop := fnExactOutForRow.holds Tryd.pinned (OpenSpec.ofChange fnExactOutForSpec)

/-- ITS FALSE NEIGHBOUR: 'it returns false'. Refute it at one input. -/
def fnExactOutForWrong : ChangeSpec := { name := "fnExactOutFor", vars := ["loop.example/g01367/impl.errInvalid", "loop.example/g01367/impl.errRange", "loop.example/g01367/impl.errLimit", "loop.example/g01367/impl.errNotFound"], fn := fun _ => fun
  | [d1, d2, d3, d4, d5, g1, g2, g3, g4] => { results := [.lit (.bool false)], args := [d1, d2, d3, d4, d5], vars := [g1, g2, g3, g4] }
  | _ => none }
def FnExactOutForWrongFalsely : Prop := fnExactOutForRow.holds Tryd.pinned (OpenSpec.ofChange fnExactOutForWrong)

/-- 'laws.FnExactHiddenAt': WHATEVER THE INPUT: true; the input reads as it did. -/
def fnExactHiddenAtSpec : ChangeSpec := { name := "fnExactHiddenAt", vars := ["loop.example/g01367/impl.errInvalid", "loop.example/g01367/impl.errRange", "loop.example/g01367/impl.errLimit", "loop.example/g01367/impl.errNotFound"], fn := fun _ => fun
  | [d1, d2, d3, g1, g2, g3, g4] => { results := [.lit (.bool true)], args := [d1, d2, d3], vars := [g1, g2, g3, g4] }
  | _ => none }
def fnExactHiddenAtRow : OpenClaim := { program := "ytnienahjfocalaadoor", sum := "27a3dfd919cc8cdaa3c7fcc1931b465ac2cc5d74eac5b0a3f95f78eaf1a0af6f", func := "loop.example/g01367/laws.FnExactHiddenAt", spec := "fnExactHiddenAt", inPlace := ["internal/reflectlite.TypeOf"], unfollowed := true, recurses := true, named := ["loop.example/g01367/impl.errInvalid", "loop.example/g01367/impl.errRange", "loop.example/g01367/impl.errLimit", "loop.example/g01367/impl.errNotFound"], ifaces := true, plainKeys := false, apart := false, laid := [("loop.example/g01367/impl.errInvalid", laid_loop_example_g01367_impl_errInvalid), ("loop.example/g01367/impl.errRange", laid_loop_example_g01367_impl_errRange), ("loop.example/g01367/impl.errLimit", laid_loop_example_g01367_impl_errLimit), ("loop.example/g01367/impl.errNotFound", laid_loop_example_g01367_impl_errNotFound)] }
def FnExactHiddenAtSaid : Prop := fnExactHiddenAtRow.holds Tryd.pinned (OpenSpec.ofChange fnExactHiddenAtSpec)

/-- ITS FALSE NEIGHBOUR: 'it returns false'. Refute it at one input. -/
def fnExactHiddenAtWrong : ChangeSpec := { name := "fnExactHiddenAt", vars := ["loop.example/g01367/impl.errInvalid", "loop.example/g01367/impl.errRange", "loop.example/g01367/impl.errLimit", "loop.example/g01367/impl.errNotFound"], fn := fun _ => fun
  | [d1, d2, d3, g1, g2, g3, g4] => { results := [.lit (.bool false)], args := [d1, d2, d3], vars := [g1, g2, g3, g4] }
  | _ => none }
def FnExactHiddenAtWrongFalsely : Prop := fnExactHiddenAtRow.holds Tryd.pinned (OpenSpec.ofChange fnExactHiddenAtWrong)

/-- 'laws.FnExactHiddenHours': WHATEVER THE INPUT: true; the input reads as it did. -/
def fnExactHiddenHoursSpec : ChangeSpec := { name := "fnExactHiddenHours", vars := ["loop.example/g01367/impl.errInvalid", "loop.example/g01367/impl.errRange", "loop.example/g01367/impl.errLimit", "loop.example/g01367/impl.errNotFound"], fn := fun _ => fun
  | [d1, d2, g1, g2, g3, g4] => { results := [.lit (.bool true)], args := [d1, d2], vars := [g1, g2, g3, g4] }
  | _ => none }
def fnExactHiddenHoursRow : OpenClaim := { program := "ytnienahjfocalaadoor", sum := "27a3dfd919cc8cdaa3c7fcc1931b465ac2cc5d74eac5b0a3f95f78eaf1a0af6f", func := "loop.example/g01367/laws.FnExactHiddenHours", spec := "fnExactHiddenHours", inPlace := ["internal/reflectlite.TypeOf"], unfollowed := true, recurses := true, named := ["loop.example/g01367/impl.errInvalid", "loop.example/g01367/impl.errRange", "loop.example/g01367/impl.errLimit", "loop.example/g01367/impl.errNotFound"], ifaces := true, plainKeys := false, apart := false, laid := [("loop.example/g01367/impl.errInvalid", laid_loop_example_g01367_impl_errInvalid), ("loop.example/g01367/impl.errRange", laid_loop_example_g01367_impl_errRange), ("loop.example/g01367/impl.errLimit", laid_loop_example_g01367_impl_errLimit), ("loop.example/g01367/impl.errNotFound", laid_loop_example_g01367_impl_errNotFound)] }
def FnExactHiddenHoursSaid : Prop := fnExactHiddenHoursRow.holds Tryd.pinned (OpenSpec.ofChange fnExactHiddenHoursSpec)

/-- ITS FALSE NEIGHBOUR: 'it returns false'. Refute it at one input. -/
def fnExactHiddenHoursWrong : ChangeSpec := { name := "fnExactHiddenHours", vars := ["loop.example/g01367/impl.errInvalid", "loop.example/g01367/impl.errRange", "loop.example/g01367/impl.errLimit", "loop.example/g01367/impl.errNotFound"], fn := fun _ => fun
  | [d1, d2, g1, g2, g3, g4] => { results := [.lit (.bool false)], args := [d1, d2], vars := [g1, g2, g3, g4] }
  | _ => none }
def FnExactHiddenHoursWrongFalsely : Prop := fnExactHiddenHoursRow.holds Tryd.pinned (OpenSpec.ofChange fnExactHiddenHoursWrong)

/-- 'laws.FnExactBareSun': WHATEVER THE INPUT: true; the input reads as it did. -/
def fnExactBareSunSpec : ChangeSpec := { name := "fnExactBareSun", vars := ["loop.example/g01367/impl.errInvalid", "loop.example/g01367/impl.errRange", "loop.example/g01367/impl.errLimit", "loop.example/g01367/impl.errNotFound"], fn := fun _ => fun
  | [d1, d2, g1, g2, g3, g4] => { results := [.lit (.bool true)], args := [d1, d2], vars := [g1, g2, g3, g4] }
  | _ => none }
def fnExactBareSunRow : OpenClaim := { program := "ytnienahjfocalaadoor", sum := "27a3dfd919cc8cdaa3c7fcc1931b465ac2cc5d74eac5b0a3f95f78eaf1a0af6f", func := "loop.example/g01367/laws.FnExactBareSun", spec := "fnExactBareSun", inPlace := ["internal/reflectlite.TypeOf"], unfollowed := true, recurses := true, named := ["loop.example/g01367/impl.errInvalid", "loop.example/g01367/impl.errRange", "loop.example/g01367/impl.errLimit", "loop.example/g01367/impl.errNotFound"], ifaces := true, plainKeys := false, apart := false, laid := [("loop.example/g01367/impl.errInvalid", laid_loop_example_g01367_impl_errInvalid), ("loop.example/g01367/impl.errRange", laid_loop_example_g01367_impl_errRange), ("loop.example/g01367/impl.errLimit", laid_loop_example_g01367_impl_errLimit), ("loop.example/g01367/impl.errNotFound", laid_loop_example_g01367_impl_errNotFound)] }
def FnExactBareSunSaid : Prop := fnExactBareSunRow.holds Tryd.pinned (OpenSpec.ofChange fnExactBareSunSpec)

/-- ITS FALSE NEIGHBOUR: 'it returns false'. Refute it at one input. -/
def fnExactBareSunWrong : ChangeSpec := { name := "fnExactBareSun", vars := ["loop.example/g01367/impl.errInvalid", "loop.example/g01367/impl.errRange", "loop.example/g01367/impl.errLimit", "loop.example/g01367/impl.errNotFound"], fn := fun _ => fun
  | [d1, d2, g1, g2, g3, g4] => { results := [.lit (.bool false)], args := [d1, d2], vars := [g1, g2, g3, g4] }
  | _ => none }
def FnExactBareSunWrongFalsely : Prop := fnExactBareSunRow.holds Tryd.pinned (OpenSpec.ofChange fnExactBareSunWrong)

/-- 'laws.FnExactBestAwning': WHATEVER THE INPUT: true; the input reads as it did. -/
def fnExactBestAwningSpec : ChangeSpec := { name := "fnExactBestAwning", vars := ["loop.example/g01367/impl.errInvalid", "loop.example/g01367/impl.errRange", "loop.example/g01367/impl.errLimit", "loop.example/g01367/impl.errNotFound"], fn := fun _ => fun
  | [d1, d2, d3, g1, g2, g3, g4] => { results := [.lit (.bool true)], args := [d1, d2, d3], vars := [g1, g2, g3, g4] }
  | _ => none }
def fnExactBestAwningRow : OpenClaim := { program := "ytnienahjfocalaadoor", sum := "27a3dfd919cc8cdaa3c7fcc1931b465ac2cc5d74eac5b0a3f95f78eaf1a0af6f", func := "loop.example/g01367/laws.FnExactBestAwning", spec := "fnExactBestAwning", inPlace := ["internal/reflectlite.TypeOf"], unfollowed := true, recurses := true, named := ["loop.example/g01367/impl.errInvalid", "loop.example/g01367/impl.errRange", "loop.example/g01367/impl.errLimit", "loop.example/g01367/impl.errNotFound"], ifaces := true, plainKeys := false, apart := false, laid := [("loop.example/g01367/impl.errInvalid", laid_loop_example_g01367_impl_errInvalid), ("loop.example/g01367/impl.errRange", laid_loop_example_g01367_impl_errRange), ("loop.example/g01367/impl.errLimit", laid_loop_example_g01367_impl_errLimit), ("loop.example/g01367/impl.errNotFound", laid_loop_example_g01367_impl_errNotFound)] }
def FnExactBestAwningSaid : Prop := fnExactBestAwningRow.holds Tryd.pinned (OpenSpec.ofChange fnExactBestAwningSpec)

/-- ITS FALSE NEIGHBOUR: 'it returns false'. Refute it at one input. -/
def fnExactBestAwningWrong : ChangeSpec := { name := "fnExactBestAwning", vars := ["loop.example/g01367/impl.errInvalid", "loop.example/g01367/impl.errRange", "loop.example/g01367/impl.errLimit", "loop.example/g01367/impl.errNotFound"], fn := fun _ => fun
  | [d1, d2, d3, g1, g2, g3, g4] => { results := [.lit (.bool false)], args := [d1, d2, d3], vars := [g1, g2, g3, g4] }
  | _ => none }
def FnExactBestAwningWrongFalsely : Prop := fnExactBestAwningRow.holds Tryd.pinned (OpenSpec.ofChange fnExactBestAwningWrong)

/-- 'laws.FnExactGlareAt': WHATEVER THE INPUT: true; the input reads as it did. -/
def fnExactGlareAtSpec : ChangeSpec := { name := "fnExactGlareAt", vars := ["loop.example/g01367/impl.errInvalid", "loop.example/g01367/impl.errRange", "loop.example/g01367/impl.errLimit", "loop.example/g01367/impl.errNotFound"], fn := fun _ => fun
  | [d1, d2, g1, g2, g3, g4] => { results := [.lit (.bool true)], args := [d1, d2], vars := [g1, g2, g3, g4] }
  | _ => none }
def fnExactGlareAtRow : OpenClaim := { program := "ytnienahjfocalaadoor", sum := "27a3dfd919cc8cdaa3c7fcc1931b465ac2cc5d74eac5b0a3f95f78eaf1a0af6f", func := "loop.example/g01367/laws.FnExactGlareAt", spec := "fnExactGlareAt", inPlace := ["internal/reflectlite.TypeOf"], unfollowed := true, recurses := true, named := ["loop.example/g01367/impl.errInvalid", "loop.example/g01367/impl.errRange", "loop.example/g01367/impl.errLimit", "loop.example/g01367/impl.errNotFound"], ifaces := true, plainKeys := false, apart := false, laid := [("loop.example/g01367/impl.errInvalid", laid_loop_example_g01367_impl_errInvalid), ("loop.example/g01367/impl.errRange", laid_loop_example_g01367_impl_errRange), ("loop.example/g01367/impl.errLimit", laid_loop_example_g01367_impl_errLimit), ("loop.example/g01367/impl.errNotFound", laid_loop_example_g01367_impl_errNotFound)] }
def FnExactGlareAtSaid : Prop := fnExactGlareAtRow.holds Tryd.pinned (OpenSpec.ofChange fnExactGlareAtSpec)

/-- ITS FALSE NEIGHBOUR: 'it returns false'. Refute it at one input. -/
def fnExactGlareAtWrong : ChangeSpec := { name := "fnExactGlareAt", vars := ["loop.example/g01367/impl.errInvalid", "loop.example/g01367/impl.errRange", "loop.example/g01367/impl.errLimit", "loop.example/g01367/impl.errNotFound"], fn := fun _ => fun
  | [d1, d2, g1, g2, g3, g4] => { results := [.lit (.bool false)], args := [d1, d2], vars := [g1, g2, g3, g4] }
  | _ => none }
def FnExactGlareAtWrongFalsely : Prop := fnExactGlareAtRow.holds Tryd.pinned (OpenSpec.ofChange fnExactGlareAtWrong)

/- THE SECOND FORM. 'bulk': how many values and letters a reading holds, each counted each time it is reached (what is shared counts as often as it is met; a slice's spare places count too). A statement '..UptoSaid' is the law's where the arguments, and the package variables that the reading takes, are together of bulk at most 1048576: NARROWER than '..Said'. Prove '..Said' where nothing that the law and all that it calls make is longer than what came in: it says more and counts as full. Else prove '..UptoSaid'. A law counts once. -/
mutual
def uptoBulk {H : Type} : DataW H → Nat
  | .lit (.string bytes) => bytes.length + 1
  | .lit _ => 1
  | .nil => 1
  | .ptr d => uptoBulk d + 1
  | .slice elems spare => uptoBulkAll elems + uptoBulkAll spare + 1
  | .agg parts => uptoBulkAll parts + 1
  | .iface _ d => uptoBulk d + 1
  | .map entries => uptoBulkEntries entries + 1
  | .held _ => 1
def uptoBulkAll {H : Type} : List (DataW H) → Nat
  | [] => 0
  | d :: r => uptoBulk d + uptoBulkAll r
def uptoBulkEntries {H : Type} : List (Lit × DataW H) → Nat
  | [] => 0
  | x :: r => uptoBulkEntry x + uptoBulkEntries r
def uptoBulkEntry {H : Type} : Lit × DataW H → Nat
  | (.string bytes, d) => bytes.length + uptoBulk d + 1
  | (_, d) => uptoBulk d + 1
 end
def uptoSmall : (H : Type) → List (DataW H) → Bool := fun _ ds => decide (uptoBulkAll ds ≤ 1048576)
def OpenSpec.upto (s : _root_.Go.ChangeSpec) : _root_.Go.OpenSpec := { _root_.Go.OpenSpec.ofChange s with cond := some uptoSmall }

/-- 'laws.FnExactStrainOf', WHERE WHAT IT READS IS OF BULK AT MOST 1048576: true; the input reads as it did. -/
def fnExactStrainOfUptoRow : OpenClaim := { program := "ytnienahjfocalaadoor", sum := "27a3dfd919cc8cdaa3c7fcc1931b465ac2cc5d74eac5b0a3f95f78eaf1a0af6f", func := "loop.example/g01367/laws.FnExactStrainOf", spec := "fnExactStrainOf", inPlace := ["internal/reflectlite.TypeOf"], unfollowed := true, recurses := true, named := ["loop.example/g01367/impl.errInvalid", "loop.example/g01367/impl.errRange", "loop.example/g01367/impl.errLimit", "loop.example/g01367/impl.errNotFound"], ifaces := true, plainKeys := false, apart := false, laid := [("loop.example/g01367/impl.errInvalid", laid_loop_example_g01367_impl_errInvalid), ("loop.example/g01367/impl.errRange", laid_loop_example_g01367_impl_errRange), ("loop.example/g01367/impl.errLimit", laid_loop_example_g01367_impl_errLimit), ("loop.example/g01367/impl.errNotFound", laid_loop_example_g01367_impl_errNotFound)], narrowed := true }
def FnExactStrainOfUptoSaid : Prop := fnExactStrainOfUptoRow.holds Tryd.pinned (OpenSpec.upto fnExactStrainOfSpec)

/-- 'laws.FnExactShadedPart', WHERE WHAT IT READS IS OF BULK AT MOST 1048576: true; the input reads as it did. -/
def fnExactShadedPartUptoRow : OpenClaim := { program := "ytnienahjfocalaadoor", sum := "27a3dfd919cc8cdaa3c7fcc1931b465ac2cc5d74eac5b0a3f95f78eaf1a0af6f", func := "loop.example/g01367/laws.FnExactShadedPart", spec := "fnExactShadedPart", inPlace := ["internal/reflectlite.TypeOf"], unfollowed := true, recurses := true, named := ["loop.example/g01367/impl.errInvalid", "loop.example/g01367/impl.errRange", "loop.example/g01367/impl.errLimit", "loop.example/g01367/impl.errNotFound"], ifaces := true, plainKeys := false, apart := false, laid := [("loop.example/g01367/impl.errInvalid", laid_loop_example_g01367_impl_errInvalid), ("loop.example/g01367/impl.errRange", laid_loop_example_g01367_impl_errRange), ("loop.example/g01367/impl.errLimit", laid_loop_example_g01367_impl_errLimit), ("loop.example/g01367/impl.errNotFound", laid_loop_example_g01367_impl_errNotFound)], narrowed := true }
def FnExactShadedPartUptoSaid : Prop := fnExactShadedPartUptoRow.holds Tryd.pinned (OpenSpec.upto fnExactShadedPartSpec)

/-- 'laws.FnExactLightBehind', WHERE WHAT IT READS IS OF BULK AT MOST 1048576: true; the input reads as it did. -/
def fnExactLightBehindUptoRow : OpenClaim := { program := "ytnienahjfocalaadoor", sum := "27a3dfd919cc8cdaa3c7fcc1931b465ac2cc5d74eac5b0a3f95f78eaf1a0af6f", func := "loop.example/g01367/laws.FnExactLightBehind", spec := "fnExactLightBehind", inPlace := ["internal/reflectlite.TypeOf"], unfollowed := true, recurses := true, named := ["loop.example/g01367/impl.errInvalid", "loop.example/g01367/impl.errRange", "loop.example/g01367/impl.errLimit", "loop.example/g01367/impl.errNotFound"], ifaces := true, plainKeys := false, apart := false, laid := [("loop.example/g01367/impl.errInvalid", laid_loop_example_g01367_impl_errInvalid), ("loop.example/g01367/impl.errRange", laid_loop_example_g01367_impl_errRange), ("loop.example/g01367/impl.errLimit", laid_loop_example_g01367_impl_errLimit), ("loop.example/g01367/impl.errNotFound", laid_loop_example_g01367_impl_errNotFound)], narrowed := true }
def FnExactLightBehindUptoSaid : Prop := fnExactLightBehindUptoRow.holds Tryd.pinned (OpenSpec.upto fnExactLightBehindSpec)

/-- 'laws.FnExactDayBehind', WHERE WHAT IT READS IS OF BULK AT MOST 1048576: true; the input reads as it did. -/
def fnExactDayBehindUptoRow : OpenClaim := { program := "ytnienahjfocalaadoor", sum := "27a3dfd919cc8cdaa3c7fcc1931b465ac2cc5d74eac5b0a3f95f78eaf1a0af6f", func := "loop.example/g01367/laws.FnExactDayBehind", spec := "fnExactDayBehind", inPlace := ["internal/reflectlite.TypeOf"], unfollowed := true, recurses := true, named := ["loop.example/g01367/impl.errInvalid", "loop.example/g01367/impl.errRange", "loop.example/g01367/impl.errLimit", "loop.example/g01367/impl.errNotFound"], ifaces := true, plainKeys := false, apart := false, laid := [("loop.example/g01367/impl.errInvalid", laid_loop_example_g01367_impl_errInvalid), ("loop.example/g01367/impl.errRange", laid_loop_example_g01367_impl_errRange), ("loop.example/g01367/impl.errLimit", laid_loop_example_g01367_impl_errLimit), ("loop.example/g01367/impl.errNotFound", laid_loop_example_g01367_impl_errNotFound)], narrowed := true }
def FnExactDayBehindUptoSaid : Prop := fnExactDayBehindUptoRow.holds Tryd.pinned (OpenSpec.upto fnExactDayBehindSpec)

/-- 'laws.FnExactGustyDay', WHERE WHAT IT READS IS OF BULK AT MOST 1048576: true; the input reads as it did. -/
def fnExactGustyDayUptoRow : OpenClaim := { program := "ytnienahjfocalaadoor", sum := "27a3dfd919cc8cdaa3c7fcc1931b465ac2cc5d74eac5b0a3f95f78eaf1a0af6f", func := "loop.example/g01367/laws.FnExactGustyDay", spec := "fnExactGustyDay", inPlace := ["internal/reflectlite.TypeOf"], unfollowed := true, recurses := true, named := ["loop.example/g01367/impl.errInvalid", "loop.example/g01367/impl.errRange", "loop.example/g01367/impl.errLimit", "loop.example/g01367/impl.errNotFound"], ifaces := true, plainKeys := false, apart := false, laid := [("loop.example/g01367/impl.errInvalid", laid_loop_example_g01367_impl_errInvalid), ("loop.example/g01367/impl.errRange", laid_loop_example_g01367_impl_errRange), ("loop.example/g01367/impl.errLimit", laid_loop_example_g01367_impl_errLimit), ("loop.example/g01367/impl.errNotFound", laid_loop_example_g01367_impl_errNotFound)], narrowed := true }
def FnExactGustyDayUptoSaid : Prop := fnExactGustyDayUptoRow.holds Tryd.pinned (OpenSpec.upto fnExactGustyDaySpec)

/-- 'laws.FnExactShadedHours', WHERE WHAT IT READS IS OF BULK AT MOST 1048576: true; the input reads as it did. -/
def fnExactShadedHoursUptoRow : OpenClaim := { program := "ytnienahjfocalaadoor", sum := "27a3dfd919cc8cdaa3c7fcc1931b465ac2cc5d74eac5b0a3f95f78eaf1a0af6f", func := "loop.example/g01367/laws.FnExactShadedHours", spec := "fnExactShadedHours", inPlace := ["internal/reflectlite.TypeOf"], unfollowed := true, recurses := true, named := ["loop.example/g01367/impl.errInvalid", "loop.example/g01367/impl.errRange", "loop.example/g01367/impl.errLimit", "loop.example/g01367/impl.errNotFound"], ifaces := true, plainKeys := false, apart := false, laid := [("loop.example/g01367/impl.errInvalid", laid_loop_example_g01367_impl_errInvalid), ("loop.example/g01367/impl.errRange", laid_loop_example_g01367_impl_errRange), ("loop.example/g01367/impl.errLimit", laid_loop_example_g01367_impl_errLimit), ("loop.example/g01367/impl.errNotFound", laid_loop_example_g01367_impl_errNotFound)], narrowed := true }
def FnExactShadedHoursUptoSaid : Prop := fnExactShadedHoursUptoRow.holds Tryd.pinned (OpenSpec.upto fnExactShadedHoursSpec)

/-- 'laws.FnExactOutFor', WHERE WHAT IT READS IS OF BULK AT MOST 1048576: true; the input reads as it did. -/
def fnExactOutForUptoRow : OpenClaim := { program := "ytnienahjfocalaadoor", sum := "27a3dfd919cc8cdaa3c7fcc1931b465ac2cc5d74eac5b0a3f95f78eaf1a0af6f", func := "loop.example/g01367/laws.FnExactOutFor", spec := "fnExactOutFor", inPlace := ["internal/reflectlite.TypeOf"], unfollowed := true, recurses := true, named := ["loop.example/g01367/impl.errInvalid", "loop.example/g01367/impl.errRange", "loop.example/g01367/impl.errLimit", "loop.example/g01367/impl.errNotFound"], ifaces := true, plainKeys := false, apart := false, laid := [("loop.example/g01367/impl.errInvalid", laid_loop_example_g01367_impl_errInvalid), ("loop.example/g01367/impl.errRange", laid_loop_example_g01367_impl_errRange), ("loop.example/g01367/impl.errLimit", laid_loop_example_g01367_impl_errLimit), ("loop.example/g01367/impl.errNotFound", laid_loop_example_g01367_impl_errNotFound)], narrowed := true }
def FnExactOutForUptoSaid : Prop := fnExactOutForUptoRow.holds Tryd.pinned (OpenSpec.upto fnExactOutForSpec)

/-- 'laws.FnExactHiddenAt', WHERE WHAT IT READS IS OF BULK AT MOST 1048576: true; the input reads as it did. -/
def fnExactHiddenAtUptoRow : OpenClaim := { program := "ytnienahjfocalaadoor", sum := "27a3dfd919cc8cdaa3c7fcc1931b465ac2cc5d74eac5b0a3f95f78eaf1a0af6f", func := "loop.example/g01367/laws.FnExactHiddenAt", spec := "fnExactHiddenAt", inPlace := ["internal/reflectlite.TypeOf"], unfollowed := true, recurses := true, named := ["loop.example/g01367/impl.errInvalid", "loop.example/g01367/impl.errRange", "loop.example/g01367/impl.errLimit", "loop.example/g01367/impl.errNotFound"], ifaces := true, plainKeys := false, apart := false, laid := [("loop.example/g01367/impl.errInvalid", laid_loop_example_g01367_impl_errInvalid), ("loop.example/g01367/impl.errRange", laid_loop_example_g01367_impl_errRange), ("loop.example/g01367/impl.errLimit", laid_loop_example_g01367_impl_errLimit), ("loop.example/g01367/impl.errNotFound", laid_loop_example_g01367_impl_errNotFound)], narrowed := true }
def FnExactHiddenAtUptoSaid : Prop := fnExactHiddenAtUptoRow.holds Tryd.pinned (OpenSpec.upto fnExactHiddenAtSpec)

/-- 'laws.FnExactHiddenHours', WHERE WHAT IT READS IS OF BULK AT MOST 1048576: true; the input reads as it did. -/
def fnExactHiddenHoursUptoRow : OpenClaim := { program := "ytnienahjfocalaadoor", sum := "27a3dfd919cc8cdaa3c7fcc1931b465ac2cc5d74eac5b0a3f95f78eaf1a0af6f", func := "loop.example/g01367/laws.FnExactHiddenHours", spec := "fnExactHiddenHours", inPlace := ["internal/reflectlite.TypeOf"], unfollowed := true, recurses := true, named := ["loop.example/g01367/impl.errInvalid", "loop.example/g01367/impl.errRange", "loop.example/g01367/impl.errLimit", "loop.example/g01367/impl.errNotFound"], ifaces := true, plainKeys := false, apart := false, laid := [("loop.example/g01367/impl.errInvalid", laid_loop_example_g01367_impl_errInvalid), ("loop.example/g01367/impl.errRange", laid_loop_example_g01367_impl_errRange), ("loop.example/g01367/impl.errLimit", laid_loop_example_g01367_impl_errLimit), ("loop.example/g01367/impl.errNotFound", laid_loop_example_g01367_impl_errNotFound)], narrowed := true }
def FnExactHiddenHoursUptoSaid : Prop := fnExactHiddenHoursUptoRow.holds Tryd.pinned (OpenSpec.upto fnExactHiddenHoursSpec)

/-- 'laws.FnExactBareSun', WHERE WHAT IT READS IS OF BULK AT MOST 1048576: true; the input reads as it did. -/
def fnExactBareSunUptoRow : OpenClaim := { program := "ytnienahjfocalaadoor", sum := "27a3dfd919cc8cdaa3c7fcc1931b465ac2cc5d74eac5b0a3f95f78eaf1a0af6f", func := "loop.example/g01367/laws.FnExactBareSun", spec := "fnExactBareSun", inPlace := ["internal/reflectlite.TypeOf"], unfollowed := true, recurses := true, named := ["loop.example/g01367/impl.errInvalid", "loop.example/g01367/impl.errRange", "loop.example/g01367/impl.errLimit", "loop.example/g01367/impl.errNotFound"], ifaces := true, plainKeys := false, apart := false, laid := [("loop.example/g01367/impl.errInvalid", laid_loop_example_g01367_impl_errInvalid), ("loop.example/g01367/impl.errRange", laid_loop_example_g01367_impl_errRange), ("loop.example/g01367/impl.errLimit", laid_loop_example_g01367_impl_errLimit), ("loop.example/g01367/impl.errNotFound", laid_loop_example_g01367_impl_errNotFound)], narrowed := true }
def FnExactBareSunUptoSaid : Prop := fnExactBareSunUptoRow.holds Tryd.pinned (OpenSpec.upto fnExactBareSunSpec)

/-- 'laws.FnExactBestAwning', WHERE WHAT IT READS IS OF BULK AT MOST 1048576: true; the input reads as it did. -/
def fnExactBestAwningUptoRow : OpenClaim := { program := "ytnienahjfocalaadoor", sum := "27a3dfd919cc8cdaa3c7fcc1931b465ac2cc5d74eac5b0a3f95f78eaf1a0af6f", func := "loop.example/g01367/laws.FnExactBestAwning", spec := "fnExactBestAwning", inPlace := ["internal/reflectlite.TypeOf"], unfollowed := true, recurses := true, named := ["loop.example/g01367/impl.errInvalid", "loop.example/g01367/impl.errRange", "loop.example/g01367/impl.errLimit", "loop.example/g01367/impl.errNotFound"], ifaces := true, plainKeys := false, apart := false, laid := [("loop.example/g01367/impl.errInvalid", laid_loop_example_g01367_impl_errInvalid), ("loop.example/g01367/impl.errRange", laid_loop_example_g01367_impl_errRange), ("loop.example/g01367/impl.errLimit", laid_loop_example_g01367_impl_errLimit), ("loop.example/g01367/impl.errNotFound", laid_loop_example_g01367_impl_errNotFound)], narrowed := true }
def FnExactBestAwningUptoSaid : Prop := fnExactBestAwningUptoRow.holds Tryd.pinned (OpenSpec.upto fnExactBestAwningSpec)

/-- 'laws.FnExactGlareAt', WHERE WHAT IT READS IS OF BULK AT MOST 1048576: true; the input reads as it did. -/
def fnExactGlareAtUptoRow : OpenClaim := { program := "ytnienahjfocalaadoor", sum := "27a3dfd919cc8cdaa3c7fcc1931b465ac2cc5d74eac5b0a3f95f78eaf1a0af6f", func := "loop.example/g01367/laws.FnExactGlareAt", spec := "fnExactGlareAt", inPlace := ["internal/reflectlite.TypeOf"], unfollowed := true, recurses := true, named := ["loop.example/g01367/impl.errInvalid", "loop.example/g01367/impl.errRange", "loop.example/g01367/impl.errLimit", "loop.example/g01367/impl.errNotFound"], ifaces := true, plainKeys := false, apart := false, laid := [("loop.example/g01367/impl.errInvalid", laid_loop_example_g01367_impl_errInvalid), ("loop.example/g01367/impl.errRange", laid_loop_example_g01367_impl_errRange), ("loop.example/g01367/impl.errLimit", laid_loop_example_g01367_impl_errLimit), ("loop.example/g01367/impl.errNotFound", laid_loop_example_g01367_impl_errNotFound)], narrowed := true }
def FnExactGlareAtUptoSaid : Prop := fnExactGlareAtUptoRow.holds Tryd.pinned (OpenSpec.upto fnExactGlareAtSpec)

end Rows
end Go.Proofs.YtnienahjfocalaaDoor
