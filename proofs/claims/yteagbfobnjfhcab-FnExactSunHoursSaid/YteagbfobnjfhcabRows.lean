/-
  No cell of these rows narrows 'for every input' (looked for: loops, veiled, ifaces, maps, wideKeys, modest, calm, conditions, laid).
  DERIVED. THE GIVEN ROWS OF THIS SEAT. 11 by the template 'for every input the law returns true; each argument reads behind the call as it read before'; 0 by the template 'total and deterministic' (their statements: YteagbfobnjfhcabTotals.lean).
  GIVEN WITH THE SEED: the statements are not yours to turn. If you find one false, say at which input.
  Laid BY PROGRAM, IN A SANDBOX (cutbox-rows.mjs): the forced cells as the released guide's own fill.sh prints them over the translation 62cfc18f45b6c72b… (all of the seat's roots in one cut). By AI agents, Wed Nov 11 2026. No macro, syntax, notation, axiom, sorry.
-/
import Derived.Test.YteagbfobnjfhcabChecked
import GoSem.Claim
import GoSem.ClaimJoined
import GoSem.ClaimMapViews
import Derived.JoinedTies
import Derived.KernelRfl
namespace Go.Proofs.Yteagbfobnjfhcab
/- THE CELL 'sum', in the pinned program and in every row, IS THE sha256 OF THE DUMP (.gsa) THAT YteagbfobnjfhcabProg.lean LOADS. Nothing in Lean hashes anything: it is a label: what it is worth is what the hold of that sum in a sandbox is worth. -/
noncomputable def Try.pinned : Pinned := { name := "yteagbfobnjfhcab", sum := "62cfc18f45b6c72bedb20bca27a13fe3c25d4970770624978fbc958442208cc0", checked := Try.checked }
namespace Rows
def none {H : Type} : Left H := { results := [], args := [] }

/-- 'laws.FnExactValidCord': WHATEVER THE INPUT: true; the input reads as it did. -/
def fnExactValidCordSpec : ChangeSpec := { name := "fnExactValidCord", fn := fun _ => fun
  | [d] => { results := [.lit (.bool true)], args := [d] }
  | _ => none }
def fnExactValidCordRow : OpenClaim := { program := "yteagbfobnjfhcab", sum := "62cfc18f45b6c72bedb20bca27a13fe3c25d4970770624978fbc958442208cc0", func := "loop.example/g01367/laws.FnExactValidCord", spec := "fnExactValidCord", plainKeys := false, apart := false }
def FnExactValidCordSaid : Prop := fnExactValidCordRow.holds Try.pinned (OpenSpec.ofChange fnExactValidCordSpec)

/-- ITS FALSE NEIGHBOUR: 'it returns false'. Refute it at one input. -/
def fnExactValidCordWrong : ChangeSpec := { name := "fnExactValidCord", fn := fun _ => fun
  | [d] => { results := [.lit (.bool false)], args := [d] }
  | _ => none }
def FnExactValidCordWrongFalsely : Prop := fnExactValidCordRow.holds Try.pinned (OpenSpec.ofChange fnExactValidCordWrong)

/-- 'laws.FnExactStretchedCord': WHATEVER THE INPUT: true; the input reads as it did. -/
def fnExactStretchedCordSpec : ChangeSpec := { name := "fnExactStretchedCord", fn := fun _ => fun
  | [d1, d2] => { results := [.lit (.bool true)], args := [d1, d2] }
  | _ => none }
def fnExactStretchedCordRow : OpenClaim := { program := "yteagbfobnjfhcab", sum := "62cfc18f45b6c72bedb20bca27a13fe3c25d4970770624978fbc958442208cc0", func := "loop.example/g01367/laws.FnExactStretchedCord", spec := "fnExactStretchedCord", plainKeys := false, apart := false }
def FnExactStretchedCordSaid : Prop := fnExactStretchedCordRow.holds Try.pinned (OpenSpec.ofChange fnExactStretchedCordSpec)

/-- ITS FALSE NEIGHBOUR: 'it returns false'. Refute it at one input. -/
def fnExactStretchedCordWrong : ChangeSpec := { name := "fnExactStretchedCord", fn := fun _ => fun
  | [d1, d2] => { results := [.lit (.bool false)], args := [d1, d2] }
  | _ => none }
def FnExactStretchedCordWrongFalsely : Prop := fnExactStretchedCordRow.holds Try.pinned (OpenSpec.ofChange fnExactStretchedCordWrong)

/-- 'laws.FnExactPlaceOf': WHATEVER THE INPUT: true; the input reads as it did. -/
def fnExactPlaceOfSpec : ChangeSpec := { name := "fnExactPlaceOf", fn := fun _ => fun
  | [d1, d2, d3] => { results := [.lit (.bool true)], args := [d1, d2, d3] }
  | _ => none }
def fnExactPlaceOfRow : OpenClaim := { program := "yteagbfobnjfhcab", sum := "62cfc18f45b6c72bedb20bca27a13fe3c25d4970770624978fbc958442208cc0", func := "loop.example/g01367/laws.FnExactPlaceOf", spec := "fnExactPlaceOf", plainKeys := false, apart := false }
def FnExactPlaceOfSaid : Prop := fnExactPlaceOfRow.holds Try.pinned (OpenSpec.ofChange fnExactPlaceOfSpec)

/-- ITS FALSE NEIGHBOUR: 'it returns false'. Refute it at one input. -/
def fnExactPlaceOfWrong : ChangeSpec := { name := "fnExactPlaceOf", fn := fun _ => fun
  | [d1, d2, d3] => { results := [.lit (.bool false)], args := [d1, d2, d3] }
  | _ => none }
def FnExactPlaceOfWrongFalsely : Prop := fnExactPlaceOfRow.holds Try.pinned (OpenSpec.ofChange fnExactPlaceOfWrong)

/-- 'laws.FnExactStopFor': WHATEVER THE INPUT: true; the input reads as it did. -/
def fnExactStopForSpec : ChangeSpec := { name := "fnExactStopFor", fn := fun _ => fun
  | [d1, d2, d3] => { results := [.lit (.bool true)], args := [d1, d2, d3] }
  | _ => none }
def fnExactStopForRow : OpenClaim := { program := "yteagbfobnjfhcab", sum := "62cfc18f45b6c72bedb20bca27a13fe3c25d4970770624978fbc958442208cc0", func := "loop.example/g01367/laws.FnExactStopFor", spec := "fnExactStopFor", inPlace := ["math.Float32bits"], plainKeys := false, apart := false }
def FnExactStopForSaid : Prop := fnExactStopForRow.holds Try.pinned (OpenSpec.ofChange fnExactStopForSpec)

/-- ITS FALSE NEIGHBOUR: 'it returns false'. Refute it at one input. -/
def fnExactStopForWrong : ChangeSpec := { name := "fnExactStopFor", fn := fun _ => fun
  | [d1, d2, d3] => { results := [.lit (.bool false)], args := [d1, d2, d3] }
  | _ => none }
def FnExactStopForWrongFalsely : Prop := fnExactStopForRow.holds Try.pinned (OpenSpec.ofChange fnExactStopForWrong)

/-- 'laws.FnExactTiltFor': WHATEVER THE INPUT: true; the input reads as it did. -/
def fnExactTiltForSpec : ChangeSpec := { name := "fnExactTiltFor", fn := fun _ => fun
  | [d1, d2, d3] => { results := [.lit (.bool true)], args := [d1, d2, d3] }
  | _ => none }
def fnExactTiltForRow : OpenClaim := { program := "yteagbfobnjfhcab", sum := "62cfc18f45b6c72bedb20bca27a13fe3c25d4970770624978fbc958442208cc0", func := "loop.example/g01367/laws.FnExactTiltFor", spec := "fnExactTiltFor", inPlace := ["math.Float32bits"], unfollowed := true, recurses := true, plainKeys := false, apart := false }
def FnExactTiltForSaid : Prop := fnExactTiltForRow.holds Try.pinned (OpenSpec.ofChange fnExactTiltForSpec)

/-- ITS FALSE NEIGHBOUR: 'it returns false'. Refute it at one input. -/
def fnExactTiltForWrong : ChangeSpec := { name := "fnExactTiltFor", fn := fun _ => fun
  | [d1, d2, d3] => { results := [.lit (.bool false)], args := [d1, d2, d3] }
  | _ => none }
def FnExactTiltForWrongFalsely : Prop := fnExactTiltForRow.holds Try.pinned (OpenSpec.ofChange fnExactTiltForWrong)

/-- 'laws.FnExactPassWindow': WHATEVER THE INPUT: true; the input reads as it did. -/
def fnExactPassWindowSpec : ChangeSpec := { name := "fnExactPassWindow", fn := fun _ => fun
  | [d1, d2, d3, d4] => { results := [.lit (.bool true)], args := [d1, d2, d3, d4] }
  | _ => none }
def fnExactPassWindowRow : OpenClaim := { program := "yteagbfobnjfhcab", sum := "62cfc18f45b6c72bedb20bca27a13fe3c25d4970770624978fbc958442208cc0", func := "loop.example/g01367/laws.FnExactPassWindow", spec := "fnExactPassWindow", unfollowed := true, recurses := true, plainKeys := false, apart := false }
def FnExactPassWindowSaid : Prop := fnExactPassWindowRow.holds Try.pinned (OpenSpec.ofChange fnExactPassWindowSpec)

/-- ITS FALSE NEIGHBOUR: 'it returns false'. Refute it at one input. -/
def fnExactPassWindowWrong : ChangeSpec := { name := "fnExactPassWindow", fn := fun _ => fun
  | [d1, d2, d3, d4] => { results := [.lit (.bool false)], args := [d1, d2, d3, d4] }
  | _ => none }
def FnExactPassWindowWrongFalsely : Prop := fnExactPassWindowRow.holds Try.pinned (OpenSpec.ofChange fnExactPassWindowWrong)

/-- 'laws.FnExactPassDay': WHATEVER THE INPUT: true; the input reads as it did. -/
def fnExactPassDaySpec : ChangeSpec := { name := "fnExactPassDay", fn := fun _ => fun
  | [d1, d2, d3] => { results := [.lit (.bool true)], args := [d1, d2, d3] }
  | _ => none }
def fnExactPassDayRow : OpenClaim := { program := "yteagbfobnjfhcab", sum := "62cfc18f45b6c72bedb20bca27a13fe3c25d4970770624978fbc958442208cc0", func := "loop.example/g01367/laws.FnExactPassDay", spec := "fnExactPassDay", unfollowed := true, recurses := true, plainKeys := false, apart := false }
def FnExactPassDaySaid : Prop := fnExactPassDayRow.holds Try.pinned (OpenSpec.ofChange fnExactPassDaySpec)

/-- ITS FALSE NEIGHBOUR: 'it returns false'. Refute it at one input. -/
def fnExactPassDayWrong : ChangeSpec := { name := "fnExactPassDay", fn := fun _ => fun
  | [d1, d2, d3] => { results := [.lit (.bool false)], args := [d1, d2, d3] }
  | _ => none }
def FnExactPassDayWrongFalsely : Prop := fnExactPassDayRow.holds Try.pinned (OpenSpec.ofChange fnExactPassDayWrong)

/-- 'laws.FnExactSunHours': WHATEVER THE INPUT: true; the input reads as it did. -/
def fnExactSunHoursSpec : ChangeSpec := { name := "fnExactSunHours", fn := fun _ => fun
  | [d1, d2, d3] => { results := [.lit (.bool true)], args := [d1, d2, d3] }
  | _ => none }
def fnExactSunHoursRow : OpenClaim := { program := "yteagbfobnjfhcab", sum := "62cfc18f45b6c72bedb20bca27a13fe3c25d4970770624978fbc958442208cc0", func := "loop.example/g01367/laws.FnExactSunHours", spec := "fnExactSunHours", unfollowed := true, recurses := true, plainKeys := false, apart := false }
def FnExactSunHoursSaid : Prop := fnExactSunHoursRow.holds Try.pinned (OpenSpec.ofChange fnExactSunHoursSpec)

/-- ITS FALSE NEIGHBOUR: 'it returns false'. Refute it at one input. -/
def fnExactSunHoursWrong : ChangeSpec := { name := "fnExactSunHours", fn := fun _ => fun
  | [d1, d2, d3] => { results := [.lit (.bool false)], args := [d1, d2, d3] }
  | _ => none }
def FnExactSunHoursWrongFalsely : Prop := fnExactSunHoursRow.holds Try.pinned (OpenSpec.ofChange fnExactSunHoursWrong)

/-- 'laws.FnExactBestFacing': WHATEVER THE INPUT: true; the input reads as it did. -/
def fnExactBestFacingSpec : ChangeSpec := { name := "fnExactBestFacing", fn := fun _ => fun
  | [d] => { results := [.lit (.bool true)], args := [d] }
  | _ => none }
def fnExactBestFacingRow : OpenClaim := { program := "yteagbfobnjfhcab", sum := "62cfc18f45b6c72bedb20bca27a13fe3c25d4970770624978fbc958442208cc0", func := "loop.example/g01367/laws.FnExactBestFacing", spec := "fnExactBestFacing", unfollowed := true, recurses := true, plainKeys := false, apart := false }
def FnExactBestFacingSaid : Prop := fnExactBestFacingRow.holds Try.pinned (OpenSpec.ofChange fnExactBestFacingSpec)

/-- ITS FALSE NEIGHBOUR: 'it returns false'. Refute it at one input. -/
def fnExactBestFacingWrong : ChangeSpec := { name := "fnExactBestFacing", fn := fun _ => fun
  | [d] => { results := [.lit (.bool false)], args := [d] }
  | _ => none }
def FnExactBestFacingWrongFalsely : Prop := fnExactBestFacingRow.holds Try.pinned (OpenSpec.ofChange fnExactBestFacingWrong)

/-- 'laws.FnTilts': WHATEVER THE INPUT: true; the input reads as it did. -/
def fnTiltsSpec : ChangeSpec := { name := "fnTilts", fn := fun _ => fun
  | [d1, d2] => { results := [.lit (.bool true)], args := [d1, d2] }
  | _ => none }
def fnTiltsRow : OpenClaim := { program := "yteagbfobnjfhcab", sum := "62cfc18f45b6c72bedb20bca27a13fe3c25d4970770624978fbc958442208cc0", func := "loop.example/g01367/laws.FnTilts", spec := "fnTilts", inPlace := ["math.Float32bits"], unfollowed := true, recurses := true, plainKeys := false, apart := false }
def FnTiltsSaid : Prop := fnTiltsRow.holds Try.pinned (OpenSpec.ofChange fnTiltsSpec)

/-- ITS FALSE NEIGHBOUR: 'it returns false'. Refute it at one input. -/
def fnTiltsWrong : ChangeSpec := { name := "fnTilts", fn := fun _ => fun
  | [d1, d2] => { results := [.lit (.bool false)], args := [d1, d2] }
  | _ => none }
def FnTiltsWrongFalsely : Prop := fnTiltsRow.holds Try.pinned (OpenSpec.ofChange fnTiltsWrong)

/-- 'laws.FnCords': WHATEVER THE INPUT: true; the input reads as it did. -/
def fnCordsSpec : ChangeSpec := { name := "fnCords", fn := fun _ => fun
  | [d1, d2] => { results := [.lit (.bool true)], args := [d1, d2] }
  | _ => none }
def fnCordsRow : OpenClaim := { program := "yteagbfobnjfhcab", sum := "62cfc18f45b6c72bedb20bca27a13fe3c25d4970770624978fbc958442208cc0", func := "loop.example/g01367/laws.FnCords", spec := "fnCords", inPlace := ["math.Float32bits"], plainKeys := false, apart := false }
def FnCordsSaid : Prop := fnCordsRow.holds Try.pinned (OpenSpec.ofChange fnCordsSpec)

/-- ITS FALSE NEIGHBOUR: 'it returns false'. Refute it at one input. -/
def fnCordsWrong : ChangeSpec := { name := "fnCords", fn := fun _ => fun
  | [d1, d2] => { results := [.lit (.bool false)], args := [d1, d2] }
  | _ => none }
def FnCordsWrongFalsely : Prop := fnCordsRow.holds Try.pinned (OpenSpec.ofChange fnCordsWrong)

/- THE SECOND FORM. 'bulk': how many values and letters a reading holds, each counted each time it is reached (what is shared counts as often as it is met; a slice's spare places count too). A statement '..UptoSaid' is the law's where the arguments, and the package variables that the reading takes, are together of bulk at most 1048576: NARROWER than '..Said'. Prove '..Said' where nothing that the law and all that it calls make is longer than what came in: it says more and counts as full. Else prove '..UptoSaid'. A law counts once. -/
mutual
def uptoBulk {H : Type} : DataW H → Nat
  | .lit (.string bytes) => bytes.length + 1
  | .lit _ => 1
  | .nil => 1
  | .ptr d => uptoBulk d + 1
  | .slice elems spare => uptoBulkAll elems + uptoBulkAll spare + 1
  | .agg parts => uptoBulkAll parts + 1
  | .iface _ d => uptoBulk d + 1
  | .map entries => uptoBulkEntries entries + 1
  | .held _ => 1
def uptoBulkAll {H : Type} : List (DataW H) → Nat
  | [] => 0
  | d :: r => uptoBulk d + uptoBulkAll r
def uptoBulkEntries {H : Type} : List (Lit × DataW H) → Nat
  | [] => 0
  | x :: r => uptoBulkEntry x + uptoBulkEntries r
def uptoBulkEntry {H : Type} : Lit × DataW H → Nat
  | (.string bytes, d) => bytes.length + uptoBulk d + 1
  | (_, d) => uptoBulk d + 1
 end
def uptoSmall : (H : Type) → List (DataW H) → Bool := fun _ ds => decide (uptoBulkAll ds ≤ 1048576)
def OpenSpec.upto (s : _root_.Go.ChangeSpec) : _root_.Go.OpenSpec := { _root_.Go.OpenSpec.ofChange s with cond := some uptoSmall }

/-- 'laws.FnExactValidCord', WHERE WHAT IT READS IS OF BULK AT MOST 1048576: true; the input reads as it did. -/
def fnExactValidCordUptoRow : OpenClaim := { program := "yteagbfobnjfhcab", sum := "62cfc18f45b6c72bedb20bca27a13fe3c25d4970770624978fbc958442208cc0", func := "loop.example/g01367/laws.FnExactValidCord", spec := "fnExactValidCord", plainKeys := false, apart := false, narrowed := true }
def FnExactValidCordUptoSaid : Prop := fnExactValidCordUptoRow.holds Try.pinned (OpenSpec.upto fnExactValidCordSpec)

/-- 'laws.FnExactStretchedCord', WHERE WHAT IT READS IS OF BULK AT MOST 1048576: true; the input reads as it did. -/
def fnExactStretchedCordUptoRow : OpenClaim := { program := "yteagbfobnjfhcab", sum := "62cfc18f45b6c72bedb20bca27a13fe3c25d4970770624978fbc958442208cc0", func := "loop.example/g01367/laws.FnExactStretchedCord", spec := "fnExactStretchedCord", plainKeys := false, apart := false, narrowed := true }
def FnExactStretchedCordUptoSaid : Prop := fnExactStretchedCordUptoRow.holds Try.pinned (OpenSpec.upto fnExactStretchedCordSpec)

/-- 'laws.FnExactPlaceOf', WHERE WHAT IT READS IS OF BULK AT MOST 1048576: true; the input reads as it did. -/
def fnExactPlaceOfUptoRow : OpenClaim := { program := "yteagbfobnjfhcab", sum := "62cfc18f45b6c72bedb20bca27a13fe3c25d4970770624978fbc958442208cc0", func := "loop.example/g01367/laws.FnExactPlaceOf", spec := "fnExactPlaceOf", plainKeys := false, apart := false, narrowed := true }
def FnExactPlaceOfUptoSaid : Prop := fnExactPlaceOfUptoRow.holds Try.pinned (OpenSpec.upto fnExactPlaceOfSpec)

/-- 'laws.FnExactStopFor', WHERE WHAT IT READS IS OF BULK AT MOST 1048576: true; the input reads as it did. -/
def fnExactStopForUptoRow : OpenClaim := { program := "yteagbfobnjfhcab", sum := "62cfc18f45b6c72bedb20bca27a13fe3c25d4970770624978fbc958442208cc0", func := "loop.example/g01367/laws.FnExactStopFor", spec := "fnExactStopFor", inPlace := ["math.Float32bits"], plainKeys := false, apart := false, narrowed := true }
def FnExactStopForUptoSaid : Prop := fnExactStopForUptoRow.holds Try.pinned (OpenSpec.upto fnExactStopForSpec)

/-- 'laws.FnExactTiltFor', WHERE WHAT IT READS IS OF BULK AT MOST 1048576: true; the input reads as it did. -/
def fnExactTiltForUptoRow : OpenClaim := { program := "yteagbfobnjfhcab", sum := "62cfc18f45b6c72bedb20bca27a13fe3c25d4970770624978fbc958442208cc0", func := "loop.example/g01367/laws.FnExactTiltFor", spec := "fnExactTiltFor", inPlace := ["math.Float32bits"], unfollowed := true, recurses := true, plainKeys := false, apart := false, narrowed := true }
def FnExactTiltForUptoSaid : Prop := fnExactTiltForUptoRow.holds Try.pinned (OpenSpec.upto fnExactTiltForSpec)

/-- 'laws.FnExactPassWindow', WHERE WHAT IT READS IS OF BULK AT MOST 1048576: true; the input reads as it did. -/
def fnExactPassWindowUptoRow : OpenClaim := { program := "yteagbfobnjfhcab", sum := "62cfc18f45b6c72bedb20bca27a13fe3c25d4970770624978fbc958442208cc0", func := "loop.example/g01367/laws.FnExactPassWindow", spec := "fnExactPassWindow", unfollowed := true, recurses := true, plainKeys := false, apart := false, narrowed := true }
def FnExactPassWindowUptoSaid : Prop := fnExactPassWindowUptoRow.holds Try.pinned (OpenSpec.upto fnExactPassWindowSpec)

/-- 'laws.FnExactPassDay', WHERE WHAT IT READS IS OF BULK AT MOST 1048576: true; the input reads as it did. -/
def fnExactPassDayUptoRow : OpenClaim := { program := "yteagbfobnjfhcab", sum := "62cfc18f45b6c72bedb20bca27a13fe3c25d4970770624978fbc958442208cc0", func := "loop.example/g01367/laws.FnExactPassDay", spec := "fnExactPassDay", unfollowed := true, recurses := true, plainKeys := false, apart := false, narrowed := true }
def FnExactPassDayUptoSaid : Prop := fnExactPassDayUptoRow.holds Try.pinned (OpenSpec.upto fnExactPassDaySpec)

/-- 'laws.FnExactSunHours', WHERE WHAT IT READS IS OF BULK AT MOST 1048576: true; the input reads as it did. -/
def fnExactSunHoursUptoRow : OpenClaim := { program := "yteagbfobnjfhcab", sum := "62cfc18f45b6c72bedb20bca27a13fe3c25d4970770624978fbc958442208cc0", func := "loop.example/g01367/laws.FnExactSunHours", spec := "fnExactSunHours", unfollowed := true, recurses := true, plainKeys := false, apart := false, narrowed := true }
def FnExactSunHoursUptoSaid : Prop := fnExactSunHoursUptoRow.holds Try.pinned (OpenSpec.upto fnExactSunHoursSpec)

/-- 'laws.FnExactBestFacing', WHERE WHAT IT READS IS OF BULK AT MOST 1048576: true; the input reads as it did. -/
def fnExactBestFacingUptoRow : OpenClaim := { program := "yteagbfobnjfhcab", sum := "62cfc18f45b6c72bedb20bca27a13fe3c25d4970770624978fbc958442208cc0", func := "loop.example/g01367/laws.FnExactBestFacing", spec := "fnExactBestFacing", unfollowed := true, recurses := true, plainKeys := false, apart := false, narrowed := true }
def FnExactBestFacingUptoSaid : Prop := fnExactBestFacingUptoRow.holds Try.pinned (OpenSpec.upto fnExactBestFacingSpec)

/-- 'laws.FnTilts', WHERE WHAT IT READS IS OF BULK AT MOST 1048576: true; the input reads as it did. -/
def fnTiltsUptoRow : OpenClaim := { program := "yteagbfobnjfhcab", sum := "62cfc18f45b6c72bedb20bca27a13fe3c25d4970770624978fbc958442208cc0", func := "loop.example/g01367/laws.FnTilts", spec := "fnTilts", inPlace := ["math.Float32bits"], unfollowed := true, recurses := true, plainKeys := false, apart := false, narrowed := true }
def FnTiltsUptoSaid : Prop := fnTiltsUptoRow.holds Try.pinned (OpenSpec.upto fnTiltsSpec)

/-- 'laws.FnCords', WHERE WHAT IT READS IS OF BULK AT MOST 1048576: true; the input reads as it did. -/
def fnCordsUptoRow : OpenClaim := { program := "yteagbfobnjfhcab", sum := "62cfc18f45b6c72bedb20bca27a13fe3c25d4970770624978fbc958442208cc0", func := "loop.example/g01367/laws.FnCords", spec := "fnCords", inPlace := ["math.Float32bits"], plainKeys := false, apart := false, narrowed := true }
def FnCordsUptoSaid : Prop := fnCordsUptoRow.holds Try.pinned (OpenSpec.upto fnCordsSpec)

end Rows
end Go.Proofs.Yteagbfobnjfhcab
