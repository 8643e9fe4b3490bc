/-
  No cell of these rows narrows 'for every input' (looked for: loops, veiled, ifaces, maps, wideKeys, modest, calm, conditions, laid).
  DERIVED. THE GIVEN ROWS OF THIS SEAT. 6 by the template 'for every input the law returns true; each argument reads behind the call as it read before'; 0 by the template 'total and deterministic' (their statements: YtkmjapdikhckeabTotals.lean).
  GIVEN WITH THE SEED: the statements are not yours to turn. If you find one false, say at which input.
  Laid BY PROGRAM, IN A SANDBOX (cutbox-rows.mjs): the forced cells as the released guide's own fill.sh prints them over the translation 20e532f9d13ecc0d… (all of the seat's roots in one cut). By AI agents, Wed Nov 11 2026. No macro, syntax, notation, axiom, sorry.
-/
import Derived.Test.YtkmjapdikhckeabChecked
import GoSem.Claim
import GoSem.ClaimJoined
import GoSem.ClaimMapViews
import Derived.JoinedTies
import Derived.KernelRfl
namespace Go.Proofs.Ytkmjapdikhckeab
/- THE CELL 'sum', in the pinned program and in every row, IS THE sha256 OF THE DUMP (.gsa) THAT YtkmjapdikhckeabProg.lean LOADS. Nothing in Lean hashes anything: it is a label: what it is worth is what the hold of that sum in a sandbox is worth. -/
noncomputable def Try.pinned : Pinned := { name := "ytkmjapdikhckeab", sum := "20e532f9d13ecc0d0a19a8dc28d621c6e0af0dec708d06aac8bba80a0f736d74", checked := Try.checked }
namespace Rows
def none {H : Type} : Left H := { results := [], args := [] }

/-- 'laws.FnExactStopFor': WHATEVER THE INPUT: true; the input reads as it did. -/
def fnExactStopForSpec : ChangeSpec := { name := "fnExactStopFor", fn := fun _ => fun
  | [d1, d2, d3] => { results := [.lit (.bool true)], args := [d1, d2, d3] }
  | _ => none }
def fnExactStopForRow : OpenClaim := { program := "ytkmjapdikhckeab", sum := "20e532f9d13ecc0d0a19a8dc28d621c6e0af0dec708d06aac8bba80a0f736d74", func := "loop.example/g01367/laws.FnExactStopFor", spec := "fnExactStopFor", inPlace := ["math.Float32bits"], plainKeys := false, apart := false }
def FnExactStopForSaid : Prop := fnExactStopForRow.holds Try.pinned (OpenSpec.ofChange fnExactStopForSpec)

/-- ITS FALSE NEIGHBOUR: 'it returns false'. Refute it at one input. -/
def fnExactStopForWrong : ChangeSpec := { name := "fnExactStopFor", fn := fun _ => fun
  | [d1, d2, d3] => { results := [.lit (.bool false)], args := [d1, d2, d3] }
  | _ => none }
def FnExactStopForWrongFalsely : Prop := fnExactStopForRow.holds Try.pinned (OpenSpec.ofChange fnExactStopForWrong)

/-- 'laws.FnExactTiltFor': WHATEVER THE INPUT: true; the input reads as it did. -/
def fnExactTiltForSpec : ChangeSpec := { name := "fnExactTiltFor", fn := fun _ => fun
  | [d1, d2, d3] => { results := [.lit (.bool true)], args := [d1, d2, d3] }
  | _ => none }
def fnExactTiltForRow : OpenClaim := { program := "ytkmjapdikhckeab", sum := "20e532f9d13ecc0d0a19a8dc28d621c6e0af0dec708d06aac8bba80a0f736d74", func := "loop.example/g01367/laws.FnExactTiltFor", spec := "fnExactTiltFor", inPlace := ["math.Float32bits"], unfollowed := true, recurses := true, plainKeys := false, apart := false }
def FnExactTiltForSaid : Prop := fnExactTiltForRow.holds Try.pinned (OpenSpec.ofChange fnExactTiltForSpec)

/-- ITS FALSE NEIGHBOUR: 'it returns false'. Refute it at one input. -/
def fnExactTiltForWrong : ChangeSpec := { name := "fnExactTiltFor", fn := fun _ => fun
  | [d1, d2, d3] => { results := [.lit (.bool false)], args := [d1, d2, d3] }
  | _ => none }
def FnExactTiltForWrongFalsely : Prop := fnExactTiltForRow.holds Try.pinned (OpenSpec.ofChange fnExactTiltForWrong)

/-- 'laws.FnExactBestFacing': WHATEVER THE INPUT: true; the input reads as it did. -/
def fnExactBestFacingSpec : ChangeSpec := { name := "fnExactBestFacing", fn := fun _ => fun
  | [d] => { results := [.lit (.bool true)], args := [d] }
  | _ => none }
def fnExactBestFacingRow : OpenClaim := { program := "ytkmjapdikhckeab", sum := "20e532f9d13ecc0d0a19a8dc28d621c6e0af0dec708d06aac8bba80a0f736d74", func := "loop.example/g01367/laws.FnExactBestFacing", spec := "fnExactBestFacing", unfollowed := true, recurses := true, plainKeys := false, apart := false }
def FnExactBestFacingSaid : Prop := fnExactBestFacingRow.holds Try.pinned (OpenSpec.ofChange fnExactBestFacingSpec)

/-- ITS FALSE NEIGHBOUR: 'it returns false'. Refute it at one input. -/
def fnExactBestFacingWrong : ChangeSpec := { name := "fnExactBestFacing", fn := fun _ => fun
  | [d] => { results := [.lit (.bool false)], args := [d] }
  | _ => none }
def FnExactBestFacingWrongFalsely : Prop := fnExactBestFacingRow.holds Try.pinned (OpenSpec.ofChange fnExactBestFacingWrong)

/-- 'laws.FnExactPassAll': WHATEVER THE INPUT: true; the input reads as it did. -/
def fnExactPassAllSpec : ChangeSpec := { name := "fnExactPassAll", fn := fun _ => fun
  | [d1, d2] => { results := [.lit (.bool true)], args := [d1, d2] }
  | _ => none }
def fnExactPassAllRow : OpenClaim := { program := "ytkmjapdikhckeab", sum := "20e532f9d13ecc0d0a19a8dc28d621c6e0af0dec708d06aac8bba80a0f736d74", func := "loop.example/g01367/laws.FnExactPassAll", spec := "fnExactPassAll", unfollowed := true, recurses := true, plainKeys := false, apart := false }
def FnExactPassAllSaid : Prop := fnExactPassAllRow.holds Try.pinned (OpenSpec.ofChange fnExactPassAllSpec)

/-- ITS FALSE NEIGHBOUR: 'it returns false'. Refute it at one input. -/
def fnExactPassAllWrong : ChangeSpec := { name := "fnExactPassAll", fn := fun _ => fun
  | [d1, d2] => { results := [.lit (.bool false)], args := [d1, d2] }
  | _ => none }
def FnExactPassAllWrongFalsely : Prop := fnExactPassAllRow.holds Try.pinned (OpenSpec.ofChange fnExactPassAllWrong)

/-- 'laws.FnCords': WHATEVER THE INPUT: true; the input reads as it did. -/
def fnCordsSpec : ChangeSpec := { name := "fnCords", fn := fun _ => fun
  | [d1, d2] => { results := [.lit (.bool true)], args := [d1, d2] }
  | _ => none }
def fnCordsRow : OpenClaim := { program := "ytkmjapdikhckeab", sum := "20e532f9d13ecc0d0a19a8dc28d621c6e0af0dec708d06aac8bba80a0f736d74", func := "loop.example/g01367/laws.FnCords", spec := "fnCords", inPlace := ["math.Float32bits"], plainKeys := false, apart := false }
def FnCordsSaid : Prop := fnCordsRow.holds Try.pinned (OpenSpec.ofChange fnCordsSpec)

/-- ITS FALSE NEIGHBOUR: 'it returns false'. Refute it at one input. -/
def fnCordsWrong : ChangeSpec := { name := "fnCords", fn := fun _ => fun
  | [d1, d2] => { results := [.lit (.bool false)], args := [d1, d2] }
  | _ => none }
def FnCordsWrongFalsely : Prop := fnCordsRow.holds Try.pinned (OpenSpec.ofChange fnCordsWrong)

/-- 'laws.FnTilts': WHATEVER THE INPUT: true; the input reads as it did. -/
def fnTiltsSpec : ChangeSpec := { name := "fnTilts", fn := fun _ => fun
  | [d1, d2] => { results := [.lit (.bool true)], args := [d1, d2] }
  | _ => none }
def fnTiltsRow : OpenClaim := { program := "ytkmjapdikhckeab", sum := "20e532f9d13ecc0d0a19a8dc28d621c6e0af0dec708d06aac8bba80a0f736d74", func := "loop.example/g01367/laws.FnTilts", spec := "fnTilts", inPlace := ["math.Float32bits"], unfollowed := true, recurses := true, plainKeys := false, apart := false }
def FnTiltsSaid : Prop := fnTiltsRow.holds Try.pinned (OpenSpec.ofChange fnTiltsSpec)

/-- ITS FALSE NEIGHBOUR: 'it returns false'. Refute it at one input. -/
def fnTiltsWrong : ChangeSpec := { name := "fnTilts", fn := fun _ => fun
  | [d1, d2] => { results := [.lit (.bool false)], args := [d1, d2] }
  | _ => none }
def FnTiltsWrongFalsely : Prop := fnTiltsRow.holds Try.pinned (OpenSpec.ofChange fnTiltsWrong)

/- THE SECOND FORM. 'bulk': how many values and letters a reading holds, each counted each time it is reached (what is shared counts as often as it is met; a slice's spare places count too). A statement '..UptoSaid' is the law's where the arguments, and the package variables that the reading takes, are together of bulk at most 1048576: NARROWER than '..Said'. Prove '..Said' where nothing that the law and all that it calls make is longer than what came in: it says more and counts as full. Else prove '..UptoSaid'. A law counts once. -/
mutual
def uptoBulk {H : Type} : DataW H → Nat
  | .lit (.string bytes) => bytes.length + 1
  | .lit _ => 1
  | .nil => 1
  | .ptr d => uptoBulk d + 1
  | .slice elems spare => uptoBulkAll elems + uptoBulkAll spare + 1
  | .agg parts => uptoBulkAll parts + 1
  | .iface _ d => uptoBulk d + 1
  | .map entries => uptoBulkEntries entries + 1
  | .held _ => 1
def uptoBulkAll {H : Type} : List (DataW H) → Nat
  | [] => 0
  | d :: r => uptoBulk d + uptoBulkAll r
def uptoBulkEntries {H : Type} : List (Lit × DataW H) → Nat
  | [] => 0
  | x :: r => uptoBulkEntry x + uptoBulkEntries r
def uptoBulkEntry {H : Type} : Lit × DataW H → Nat
  | (.string bytes, d) => bytes.length + uptoBulk d + 1
  | (_, d) => uptoBulk d + 1
 end
def uptoSmall : (H : Type) → List (DataW H) → Bool := fun _ ds => decide (uptoBulkAll ds ≤ 1048576)
def OpenSpec.upto (s : _root_.Go.ChangeSpec) : _root_.Go.OpenSpec := { _root_.Go.OpenSpec.ofChange s with cond := some uptoSmall }

/-- 'laws.FnExactStopFor', WHERE WHAT IT READS IS OF BULK AT MOST 1048576: true; the input reads as it did. -/
def fnExactStopForUptoRow : OpenClaim := { program := "ytkmjapdikhckeab", sum := "20e532f9d13ecc0d0a19a8dc28d621c6e0af0dec708d06aac8bba80a0f736d74", func := "loop.example/g01367/laws.FnExactStopFor", spec := "fnExactStopFor", inPlace := ["math.Float32bits"], plainKeys := false, apart := false, narrowed := true }
def FnExactStopForUptoSaid : Prop := fnExactStopForUptoRow.holds Try.pinned (OpenSpec.upto fnExactStopForSpec)

/-- 'laws.FnExactTiltFor', WHERE WHAT IT READS IS OF BULK AT MOST 1048576: true; the input reads as it did. -/
def fnExactTiltForUptoRow : OpenClaim := { program := "ytkmjapdikhckeab", sum := "20e532f9d13ecc0d0a19a8dc28d621c6e0af0dec708d06aac8bba80a0f736d74", func := "loop.example/g01367/laws.FnExactTiltFor", spec := "fnExactTiltFor", inPlace := ["math.Float32bits"], unfollowed := true, recurses := true, plainKeys := false, apart := false, narrowed := true }
def FnExactTiltForUptoSaid : Prop := fnExactTiltForUptoRow.holds Try.pinned (OpenSpec.upto fnExactTiltForSpec)

/-- 'laws.FnExactBestFacing', WHERE WHAT IT READS IS OF BULK AT MOST 1048576: true; the input reads as it did. -/
def fnExactBestFacingUptoRow : OpenClaim := { program := "ytkmjapdikhckeab", sum := "20e532f9d13ecc0d0a19a8dc28d621c6e0af0dec708d06aac8bba80a0f736d74", func := "loop.example/g01367/laws.FnExactBestFacing", spec := "fnExactBestFacing", unfollowed := true, recurses := true, plainKeys := false, apart := false, narrowed := true }
def FnExactBestFacingUptoSaid : Prop := fnExactBestFacingUptoRow.holds Try.pinned (OpenSpec.upto fnExactBestFacingSpec)

/-- 'laws.FnExactPassAll', WHERE WHAT IT READS IS OF BULK AT MOST 1048576: true; the input reads as it did. -/
def fnExactPassAllUptoRow : OpenClaim := { program := "ytkmjapdikhckeab", sum := "20e532f9d13ecc0d0a19a8dc28d621c6e0af0dec708d06aac8bba80a0f736d74", func := "loop.example/g01367/laws.FnExactPassAll", spec := "fnExactPassAll", unfollowed := true, recurses := true, plainKeys := false, apart := false, narrowed := true }
def FnExactPassAllUptoSaid : Prop := fnExactPassAllUptoRow.holds Try.pinned (OpenSpec.upto fnExactPassAllSpec)

/-- 'laws.FnCords', WHERE WHAT IT READS IS OF BULK AT MOST 1048576: true; the input reads as it did. -/
def fnCordsUptoRow : OpenClaim := { program := "ytkmjapdikhckeab", sum := "20e532f9d13ecc0d0a19a8dc28d621c6e0af0dec708d06aac8bba80a0f736d74", func := "loop.example/g01367/laws.FnCords", spec := "fnCords", inPlace := ["math.Float32bits"], plainKeys := false, apart := false, narrowed := true }
def FnCordsUptoSaid : Prop := fnCordsUptoRow.holds Try.pinned (OpenSpec.upto fnCordsSpec)

/-- 'laws.FnTilts', WHERE WHAT IT READS IS OF BULK AT MOST 1048576: true; the input reads as it did. -/
def fnTiltsUptoRow : OpenClaim := { program := "ytkmjapdikhckeab", sum := "20e532f9d13ecc0d0a19a8dc28d621c6e0af0dec708d06aac8bba80a0f736d74", func := "loop.example/g01367/laws.FnTilts", spec := "fnTilts", inPlace := ["math.Float32bits"], unfollowed := true, recurses := true, plainKeys := false, apart := false, narrowed := true }
def FnTiltsUptoSaid : Prop := fnTiltsUptoRow.holds Try.pinned (OpenSpec.upto fnTiltsSpec)

end Rows
end Go.Proofs.Ytkmjapdikhckeab
