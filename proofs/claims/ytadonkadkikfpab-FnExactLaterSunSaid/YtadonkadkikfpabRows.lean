/-
  No cell of these rows narrows 'for every input' (looked for: loops, veiled, ifaces, maps, wideKeys, modest, calm, conditions, laid).
  DERIVED. THE GIVEN ROWS OF THIS SEAT. 6 by the template 'for every input the law returns true; each argument reads behind the call as it read before'; 0 by the template 'total and deterministic' (their statements: YtadonkadkikfpabTotals.lean).
  GIVEN WITH THE SEED: the statements are not yours to turn. If you find one false, say at which input.
  Laid BY PROGRAM, IN A SANDBOX (cutbox-rows.mjs): the forced cells as the released guide's own fill.sh prints them over the translation 2136cbad98456721… (all of the seat's roots in one cut). By AI agents, Wed Nov 11 2026. No macro, syntax, notation, axiom, sorry.
-/
import Derived.Test.YtadonkadkikfpabChecked
import GoSem.Claim
import GoSem.ClaimJoined
import GoSem.ClaimMapViews
import Derived.JoinedTies
import Derived.KernelRfl
namespace Go.Proofs.Ytadonkadkikfpab
/- THE CELL 'sum', in the pinned program and in every row, IS THE sha256 OF THE DUMP (.gsa) THAT YtadonkadkikfpabProg.lean LOADS. Nothing in Lean hashes anything: it is a label: what it is worth is what the hold of that sum in a sandbox is worth. -/
noncomputable def Try.pinned : Pinned := { name := "ytadonkadkikfpab", sum := "2136cbad98456721285d2f933e3c87a3f91191c18ab420c43688188c935478d9", checked := Try.checked }
namespace Rows
def none {H : Type} : Left H := { results := [], args := [] }

/-- 'laws.FnExactCodeName': WHATEVER THE INPUT: true; the input reads as it did. -/
def fnExactCodeNameSpec : ChangeSpec := { name := "fnExactCodeName", fn := fun _ => fun
  | [d] => { results := [.lit (.bool true)], args := [d] }
  | _ => none }
def fnExactCodeNameRow : OpenClaim := { program := "ytadonkadkikfpab", sum := "2136cbad98456721285d2f933e3c87a3f91191c18ab420c43688188c935478d9", func := "loop.example/g01367/laws.FnExactCodeName", spec := "fnExactCodeName", plainKeys := false, apart := false }
def FnExactCodeNameSaid : Prop := fnExactCodeNameRow.holds Try.pinned (OpenSpec.ofChange fnExactCodeNameSpec)

/-- ITS FALSE NEIGHBOUR: 'it returns false'. Refute it at one input. -/
def fnExactCodeNameWrong : ChangeSpec := { name := "fnExactCodeName", fn := fun _ => fun
  | [d] => { results := [.lit (.bool false)], args := [d] }
  | _ => none }
def FnExactCodeNameWrongFalsely : Prop := fnExactCodeNameRow.holds Try.pinned (OpenSpec.ofChange fnExactCodeNameWrong)

/-- 'laws.FnExactSameNumber': WHATEVER THE INPUT: true; the input reads as it did. -/
def fnExactSameNumberSpec : ChangeSpec := { name := "fnExactSameNumber", fn := fun _ => fun
  | [d1, d2] => { results := [.lit (.bool true)], args := [d1, d2] }
  | _ => none }
def fnExactSameNumberRow : OpenClaim := { program := "ytadonkadkikfpab", sum := "2136cbad98456721285d2f933e3c87a3f91191c18ab420c43688188c935478d9", func := "loop.example/g01367/laws.FnExactSameNumber", spec := "fnExactSameNumber", inPlace := ["math.Float32bits"], plainKeys := false, apart := false }
def FnExactSameNumberSaid : Prop := fnExactSameNumberRow.holds Try.pinned (OpenSpec.ofChange fnExactSameNumberSpec)

/-- ITS FALSE NEIGHBOUR: 'it returns false'. Refute it at one input. -/
def fnExactSameNumberWrong : ChangeSpec := { name := "fnExactSameNumber", fn := fun _ => fun
  | [d1, d2] => { results := [.lit (.bool false)], args := [d1, d2] }
  | _ => none }
def FnExactSameNumberWrongFalsely : Prop := fnExactSameNumberRow.holds Try.pinned (OpenSpec.ofChange fnExactSameNumberWrong)

/-- 'laws.FnExactIsPlain': WHATEVER THE INPUT: true; the input reads as it did. -/
def fnExactIsPlainSpec : ChangeSpec := { name := "fnExactIsPlain", fn := fun _ => fun
  | [d] => { results := [.lit (.bool true)], args := [d] }
  | _ => none }
def fnExactIsPlainRow : OpenClaim := { program := "ytadonkadkikfpab", sum := "2136cbad98456721285d2f933e3c87a3f91191c18ab420c43688188c935478d9", func := "loop.example/g01367/laws.FnExactIsPlain", spec := "fnExactIsPlain", plainKeys := false, apart := false }
def FnExactIsPlainSaid : Prop := fnExactIsPlainRow.holds Try.pinned (OpenSpec.ofChange fnExactIsPlainSpec)

/-- ITS FALSE NEIGHBOUR: 'it returns false'. Refute it at one input. -/
def fnExactIsPlainWrong : ChangeSpec := { name := "fnExactIsPlain", fn := fun _ => fun
  | [d] => { results := [.lit (.bool false)], args := [d] }
  | _ => none }
def FnExactIsPlainWrongFalsely : Prop := fnExactIsPlainRow.holds Try.pinned (OpenSpec.ofChange fnExactIsPlainWrong)

/-- 'laws.FnExactIsPart': WHATEVER THE INPUT: true; the input reads as it did. -/
def fnExactIsPartSpec : ChangeSpec := { name := "fnExactIsPart", fn := fun _ => fun
  | [d] => { results := [.lit (.bool true)], args := [d] }
  | _ => none }
def fnExactIsPartRow : OpenClaim := { program := "ytadonkadkikfpab", sum := "2136cbad98456721285d2f933e3c87a3f91191c18ab420c43688188c935478d9", func := "loop.example/g01367/laws.FnExactIsPart", spec := "fnExactIsPart", plainKeys := false, apart := false }
def FnExactIsPartSaid : Prop := fnExactIsPartRow.holds Try.pinned (OpenSpec.ofChange fnExactIsPartSpec)

/-- ITS FALSE NEIGHBOUR: 'it returns false'. Refute it at one input. -/
def fnExactIsPartWrong : ChangeSpec := { name := "fnExactIsPart", fn := fun _ => fun
  | [d] => { results := [.lit (.bool false)], args := [d] }
  | _ => none }
def FnExactIsPartWrongFalsely : Prop := fnExactIsPartRow.holds Try.pinned (OpenSpec.ofChange fnExactIsPartWrong)

/-- 'laws.FnExactLaterSun': WHATEVER THE INPUT: true; the input reads as it did. -/
def fnExactLaterSunSpec : ChangeSpec := { name := "fnExactLaterSun", fn := fun _ => fun
  | [d1, d2] => { results := [.lit (.bool true)], args := [d1, d2] }
  | _ => none }
def fnExactLaterSunRow : OpenClaim := { program := "ytadonkadkikfpab", sum := "2136cbad98456721285d2f933e3c87a3f91191c18ab420c43688188c935478d9", func := "loop.example/g01367/laws.FnExactLaterSun", spec := "fnExactLaterSun", unfollowed := true, recurses := true, plainKeys := false, apart := false }
def FnExactLaterSunSaid : Prop := fnExactLaterSunRow.holds Try.pinned (OpenSpec.ofChange fnExactLaterSunSpec)

/-- ITS FALSE NEIGHBOUR: 'it returns false'. Refute it at one input. -/
def fnExactLaterSunWrong : ChangeSpec := { name := "fnExactLaterSun", fn := fun _ => fun
  | [d1, d2] => { results := [.lit (.bool false)], args := [d1, d2] }
  | _ => none }
def FnExactLaterSunWrongFalsely : Prop := fnExactLaterSunRow.holds Try.pinned (OpenSpec.ofChange fnExactLaterSunWrong)

/-- 'laws.FnExactBestFacing': WHATEVER THE INPUT: true; the input reads as it did. -/
def fnExactBestFacingSpec : ChangeSpec := { name := "fnExactBestFacing", fn := fun _ => fun
  | [d] => { results := [.lit (.bool true)], args := [d] }
  | _ => none }
def fnExactBestFacingRow : OpenClaim := { program := "ytadonkadkikfpab", sum := "2136cbad98456721285d2f933e3c87a3f91191c18ab420c43688188c935478d9", func := "loop.example/g01367/laws.FnExactBestFacing", spec := "fnExactBestFacing", unfollowed := true, recurses := true, plainKeys := false, apart := false }
def FnExactBestFacingSaid : Prop := fnExactBestFacingRow.holds Try.pinned (OpenSpec.ofChange fnExactBestFacingSpec)

/-- ITS FALSE NEIGHBOUR: 'it returns false'. Refute it at one input. -/
def fnExactBestFacingWrong : ChangeSpec := { name := "fnExactBestFacing", fn := fun _ => fun
  | [d] => { results := [.lit (.bool false)], args := [d] }
  | _ => none }
def FnExactBestFacingWrongFalsely : Prop := fnExactBestFacingRow.holds Try.pinned (OpenSpec.ofChange fnExactBestFacingWrong)

/- THE SECOND FORM. 'bulk': how many values and letters a reading holds, each counted each time it is reached (what is shared counts as often as it is met; a slice's spare places count too). A statement '..UptoSaid' is the law's where the arguments, and the package variables that the reading takes, are together of bulk at most 1048576: NARROWER than '..Said'. Prove '..Said' where nothing that the law and all that it calls make is longer than what came in: it says more and counts as full. Else prove '..UptoSaid'. A law counts once. -/
mutual
def uptoBulk {H : Type} : DataW H → Nat
  | .lit (.string bytes) => bytes.length + 1
  | .lit _ => 1
  | .nil => 1
  | .ptr d => uptoBulk d + 1
  | .slice elems spare => uptoBulkAll elems + uptoBulkAll spare + 1
  | .agg parts => uptoBulkAll parts + 1
  | .iface _ d => uptoBulk d + 1
  | .map entries => uptoBulkEntries entries + 1
  | .held _ => 1
def uptoBulkAll {H : Type} : List (DataW H) → Nat
  | [] => 0
  | d :: r => uptoBulk d + uptoBulkAll r
def uptoBulkEntries {H : Type} : List (Lit × DataW H) → Nat
  | [] => 0
  | x :: r => uptoBulkEntry x + uptoBulkEntries r
def uptoBulkEntry {H : Type} : Lit × DataW H → Nat
  | (.string bytes, d) => bytes.length + uptoBulk d + 1
  | (_, d) => uptoBulk d + 1
 end
def uptoSmall : (H : Type) → List (DataW H) → Bool := fun _ ds => decide (uptoBulkAll ds ≤ 1048576)
def OpenSpec.upto (s : _root_.Go.ChangeSpec) : _root_.Go.OpenSpec := { _root_.Go.OpenSpec.ofChange s with cond := some uptoSmall }

/-- 'laws.FnExactCodeName', WHERE WHAT IT READS IS OF BULK AT MOST 1048576: true; the input reads as it did. -/
def fnExactCodeNameUptoRow : OpenClaim := { program := "ytadonkadkikfpab", sum := "2136cbad98456721285d2f933e3c87a3f91191c18ab420c43688188c935478d9", func := "loop.example/g01367/laws.FnExactCodeName", spec := "fnExactCodeName", plainKeys := false, apart := false, narrowed := true }
def FnExactCodeNameUptoSaid : Prop := fnExactCodeNameUptoRow.holds Try.pinned (OpenSpec.upto fnExactCodeNameSpec)

/-- 'laws.FnExactSameNumber', WHERE WHAT IT READS IS OF BULK AT MOST 1048576: true; the input reads as it did. -/
def fnExactSameNumberUptoRow : OpenClaim := { program := "ytadonkadkikfpab", sum := "2136cbad98456721285d2f933e3c87a3f91191c18ab420c43688188c935478d9", func := "loop.example/g01367/laws.FnExactSameNumber", spec := "fnExactSameNumber", inPlace := ["math.Float32bits"], plainKeys := false, apart := false, narrowed := true }
def FnExactSameNumberUptoSaid : Prop := fnExactSameNumberUptoRow.holds Try.pinned (OpenSpec.upto fnExactSameNumberSpec)

/-- 'laws.FnExactIsPlain', WHERE WHAT IT READS IS OF BULK AT MOST 1048576: true; the input reads as it did. -/
def fnExactIsPlainUptoRow : OpenClaim := { program := "ytadonkadkikfpab", sum := "2136cbad98456721285d2f933e3c87a3f91191c18ab420c43688188c935478d9", func := "loop.example/g01367/laws.FnExactIsPlain", spec := "fnExactIsPlain", plainKeys := false, apart := false, narrowed := true }
def FnExactIsPlainUptoSaid : Prop := fnExactIsPlainUptoRow.holds Try.pinned (OpenSpec.upto fnExactIsPlainSpec)

/-- 'laws.FnExactIsPart', WHERE WHAT IT READS IS OF BULK AT MOST 1048576: true; the input reads as it did. -/
def fnExactIsPartUptoRow : OpenClaim := { program := "ytadonkadkikfpab", sum := "2136cbad98456721285d2f933e3c87a3f91191c18ab420c43688188c935478d9", func := "loop.example/g01367/laws.FnExactIsPart", spec := "fnExactIsPart", plainKeys := false, apart := false, narrowed := true }
def FnExactIsPartUptoSaid : Prop := fnExactIsPartUptoRow.holds Try.pinned (OpenSpec.upto fnExactIsPartSpec)

/-- 'laws.FnExactLaterSun', WHERE WHAT IT READS IS OF BULK AT MOST 1048576: true; the input reads as it did. -/
def fnExactLaterSunUptoRow : OpenClaim := { program := "ytadonkadkikfpab", sum := "2136cbad98456721285d2f933e3c87a3f91191c18ab420c43688188c935478d9", func := "loop.example/g01367/laws.FnExactLaterSun", spec := "fnExactLaterSun", unfollowed := true, recurses := true, plainKeys := false, apart := false, narrowed := true }
def FnExactLaterSunUptoSaid : Prop := fnExactLaterSunUptoRow.holds Try.pinned (OpenSpec.upto fnExactLaterSunSpec)

/-- 'laws.FnExactBestFacing', WHERE WHAT IT READS IS OF BULK AT MOST 1048576: true; the input reads as it did. -/
def fnExactBestFacingUptoRow : OpenClaim := { program := "ytadonkadkikfpab", sum := "2136cbad98456721285d2f933e3c87a3f91191c18ab420c43688188c935478d9", func := "loop.example/g01367/laws.FnExactBestFacing", spec := "fnExactBestFacing", unfollowed := true, recurses := true, plainKeys := false, apart := false, narrowed := true }
def FnExactBestFacingUptoSaid : Prop := fnExactBestFacingUptoRow.holds Try.pinned (OpenSpec.upto fnExactBestFacingSpec)

end Rows
end Go.Proofs.Ytadonkadkikfpab
