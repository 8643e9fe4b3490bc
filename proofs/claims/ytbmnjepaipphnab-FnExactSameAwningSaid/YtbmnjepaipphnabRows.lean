/-
  No cell of these rows narrows 'for every input' (looked for: loops, veiled, ifaces, maps, wideKeys, modest, calm, conditions, laid).
  DERIVED. THE GIVEN ROWS OF THIS SEAT. 10 by the template 'for every input the law returns true; each argument reads behind the call as it read before'; 0 by the template 'total and deterministic' (their statements: YtbmnjepaipphnabTotals.lean).
  GIVEN WITH THE SEED: the statements are not yours to turn. If you find one false, say at which input.
  Laid BY PROGRAM, IN A SANDBOX (cutbox-rows.mjs): the forced cells as the released guide's own fill.sh prints them over the translation a9858c05c1164356… (all of the seat's roots in one cut). By AI agents, Wed Nov 11 2026. No macro, syntax, notation, axiom, sorry.
-/
import Derived.Test.YtbmnjepaipphnabChecked
import GoSem.Claim
import GoSem.ClaimJoined
import GoSem.ClaimMapViews
import Derived.JoinedTies
import Derived.KernelRfl
namespace Go.Proofs.Ytbmnjepaipphnab
/- THE CELL 'sum', in the pinned program and in every row, IS THE sha256 OF THE DUMP (.gsa) THAT YtbmnjepaipphnabProg.lean LOADS. Nothing in Lean hashes anything: it is a label: what it is worth is what the hold of that sum in a sandbox is worth. -/
noncomputable def Try.pinned : Pinned := { name := "ytbmnjepaipphnab", sum := "a9858c05c11643561bcb35e406537e892222c3150a9440b9a043e99f92bfb95a", checked := Try.checked }
namespace Rows
def none {H : Type} : Left H := { results := [], args := [] }

/-- 'laws.FnExactValidAwning': WHATEVER THE INPUT: true; the input reads as it did. -/
def fnExactValidAwningSpec : ChangeSpec := { name := "fnExactValidAwning", fn := fun _ => fun
  | [d] => { results := [.lit (.bool true)], args := [d] }
  | _ => none }
def fnExactValidAwningRow : OpenClaim := { program := "ytbmnjepaipphnab", sum := "a9858c05c11643561bcb35e406537e892222c3150a9440b9a043e99f92bfb95a", func := "loop.example/g01367/laws.FnExactValidAwning", spec := "fnExactValidAwning", plainKeys := false, apart := false }
def FnExactValidAwningSaid : Prop := fnExactValidAwningRow.holds Try.pinned (OpenSpec.ofChange fnExactValidAwningSpec)

/-- ITS FALSE NEIGHBOUR: 'it returns false'. Refute it at one input. -/
def fnExactValidAwningWrong : ChangeSpec := { name := "fnExactValidAwning", fn := fun _ => fun
  | [d] => { results := [.lit (.bool false)], args := [d] }
  | _ => none }
def FnExactValidAwningWrongFalsely : Prop := fnExactValidAwningRow.holds Try.pinned (OpenSpec.ofChange fnExactValidAwningWrong)

/-- 'laws.FnExactSameAwning': WHATEVER THE INPUT: true; the input reads as it did. -/
def fnExactSameAwningSpec : ChangeSpec := { name := "fnExactSameAwning", fn := fun _ => fun
  | [d1, d2] => { results := [.lit (.bool true)], args := [d1, d2] }
  | _ => none }
def fnExactSameAwningRow : OpenClaim := { program := "ytbmnjepaipphnab", sum := "a9858c05c11643561bcb35e406537e892222c3150a9440b9a043e99f92bfb95a", func := "loop.example/g01367/laws.FnExactSameAwning", spec := "fnExactSameAwning", inPlace := ["math.Float32bits"], unfollowed := true, recurses := true, plainKeys := false, leaving := true, apart := false }
def FnExactSameAwningSaid : Prop := fnExactSameAwningRow.holds Try.pinned (OpenSpec.ofChange fnExactSameAwningSpec)

/-- ITS FALSE NEIGHBOUR: 'it returns false'. Refute it at one input. -/
def fnExactSameAwningWrong : ChangeSpec := { name := "fnExactSameAwning", fn := fun _ => fun
  | [d1, d2] => { results := [.lit (.bool false)], args := [d1, d2] }
  | _ => none }
def FnExactSameAwningWrongFalsely : Prop := fnExactSameAwningRow.holds Try.pinned (OpenSpec.ofChange fnExactSameAwningWrong)

/-- 'laws.FnExactValidTrees': WHATEVER THE INPUT: true; the input reads as it did. -/
def fnExactValidTreesSpec : ChangeSpec := { name := "fnExactValidTrees", fn := fun _ => fun
  | [d] => { results := [.lit (.bool true)], args := [d] }
  | _ => none }
def fnExactValidTreesRow : OpenClaim := { program := "ytbmnjepaipphnab", sum := "a9858c05c11643561bcb35e406537e892222c3150a9440b9a043e99f92bfb95a", func := "loop.example/g01367/laws.FnExactValidTrees", spec := "fnExactValidTrees", unfollowed := true, recurses := true, plainKeys := false, leaving := true, apart := false }
def FnExactValidTreesSaid : Prop := fnExactValidTreesRow.holds Try.pinned (OpenSpec.ofChange fnExactValidTreesSpec)

/-- ITS FALSE NEIGHBOUR: 'it returns false'. Refute it at one input. -/
def fnExactValidTreesWrong : ChangeSpec := { name := "fnExactValidTrees", fn := fun _ => fun
  | [d] => { results := [.lit (.bool false)], args := [d] }
  | _ => none }
def FnExactValidTreesWrongFalsely : Prop := fnExactValidTreesRow.holds Try.pinned (OpenSpec.ofChange fnExactValidTreesWrong)

/-- 'laws.FnExactValidKeeper': WHATEVER THE INPUT: true; the input reads as it did. -/
def fnExactValidKeeperSpec : ChangeSpec := { name := "fnExactValidKeeper", fn := fun _ => fun
  | [d] => { results := [.lit (.bool true)], args := [d] }
  | _ => none }
def fnExactValidKeeperRow : OpenClaim := { program := "ytbmnjepaipphnab", sum := "a9858c05c11643561bcb35e406537e892222c3150a9440b9a043e99f92bfb95a", func := "loop.example/g01367/laws.FnExactValidKeeper", spec := "fnExactValidKeeper", plainKeys := false, apart := false }
def FnExactValidKeeperSaid : Prop := fnExactValidKeeperRow.holds Try.pinned (OpenSpec.ofChange fnExactValidKeeperSpec)

/-- ITS FALSE NEIGHBOUR: 'it returns false'. Refute it at one input. -/
def fnExactValidKeeperWrong : ChangeSpec := { name := "fnExactValidKeeper", fn := fun _ => fun
  | [d] => { results := [.lit (.bool false)], args := [d] }
  | _ => none }
def FnExactValidKeeperWrongFalsely : Prop := fnExactValidKeeperRow.holds Try.pinned (OpenSpec.ofChange fnExactValidKeeperWrong)

/-- 'laws.FnExactLongestFor': WHATEVER THE INPUT: true; the input reads as it did. -/
def fnExactLongestForSpec : ChangeSpec := { name := "fnExactLongestFor", fn := fun _ => fun
  | [d1, d2] => { results := [.lit (.bool true)], args := [d1, d2] }
  | _ => none }
def fnExactLongestForRow : OpenClaim := { program := "ytbmnjepaipphnab", sum := "a9858c05c11643561bcb35e406537e892222c3150a9440b9a043e99f92bfb95a", func := "loop.example/g01367/laws.FnExactLongestFor", spec := "fnExactLongestFor", plainKeys := false, apart := false }
def FnExactLongestForSaid : Prop := fnExactLongestForRow.holds Try.pinned (OpenSpec.ofChange fnExactLongestForSpec)

/-- ITS FALSE NEIGHBOUR: 'it returns false'. Refute it at one input. -/
def fnExactLongestForWrong : ChangeSpec := { name := "fnExactLongestFor", fn := fun _ => fun
  | [d1, d2] => { results := [.lit (.bool false)], args := [d1, d2] }
  | _ => none }
def FnExactLongestForWrongFalsely : Prop := fnExactLongestForRow.holds Try.pinned (OpenSpec.ofChange fnExactLongestForWrong)

/-- 'laws.FnExactSameRoom': WHATEVER THE INPUT: true; the input reads as it did. -/
def fnExactSameRoomSpec : ChangeSpec := { name := "fnExactSameRoom", fn := fun _ => fun
  | [d1, d2] => { results := [.lit (.bool true)], args := [d1, d2] }
  | _ => none }
def fnExactSameRoomRow : OpenClaim := { program := "ytbmnjepaipphnab", sum := "a9858c05c11643561bcb35e406537e892222c3150a9440b9a043e99f92bfb95a", func := "loop.example/g01367/laws.FnExactSameRoom", spec := "fnExactSameRoom", inPlace := ["math.Float32bits"], unfollowed := true, recurses := true, plainKeys := false, leaving := true, apart := false }
def FnExactSameRoomSaid : Prop := fnExactSameRoomRow.holds Try.pinned (OpenSpec.ofChange fnExactSameRoomSpec)

/-- ITS FALSE NEIGHBOUR: 'it returns false'. Refute it at one input. -/
def fnExactSameRoomWrong : ChangeSpec := { name := "fnExactSameRoom", fn := fun _ => fun
  | [d1, d2] => { results := [.lit (.bool false)], args := [d1, d2] }
  | _ => none }
def FnExactSameRoomWrongFalsely : Prop := fnExactSameRoomRow.holds Try.pinned (OpenSpec.ofChange fnExactSameRoomWrong)

/-- 'laws.FnExactPassAll': WHATEVER THE INPUT: true; the input reads as it did. -/
def fnExactPassAllSpec : ChangeSpec := { name := "fnExactPassAll", fn := fun _ => fun
  | [d1, d2] => { results := [.lit (.bool true)], args := [d1, d2] }
  | _ => none }
def fnExactPassAllRow : OpenClaim := { program := "ytbmnjepaipphnab", sum := "a9858c05c11643561bcb35e406537e892222c3150a9440b9a043e99f92bfb95a", func := "loop.example/g01367/laws.FnExactPassAll", spec := "fnExactPassAll", unfollowed := true, recurses := true, plainKeys := false, leaving := true, apart := false }
def FnExactPassAllSaid : Prop := fnExactPassAllRow.holds Try.pinned (OpenSpec.ofChange fnExactPassAllSpec)

/-- ITS FALSE NEIGHBOUR: 'it returns false'. Refute it at one input. -/
def fnExactPassAllWrong : ChangeSpec := { name := "fnExactPassAll", fn := fun _ => fun
  | [d1, d2] => { results := [.lit (.bool false)], args := [d1, d2] }
  | _ => none }
def FnExactPassAllWrongFalsely : Prop := fnExactPassAllRow.holds Try.pinned (OpenSpec.ofChange fnExactPassAllWrong)

/-- 'laws.FnExactTiltFor': WHATEVER THE INPUT: true; the input reads as it did. -/
def fnExactTiltForSpec : ChangeSpec := { name := "fnExactTiltFor", fn := fun _ => fun
  | [d1, d2, d3] => { results := [.lit (.bool true)], args := [d1, d2, d3] }
  | _ => none }
def fnExactTiltForRow : OpenClaim := { program := "ytbmnjepaipphnab", sum := "a9858c05c11643561bcb35e406537e892222c3150a9440b9a043e99f92bfb95a", func := "loop.example/g01367/laws.FnExactTiltFor", spec := "fnExactTiltFor", inPlace := ["math.Float32bits"], unfollowed := true, recurses := true, plainKeys := false, leaving := true, apart := false }
def FnExactTiltForSaid : Prop := fnExactTiltForRow.holds Try.pinned (OpenSpec.ofChange fnExactTiltForSpec)

/-- ITS FALSE NEIGHBOUR: 'it returns false'. Refute it at one input. -/
def fnExactTiltForWrong : ChangeSpec := { name := "fnExactTiltFor", fn := fun _ => fun
  | [d1, d2, d3] => { results := [.lit (.bool false)], args := [d1, d2, d3] }
  | _ => none }
def FnExactTiltForWrongFalsely : Prop := fnExactTiltForRow.holds Try.pinned (OpenSpec.ofChange fnExactTiltForWrong)

/-- 'laws.FnExactBestFacing': WHATEVER THE INPUT: true; the input reads as it did. -/
def fnExactBestFacingSpec : ChangeSpec := { name := "fnExactBestFacing", fn := fun _ => fun
  | [d] => { results := [.lit (.bool true)], args := [d] }
  | _ => none }
def fnExactBestFacingRow : OpenClaim := { program := "ytbmnjepaipphnab", sum := "a9858c05c11643561bcb35e406537e892222c3150a9440b9a043e99f92bfb95a", func := "loop.example/g01367/laws.FnExactBestFacing", spec := "fnExactBestFacing", unfollowed := true, recurses := true, plainKeys := false, leaving := true, apart := false }
def FnExactBestFacingSaid : Prop := fnExactBestFacingRow.holds Try.pinned (OpenSpec.ofChange fnExactBestFacingSpec)

/-- ITS FALSE NEIGHBOUR: 'it returns false'. Refute it at one input. -/
def fnExactBestFacingWrong : ChangeSpec := { name := "fnExactBestFacing", fn := fun _ => fun
  | [d] => { results := [.lit (.bool false)], args := [d] }
  | _ => none }
def FnExactBestFacingWrongFalsely : Prop := fnExactBestFacingRow.holds Try.pinned (OpenSpec.ofChange fnExactBestFacingWrong)

/-- 'laws.FnExactOutHours': WHATEVER THE INPUT: true; the input reads as it did. -/
def fnExactOutHoursSpec : ChangeSpec := { name := "fnExactOutHours", fn := fun _ => fun
  | [d1, d2] => { results := [.lit (.bool true)], args := [d1, d2] }
  | _ => none }
def fnExactOutHoursRow : OpenClaim := { program := "ytbmnjepaipphnab", sum := "a9858c05c11643561bcb35e406537e892222c3150a9440b9a043e99f92bfb95a", func := "loop.example/g01367/laws.FnExactOutHours", spec := "fnExactOutHours", unfollowed := true, recurses := true, plainKeys := false, leaving := true, apart := false }
def FnExactOutHoursSaid : Prop := fnExactOutHoursRow.holds Try.pinned (OpenSpec.ofChange fnExactOutHoursSpec)

/-- ITS FALSE NEIGHBOUR: 'it returns false'. Refute it at one input. -/
def fnExactOutHoursWrong : ChangeSpec := { name := "fnExactOutHours", fn := fun _ => fun
  | [d1, d2] => { results := [.lit (.bool false)], args := [d1, d2] }
  | _ => none }
def FnExactOutHoursWrongFalsely : Prop := fnExactOutHoursRow.holds Try.pinned (OpenSpec.ofChange fnExactOutHoursWrong)

/- THE SECOND FORM. 'bulk': how many values and letters a reading holds, each counted each time it is reached (what is shared counts as often as it is met; a slice's spare places count too). A statement '..UptoSaid' is the law's where the arguments, and the package variables that the reading takes, are together of bulk at most 1048576: NARROWER than '..Said'. Prove '..Said' where nothing that the law and all that it calls make is longer than what came in: it says more and counts as full. Else prove '..UptoSaid'. A law counts once. -/
mutual
def uptoBulk {H : Type} : DataW H → Nat
  | .lit (.string bytes) => bytes.length + 1
  | .lit _ => 1
  | .nil => 1
  | .ptr d => uptoBulk d + 1
  | .slice elems spare => uptoBulkAll elems + uptoBulkAll spare + 1
  | .agg parts => uptoBulkAll parts + 1
  | .iface _ d => uptoBulk d + 1
  | .map entries => uptoBulkEntries entries + 1
  | .held _ => 1
def uptoBulkAll {H : Type} : List (DataW H) → Nat
  | [] => 0
  | d :: r => uptoBulk d + uptoBulkAll r
def uptoBulkEntries {H : Type} : List (Lit × DataW H) → Nat
  | [] => 0
  | x :: r => uptoBulkEntry x + uptoBulkEntries r
def uptoBulkEntry {H : Type} : Lit × DataW H → Nat
  | (.string bytes, d) => bytes.length + uptoBulk d + 1
  | (_, d) => uptoBulk d + 1
 end
def uptoSmall : (H : Type) → List (DataW H) → Bool := fun _ ds => decide (uptoBulkAll ds ≤ 1048576)
def OpenSpec.upto (s : _root_.Go.ChangeSpec) : _root_.Go.OpenSpec := { _root_.Go.OpenSpec.ofChange s with cond := some uptoSmall }

/-- 'laws.FnExactValidAwning', WHERE WHAT IT READS IS OF BULK AT MOST 1048576: true; the input reads as it did. -/
def fnExactValidAwningUptoRow : OpenClaim := { program := "ytbmnjepaipphnab", sum := "a9858c05c11643561bcb35e406537e892222c3150a9440b9a043e99f92bfb95a", func := "loop.example/g01367/laws.FnExactValidAwning", spec := "fnExactValidAwning", plainKeys := false, apart := false, narrowed := true }
def FnExactValidAwningUptoSaid : Prop := fnExactValidAwningUptoRow.holds Try.pinned (OpenSpec.upto fnExactValidAwningSpec)

/-- 'laws.FnExactSameAwning', WHERE WHAT IT READS IS OF BULK AT MOST 1048576: true; the input reads as it did. -/
def fnExactSameAwningUptoRow : OpenClaim := { program := "ytbmnjepaipphnab", sum := "a9858c05c11643561bcb35e406537e892222c3150a9440b9a043e99f92bfb95a", func := "loop.example/g01367/laws.FnExactSameAwning", spec := "fnExactSameAwning", inPlace := ["math.Float32bits"], unfollowed := true, recurses := true, plainKeys := false, leaving := true, apart := false, narrowed := true }
def FnExactSameAwningUptoSaid : Prop := fnExactSameAwningUptoRow.holds Try.pinned (OpenSpec.upto fnExactSameAwningSpec)

/-- 'laws.FnExactValidTrees', WHERE WHAT IT READS IS OF BULK AT MOST 1048576: true; the input reads as it did. -/
def fnExactValidTreesUptoRow : OpenClaim := { program := "ytbmnjepaipphnab", sum := "a9858c05c11643561bcb35e406537e892222c3150a9440b9a043e99f92bfb95a", func := "loop.example/g01367/laws.FnExactValidTrees", spec := "fnExactValidTrees", unfollowed := true, recurses := true, plainKeys := false, leaving := true, apart := false, narrowed := true }
def FnExactValidTreesUptoSaid : Prop := fnExactValidTreesUptoRow.holds Try.pinned (OpenSpec.upto fnExactValidTreesSpec)

/-- 'laws.FnExactValidKeeper', WHERE WHAT IT READS IS OF BULK AT MOST 1048576: true; the input reads as it did. -/
def fnExactValidKeeperUptoRow : OpenClaim := { program := "ytbmnjepaipphnab", sum := "a9858c05c11643561bcb35e406537e892222c3150a9440b9a043e99f92bfb95a", func := "loop.example/g01367/laws.FnExactValidKeeper", spec := "fnExactValidKeeper", plainKeys := false, apart := false, narrowed := true }
def FnExactValidKeeperUptoSaid : Prop := fnExactValidKeeperUptoRow.holds Try.pinned (OpenSpec.upto fnExactValidKeeperSpec)

/-- 'laws.FnExactLongestFor', WHERE WHAT IT READS IS OF BULK AT MOST 1048576: true; the input reads as it did. -/
def fnExactLongestForUptoRow : OpenClaim := { program := "ytbmnjepaipphnab", sum := "a9858c05c11643561bcb35e406537e892222c3150a9440b9a043e99f92bfb95a", func := "loop.example/g01367/laws.FnExactLongestFor", spec := "fnExactLongestFor", plainKeys := false, apart := false, narrowed := true }
def FnExactLongestForUptoSaid : Prop := fnExactLongestForUptoRow.holds Try.pinned (OpenSpec.upto fnExactLongestForSpec)

/-- 'laws.FnExactSameRoom', WHERE WHAT IT READS IS OF BULK AT MOST 1048576: true; the input reads as it did. -/
def fnExactSameRoomUptoRow : OpenClaim := { program := "ytbmnjepaipphnab", sum := "a9858c05c11643561bcb35e406537e892222c3150a9440b9a043e99f92bfb95a", func := "loop.example/g01367/laws.FnExactSameRoom", spec := "fnExactSameRoom", inPlace := ["math.Float32bits"], unfollowed := true, recurses := true, plainKeys := false, leaving := true, apart := false, narrowed := true }
def FnExactSameRoomUptoSaid : Prop := fnExactSameRoomUptoRow.holds Try.pinned (OpenSpec.upto fnExactSameRoomSpec)

/-- 'laws.FnExactPassAll', WHERE WHAT IT READS IS OF BULK AT MOST 1048576: true; the input reads as it did. -/
def fnExactPassAllUptoRow : OpenClaim := { program := "ytbmnjepaipphnab", sum := "a9858c05c11643561bcb35e406537e892222c3150a9440b9a043e99f92bfb95a", func := "loop.example/g01367/laws.FnExactPassAll", spec := "fnExactPassAll", unfollowed := true, recurses := true, plainKeys := false, leaving := true, apart := false, narrowed := true }
def FnExactPassAllUptoSaid : Prop := fnExactPassAllUptoRow.holds Try.pinned (OpenSpec.upto fnExactPassAllSpec)

/-- 'laws.FnExactTiltFor', WHERE WHAT IT READS IS OF BULK AT MOST 1048576: true; the input reads as it did. -/
def fnExactTiltForUptoRow : OpenClaim := { program := "ytbmnjepaipphnab", sum := "a9858c05c11643561bcb35e406537e892222c3150a9440b9a043e99f92bfb95a", func := "loop.example/g01367/laws.FnExactTiltFor", spec := "fnExactTiltFor", inPlace := ["math.Float32bits"], unfollowed := true, recurses := true, plainKeys := false, leaving := true, apart := false, narrowed := true }
def FnExactTiltForUptoSaid : Prop := fnExactTiltForUptoRow.holds Try.pinned (OpenSpec.upto fnExactTiltForSpec)

/-- 'laws.FnExactBestFacing', WHERE WHAT IT READS IS OF BULK AT MOST 1048576: true; the input reads as it did. -/
def fnExactBestFacingUptoRow : OpenClaim := { program := "ytbmnjepaipphnab", sum := "a9858c05c11643561bcb35e406537e892222c3150a9440b9a043e99f92bfb95a", func := "loop.example/g01367/laws.FnExactBestFacing", spec := "fnExactBestFacing", unfollowed := true, recurses := true, plainKeys := false, leaving := true, apart := false, narrowed := true }
def FnExactBestFacingUptoSaid : Prop := fnExactBestFacingUptoRow.holds Try.pinned (OpenSpec.upto fnExactBestFacingSpec)

/-- 'laws.FnExactOutHours', WHERE WHAT IT READS IS OF BULK AT MOST 1048576: true; the input reads as it did. -/
def fnExactOutHoursUptoRow : OpenClaim := { program := "ytbmnjepaipphnab", sum := "a9858c05c11643561bcb35e406537e892222c3150a9440b9a043e99f92bfb95a", func := "loop.example/g01367/laws.FnExactOutHours", spec := "fnExactOutHours", unfollowed := true, recurses := true, plainKeys := false, leaving := true, apart := false, narrowed := true }
def FnExactOutHoursUptoSaid : Prop := fnExactOutHoursUptoRow.holds Try.pinned (OpenSpec.upto fnExactOutHoursSpec)

end Rows
end Go.Proofs.Ytbmnjepaipphnab
