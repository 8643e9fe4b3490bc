/-
  No cell of these rows narrows 'for every input' (looked for: loops, veiled, ifaces, maps, wideKeys, modest, calm, conditions, laid).
  DERIVED. THE GIVEN ROWS OF THIS SEAT. 6 by the template 'for every input the law returns true; each argument reads behind the call as it read before'; 0 by the template 'total and deterministic' (their statements: YtnienahjfocalabTotals.lean).
  GIVEN WITH THE SEED: the statements are not yours to turn. If you find one false, say at which input.
  Laid BY PROGRAM, IN A SANDBOX (cutbox-rows.mjs): the forced cells as the released guide's own fill.sh prints them over the translation 2b25bdbc9e38655c… (all of the seat's roots in one cut). By AI agents, Wed Nov 11 2026. No macro, syntax, notation, axiom, sorry.
-/
import Derived.Test.YtnienahjfocalabChecked
import GoSem.Claim
import GoSem.ClaimJoined
import GoSem.ClaimMapViews
import Derived.JoinedTies
import Derived.KernelRfl
namespace Go.Proofs.Ytnienahjfocalab
/- THE CELL 'sum', in the pinned program and in every row, IS THE sha256 OF THE DUMP (.gsa) THAT YtnienahjfocalabProg.lean LOADS. Nothing in Lean hashes anything: it is a label: what it is worth is what the hold of that sum in a sandbox is worth. -/
noncomputable def Try.pinned : Pinned := { name := "ytnienahjfocalab", sum := "2b25bdbc9e38655c8a3170cbb5bef9c1b73d71b8519f8e19acdde4aeafa5e6c7", checked := Try.checked }
namespace Rows
def none {H : Type} : Left H := { results := [], args := [] }

/-- 'laws.FnExactValidTrees': WHATEVER THE INPUT: true; the input reads as it did. -/
def fnExactValidTreesSpec : ChangeSpec := { name := "fnExactValidTrees", fn := fun _ => fun
  | [d] => { results := [.lit (.bool true)], args := [d] }
  | _ => none }
def fnExactValidTreesRow : OpenClaim := { program := "ytnienahjfocalab", sum := "2b25bdbc9e38655c8a3170cbb5bef9c1b73d71b8519f8e19acdde4aeafa5e6c7", func := "loop.example/g01367/laws.FnExactValidTrees", spec := "fnExactValidTrees", unfollowed := true, recurses := true, plainKeys := false, leaving := true, apart := false }
def FnExactValidTreesSaid : Prop := fnExactValidTreesRow.holds Try.pinned (OpenSpec.ofChange fnExactValidTreesSpec)

/-- ITS FALSE NEIGHBOUR: 'it returns false'. Refute it at one input. -/
def fnExactValidTreesWrong : ChangeSpec := { name := "fnExactValidTrees", fn := fun _ => fun
  | [d] => { results := [.lit (.bool false)], args := [d] }
  | _ => none }
def FnExactValidTreesWrongFalsely : Prop := fnExactValidTreesRow.holds Try.pinned (OpenSpec.ofChange fnExactValidTreesWrong)

/-- 'laws.FnExactSameRoom': WHATEVER THE INPUT: true; the input reads as it did. -/
def fnExactSameRoomSpec : ChangeSpec := { name := "fnExactSameRoom", fn := fun _ => fun
  | [d1, d2] => { results := [.lit (.bool true)], args := [d1, d2] }
  | _ => none }
def fnExactSameRoomRow : OpenClaim := { program := "ytnienahjfocalab", sum := "2b25bdbc9e38655c8a3170cbb5bef9c1b73d71b8519f8e19acdde4aeafa5e6c7", func := "loop.example/g01367/laws.FnExactSameRoom", spec := "fnExactSameRoom", inPlace := ["math.Float32bits"], unfollowed := true, recurses := true, plainKeys := false, leaving := true, apart := false }
def FnExactSameRoomSaid : Prop := fnExactSameRoomRow.holds Try.pinned (OpenSpec.ofChange fnExactSameRoomSpec)

/-- ITS FALSE NEIGHBOUR: 'it returns false'. Refute it at one input. -/
def fnExactSameRoomWrong : ChangeSpec := { name := "fnExactSameRoom", fn := fun _ => fun
  | [d1, d2] => { results := [.lit (.bool false)], args := [d1, d2] }
  | _ => none }
def FnExactSameRoomWrongFalsely : Prop := fnExactSameRoomRow.holds Try.pinned (OpenSpec.ofChange fnExactSameRoomWrong)

/-- 'laws.FnExactPassAll': WHATEVER THE INPUT: true; the input reads as it did. -/
def fnExactPassAllSpec : ChangeSpec := { name := "fnExactPassAll", fn := fun _ => fun
  | [d1, d2] => { results := [.lit (.bool true)], args := [d1, d2] }
  | _ => none }
def fnExactPassAllRow : OpenClaim := { program := "ytnienahjfocalab", sum := "2b25bdbc9e38655c8a3170cbb5bef9c1b73d71b8519f8e19acdde4aeafa5e6c7", func := "loop.example/g01367/laws.FnExactPassAll", spec := "fnExactPassAll", unfollowed := true, recurses := true, plainKeys := false, leaving := true, apart := false }
def FnExactPassAllSaid : Prop := fnExactPassAllRow.holds Try.pinned (OpenSpec.ofChange fnExactPassAllSpec)

/-- ITS FALSE NEIGHBOUR: 'it returns false'. Refute it at one input. -/
def fnExactPassAllWrong : ChangeSpec := { name := "fnExactPassAll", fn := fun _ => fun
  | [d1, d2] => { results := [.lit (.bool false)], args := [d1, d2] }
  | _ => none }
def FnExactPassAllWrongFalsely : Prop := fnExactPassAllRow.holds Try.pinned (OpenSpec.ofChange fnExactPassAllWrong)

/-- 'laws.FnExactTiltFor': WHATEVER THE INPUT: true; the input reads as it did. -/
def fnExactTiltForSpec : ChangeSpec := { name := "fnExactTiltFor", fn := fun _ => fun
  | [d1, d2, d3] => { results := [.lit (.bool true)], args := [d1, d2, d3] }
  | _ => none }
def fnExactTiltForRow : OpenClaim := { program := "ytnienahjfocalab", sum := "2b25bdbc9e38655c8a3170cbb5bef9c1b73d71b8519f8e19acdde4aeafa5e6c7", func := "loop.example/g01367/laws.FnExactTiltFor", spec := "fnExactTiltFor", inPlace := ["math.Float32bits"], unfollowed := true, recurses := true, plainKeys := false, leaving := true, apart := false }
def FnExactTiltForSaid : Prop := fnExactTiltForRow.holds Try.pinned (OpenSpec.ofChange fnExactTiltForSpec)

/-- ITS FALSE NEIGHBOUR: 'it returns false'. Refute it at one input. -/
def fnExactTiltForWrong : ChangeSpec := { name := "fnExactTiltFor", fn := fun _ => fun
  | [d1, d2, d3] => { results := [.lit (.bool false)], args := [d1, d2, d3] }
  | _ => none }
def FnExactTiltForWrongFalsely : Prop := fnExactTiltForRow.holds Try.pinned (OpenSpec.ofChange fnExactTiltForWrong)

/-- 'laws.FnExactBestFacing': WHATEVER THE INPUT: true; the input reads as it did. -/
def fnExactBestFacingSpec : ChangeSpec := { name := "fnExactBestFacing", fn := fun _ => fun
  | [d] => { results := [.lit (.bool true)], args := [d] }
  | _ => none }
def fnExactBestFacingRow : OpenClaim := { program := "ytnienahjfocalab", sum := "2b25bdbc9e38655c8a3170cbb5bef9c1b73d71b8519f8e19acdde4aeafa5e6c7", func := "loop.example/g01367/laws.FnExactBestFacing", spec := "fnExactBestFacing", unfollowed := true, recurses := true, plainKeys := false, leaving := true, apart := false }
def FnExactBestFacingSaid : Prop := fnExactBestFacingRow.holds Try.pinned (OpenSpec.ofChange fnExactBestFacingSpec)

/-- ITS FALSE NEIGHBOUR: 'it returns false'. Refute it at one input. -/
def fnExactBestFacingWrong : ChangeSpec := { name := "fnExactBestFacing", fn := fun _ => fun
  | [d] => { results := [.lit (.bool false)], args := [d] }
  | _ => none }
def FnExactBestFacingWrongFalsely : Prop := fnExactBestFacingRow.holds Try.pinned (OpenSpec.ofChange fnExactBestFacingWrong)

/-- 'laws.FnExactOutHours': WHATEVER THE INPUT: true; the input reads as it did. -/
def fnExactOutHoursSpec : ChangeSpec := { name := "fnExactOutHours", fn := fun _ => fun
  | [d1, d2] => { results := [.lit (.bool true)], args := [d1, d2] }
  | _ => none }
def fnExactOutHoursRow : OpenClaim := { program := "ytnienahjfocalab", sum := "2b25bdbc9e38655c8a3170cbb5bef9c1b73d71b8519f8e19acdde4aeafa5e6c7", func := "loop.example/g01367/laws.FnExactOutHours", spec := "fnExactOutHours", unfollowed := true, recurses := true, plainKeys := false, leaving := true, apart := false }
def FnExactOutHoursSaid : Prop := fnExactOutHoursRow.holds Try.pinned (OpenSpec.ofChange fnExactOutHoursSpec)

/-- ITS FALSE NEIGHBOUR: 'it returns false'. Refute it at one input. -/
def fnExactOutHoursWrong : ChangeSpec := { name := "fnExactOutHours", fn := fun _ => fun
  | [d1, d2] => { results := [.lit (.bool false)], args := [d1, d2] }
  | _ => none }
def FnExactOutHoursWrongFalsely : Prop := fnExactOutHoursRow.holds Try.pinned (OpenSpec.ofChange fnExactOutHoursWrong)

/- THE SECOND FORM. 'bulk': how many values and letters a reading holds, each counted each time it is reached (what is shared counts as often as it is met; a slice's spare places count too). A statement '..UptoSaid' is the law's where the arguments, and the package variables that the reading takes, are together of bulk at most 1048576: NARROWER than '..Said'. Prove '..Said' where nothing that the law and all that it calls make is longer than what came in: it says more and counts as full. Else prove '..UptoSaid'. A law counts once. -/
mutual
def uptoBulk {H : Type} : DataW H → Nat
  | .lit (.string bytes) => bytes.length + 1
  | .lit _ => 1
  | .nil => 1
  | .ptr d => uptoBulk d + 1
  | .slice elems spare => uptoBulkAll elems + uptoBulkAll spare + 1
  | .agg parts => uptoBulkAll parts + 1
  | .iface _ d => uptoBulk d + 1
  | .map entries => uptoBulkEntries entries + 1
  | .held _ => 1
def uptoBulkAll {H : Type} : List (DataW H) → Nat
  | [] => 0
  | d :: r => uptoBulk d + uptoBulkAll r
def uptoBulkEntries {H : Type} : List (Lit × DataW H) → Nat
  | [] => 0
  | x :: r => uptoBulkEntry x + uptoBulkEntries r
def uptoBulkEntry {H : Type} : Lit × DataW H → Nat
  | (.string bytes, d) => bytes.length + uptoBulk d + 1
  | (_, d) => uptoBulk d + 1
 end
def uptoSmall : (H : Type) → List (DataW H) → Bool := fun _ ds => decide (uptoBulkAll ds ≤ 1048576)
def OpenSpec.upto (s : _root_.Go.ChangeSpec) : _root_.Go.OpenSpec := { _root_.Go.OpenSpec.ofChange s with cond := some uptoSmall }

/-- 'laws.FnExactValidTrees', WHERE WHAT IT READS IS OF BULK AT MOST 1048576: true; the input reads as it did. -/
def fnExactValidTreesUptoRow : OpenClaim := { program := "ytnienahjfocalab", sum := "2b25bdbc9e38655c8a3170cbb5bef9c1b73d71b8519f8e19acdde4aeafa5e6c7", func := "loop.example/g01367/laws.FnExactValidTrees", spec := "fnExactValidTrees", unfollowed := true, recurses := true, plainKeys := false, leaving := true, apart := false, narrowed := true }
def FnExactValidTreesUptoSaid : Prop := fnExactValidTreesUptoRow.holds Try.pinned (OpenSpec.upto fnExactValidTreesSpec)

/-- 'laws.FnExactSameRoom', WHERE WHAT IT READS IS OF BULK AT MOST 1048576: true; the input reads as it did. -/
def fnExactSameRoomUptoRow : OpenClaim := { program := "ytnienahjfocalab", sum := "2b25bdbc9e38655c8a3170cbb5bef9c1b73d71b8519f8e19acdde4aeafa5e6c7", func := "loop.example/g01367/laws.FnExactSameRoom", spec := "fnExactSameRoom", inPlace := ["math.Float32bits"], unfollowed := true, recurses := true, plainKeys := false, leaving := true, apart := false, narrowed := true }
def FnExactSameRoomUptoSaid : Prop := fnExactSameRoomUptoRow.holds Try.pinned (OpenSpec.upto fnExactSameRoomSpec)

/-- 'laws.FnExactPassAll', WHERE WHAT IT READS IS OF BULK AT MOST 1048576: true; the input reads as it did. -/
def fnExactPassAllUptoRow : OpenClaim := { program := "ytnienahjfocalab", sum := "2b25bdbc9e38655c8a3170cbb5bef9c1b73d71b8519f8e19acdde4aeafa5e6c7", func := "loop.example/g01367/laws.FnExactPassAll", spec := "fnExactPassAll", unfollowed := true, recurses := true, plainKeys := false, leaving := true, apart := false, narrowed := true }
def FnExactPassAllUptoSaid : Prop := fnExactPassAllUptoRow.holds Try.pinned (OpenSpec.upto fnExactPassAllSpec)

/-- 'laws.FnExactTiltFor', WHERE WHAT IT READS IS OF BULK AT MOST 1048576: true; the input reads as it did. -/
def fnExactTiltForUptoRow : OpenClaim := { program := "ytnienahjfocalab", sum := "2b25bdbc9e38655c8a3170cbb5bef9c1b73d71b8519f8e19acdde4aeafa5e6c7", func := "loop.example/g01367/laws.FnExactTiltFor", spec := "fnExactTiltFor", inPlace := ["math.Float32bits"], unfollowed := true, recurses := true, plainKeys := false, leaving := true, apart := false, narrowed := true }
def FnExactTiltForUptoSaid : Prop := fnExactTiltForUptoRow.holds Try.pinned (OpenSpec.upto fnExactTiltForSpec)

/-- 'laws.FnExactBestFacing', WHERE WHAT IT READS IS OF BULK AT MOST 1048576: true; the input reads as it did. -/
def fnExactBestFacingUptoRow : OpenClaim := { program := "ytnienahjfocalab", sum := "2b25bdbc9e38655c8a3170cbb5bef9c1b73d71b8519f8e19acdde4aeafa5e6c7", func := "loop.example/g01367/laws.FnExactBestFacing", spec := "fnExactBestFacing", unfollowed := true, recurses := true, plainKeys := false, leaving := true, apart := false, narrowed := true }
def FnExactBestFacingUptoSaid : Prop := fnExactBestFacingUptoRow.holds Try.pinned (OpenSpec.upto fnExactBestFacingSpec)

/-- 'laws.FnExactOutHours', WHERE WHAT IT READS IS OF BULK AT MOST 1048576: true; the input reads as it did. -/
def fnExactOutHoursUptoRow : OpenClaim := { program := "ytnienahjfocalab", sum := "2b25bdbc9e38655c8a3170cbb5bef9c1b73d71b8519f8e19acdde4aeafa5e6c7", func := "loop.example/g01367/laws.FnExactOutHours", spec := "fnExactOutHours", unfollowed := true, recurses := true, plainKeys := false, leaving := true, apart := false, narrowed := true }
def FnExactOutHoursUptoSaid : Prop := fnExactOutHoursUptoRow.holds Try.pinned (OpenSpec.upto fnExactOutHoursSpec)

end Rows
end Go.Proofs.Ytnienahjfocalab
