/-
  No cell of these rows narrows 'for every input' (looked for: loops, veiled, ifaces, maps, wideKeys, modest, calm, conditions, laid).
  DERIVED. THE GIVEN ROWS OF THIS SEAT. 4 by the template 'for every input the law returns true; each argument reads behind the call as it read before'; 0 by the template 'total and deterministic' (their statements: YtdbleddcnknmiaaTotals.lean).
  GIVEN WITH THE SEED: the statements are not yours to turn. If you find one false, say at which input.
  Laid BY PROGRAM, IN A SANDBOX (cutbox-rows.mjs): the forced cells as the released guide's own fill.sh prints them over the translation 16a14bdeeda861a0… (all of the seat's roots in one cut). By AI agents, Wed Nov 11 2026. No macro, syntax, notation, axiom, sorry.
-/
import Derived.Test.YtdbleddcnknmiaaChecked
import GoSem.Claim
import GoSem.ClaimJoined
import GoSem.ClaimMapViews
import Derived.JoinedTies
import Derived.KernelRfl
namespace Go.Proofs.Ytdbleddcnknmiaa
/- THE CELL 'sum', in the pinned program and in every row, IS THE sha256 OF THE DUMP (.gsa) THAT YtdbleddcnknmiaaProg.lean LOADS. Nothing in Lean hashes anything: it is a label: what it is worth is what the hold of that sum in a sandbox is worth. -/
noncomputable def Try.pinned : Pinned := { name := "ytdbleddcnknmiaa", sum := "16a14bdeeda861a0289b5a98ee99b640692ed4f65d76319d6c7aacdc62858ab4", checked := Try.checked }
namespace Rows
def none {H : Type} : Left H := { results := [], args := [] }

/-- 'laws.FnExactValidPlan': WHATEVER THE INPUT: true; the input reads as it did. -/
def fnExactValidPlanSpec : ChangeSpec := { name := "fnExactValidPlan", fn := fun _ => fun
  | [d] => { results := [.lit (.bool true)], args := [d] }
  | _ => none }
def fnExactValidPlanRow : OpenClaim := { program := "ytdbleddcnknmiaa", sum := "16a14bdeeda861a0289b5a98ee99b640692ed4f65d76319d6c7aacdc62858ab4", func := "loop.example/g01367/laws.FnExactValidPlan", spec := "fnExactValidPlan", unfollowed := true, recurses := true, apart := false }
def FnExactValidPlanSaid : Prop := fnExactValidPlanRow.holds Try.pinned (OpenSpec.ofChange fnExactValidPlanSpec)

/-- ITS FALSE NEIGHBOUR: 'it returns false'. Refute it at one input. -/
def fnExactValidPlanWrong : ChangeSpec := { name := "fnExactValidPlan", fn := fun _ => fun
  | [d] => { results := [.lit (.bool false)], args := [d] }
  | _ => none }
def FnExactValidPlanWrongFalsely : Prop := fnExactValidPlanRow.holds Try.pinned (OpenSpec.ofChange fnExactValidPlanWrong)

/-- 'laws.FnExactFloorOf': WHATEVER THE INPUT: true; the input reads as it did. -/
def fnExactFloorOfSpec : ChangeSpec := { name := "fnExactFloorOf", fn := fun _ => fun
  | [d1, d2, d3] => { results := [.lit (.bool true)], args := [d1, d2, d3] }
  | _ => none }
def fnExactFloorOfRow : OpenClaim := { program := "ytdbleddcnknmiaa", sum := "16a14bdeeda861a0289b5a98ee99b640692ed4f65d76319d6c7aacdc62858ab4", func := "loop.example/g01367/laws.FnExactFloorOf", spec := "fnExactFloorOf", unfollowed := true, recurses := true, apart := false }
def FnExactFloorOfSaid : Prop := fnExactFloorOfRow.holds Try.pinned (OpenSpec.ofChange fnExactFloorOfSpec)

/-- ITS FALSE NEIGHBOUR: 'it returns false'. Refute it at one input. -/
def fnExactFloorOfWrong : ChangeSpec := { name := "fnExactFloorOf", fn := fun _ => fun
  | [d1, d2, d3] => { results := [.lit (.bool false)], args := [d1, d2, d3] }
  | _ => none }
def FnExactFloorOfWrongFalsely : Prop := fnExactFloorOfRow.holds Try.pinned (OpenSpec.ofChange fnExactFloorOfWrong)

/-- 'laws.FnExactSameFloor': WHATEVER THE INPUT: true; the input reads as it did. -/
def fnExactSameFloorSpec : ChangeSpec := { name := "fnExactSameFloor", fn := fun _ => fun
  | [d1, d2] => { results := [.lit (.bool true)], args := [d1, d2] }
  | _ => none }
def fnExactSameFloorRow : OpenClaim := { program := "ytdbleddcnknmiaa", sum := "16a14bdeeda861a0289b5a98ee99b640692ed4f65d76319d6c7aacdc62858ab4", func := "loop.example/g01367/laws.FnExactSameFloor", spec := "fnExactSameFloor", inPlace := ["math.Float32bits"], apart := false }
def FnExactSameFloorSaid : Prop := fnExactSameFloorRow.holds Try.pinned (OpenSpec.ofChange fnExactSameFloorSpec)

/-- ITS FALSE NEIGHBOUR: 'it returns false'. Refute it at one input. -/
def fnExactSameFloorWrong : ChangeSpec := { name := "fnExactSameFloor", fn := fun _ => fun
  | [d1, d2] => { results := [.lit (.bool false)], args := [d1, d2] }
  | _ => none }
def FnExactSameFloorWrongFalsely : Prop := fnExactSameFloorRow.holds Try.pinned (OpenSpec.ofChange fnExactSameFloorWrong)

/-- 'laws.FnExactDarkStripes': WHATEVER THE INPUT: true; the input reads as it did. -/
def fnExactDarkStripesSpec : ChangeSpec := { name := "fnExactDarkStripes", fn := fun _ => fun
  | [d1, d2] => { results := [.lit (.bool true)], args := [d1, d2] }
  | _ => none }
def fnExactDarkStripesRow : OpenClaim := { program := "ytdbleddcnknmiaa", sum := "16a14bdeeda861a0289b5a98ee99b640692ed4f65d76319d6c7aacdc62858ab4", func := "loop.example/g01367/laws.FnExactDarkStripes", spec := "fnExactDarkStripes", apart := false }
def FnExactDarkStripesSaid : Prop := fnExactDarkStripesRow.holds Try.pinned (OpenSpec.ofChange fnExactDarkStripesSpec)

/-- ITS FALSE NEIGHBOUR: 'it returns false'. Refute it at one input. -/
def fnExactDarkStripesWrong : ChangeSpec := { name := "fnExactDarkStripes", fn := fun _ => fun
  | [d1, d2] => { results := [.lit (.bool false)], args := [d1, d2] }
  | _ => none }
def FnExactDarkStripesWrongFalsely : Prop := fnExactDarkStripesRow.holds Try.pinned (OpenSpec.ofChange fnExactDarkStripesWrong)

/- THE SECOND FORM. 'bulk': how many values and letters a reading holds, each counted each time it is reached (what is shared counts as often as it is met; a slice's spare places count too). A statement '..UptoSaid' is the law's where the arguments, and the package variables that the reading takes, are together of bulk at most 1048576: NARROWER than '..Said'. Prove '..Said' where nothing that the law and all that it calls make is longer than what came in: it says more and counts as full. Else prove '..UptoSaid'. A law counts once. -/
mutual
def uptoBulk {H : Type} : DataW H → Nat
  | .lit (.string bytes) => bytes.length + 1
  | .lit _ => 1
  | .nil => 1
  | .ptr d => uptoBulk d + 1
  | .slice elems spare => uptoBulkAll elems + uptoBulkAll spare + 1
  | .agg parts => uptoBulkAll parts + 1
  | .iface _ d => uptoBulk d + 1
  | .map entries => uptoBulkEntries entries + 1
  | .held _ => 1
def uptoBulkAll {H : Type} : List (DataW H) → Nat
  | [] => 0
  | d :: r => uptoBulk d + uptoBulkAll r
def uptoBulkEntries {H : Type} : List (Lit × DataW H) → Nat
  | [] => 0
  | x :: r => uptoBulkEntry x + uptoBulkEntries r
def uptoBulkEntry {H : Type} : Lit × DataW H → Nat
  | (.string bytes, d) => bytes.length + uptoBulk d + 1
  | (_, d) => uptoBulk d + 1
 end
def uptoSmall : (H : Type) → List (DataW H) → Bool := fun _ ds => decide (uptoBulkAll ds ≤ 1048576)
def OpenSpec.upto (s : _root_.Go.ChangeSpec) : _root_.Go.OpenSpec := { _root_.Go.OpenSpec.ofChange s with cond := some uptoSmall }

/-- 'laws.FnExactValidPlan', WHERE WHAT IT READS IS OF BULK AT MOST 1048576: true; the input reads as it did. -/
def fnExactValidPlanUptoRow : OpenClaim := { program := "ytdbleddcnknmiaa", sum := "16a14bdeeda861a0289b5a98ee99b640692ed4f65d76319d6c7aacdc62858ab4", func := "loop.example/g01367/laws.FnExactValidPlan", spec := "fnExactValidPlan", unfollowed := true, recurses := true, apart := false, narrowed := true }
def FnExactValidPlanUptoSaid : Prop := fnExactValidPlanUptoRow.holds Try.pinned (OpenSpec.upto fnExactValidPlanSpec)

/-- 'laws.FnExactFloorOf', WHERE WHAT IT READS IS OF BULK AT MOST 1048576: true; the input reads as it did. -/
def fnExactFloorOfUptoRow : OpenClaim := { program := "ytdbleddcnknmiaa", sum := "16a14bdeeda861a0289b5a98ee99b640692ed4f65d76319d6c7aacdc62858ab4", func := "loop.example/g01367/laws.FnExactFloorOf", spec := "fnExactFloorOf", unfollowed := true, recurses := true, apart := false, narrowed := true }
def FnExactFloorOfUptoSaid : Prop := fnExactFloorOfUptoRow.holds Try.pinned (OpenSpec.upto fnExactFloorOfSpec)

/-- 'laws.FnExactSameFloor', WHERE WHAT IT READS IS OF BULK AT MOST 1048576: true; the input reads as it did. -/
def fnExactSameFloorUptoRow : OpenClaim := { program := "ytdbleddcnknmiaa", sum := "16a14bdeeda861a0289b5a98ee99b640692ed4f65d76319d6c7aacdc62858ab4", func := "loop.example/g01367/laws.FnExactSameFloor", spec := "fnExactSameFloor", inPlace := ["math.Float32bits"], apart := false, narrowed := true }
def FnExactSameFloorUptoSaid : Prop := fnExactSameFloorUptoRow.holds Try.pinned (OpenSpec.upto fnExactSameFloorSpec)

/-- 'laws.FnExactDarkStripes', WHERE WHAT IT READS IS OF BULK AT MOST 1048576: true; the input reads as it did. -/
def fnExactDarkStripesUptoRow : OpenClaim := { program := "ytdbleddcnknmiaa", sum := "16a14bdeeda861a0289b5a98ee99b640692ed4f65d76319d6c7aacdc62858ab4", func := "loop.example/g01367/laws.FnExactDarkStripes", spec := "fnExactDarkStripes", apart := false, narrowed := true }
def FnExactDarkStripesUptoSaid : Prop := fnExactDarkStripesUptoRow.holds Try.pinned (OpenSpec.upto fnExactDarkStripesSpec)

end Rows
end Go.Proofs.Ytdbleddcnknmiaa
