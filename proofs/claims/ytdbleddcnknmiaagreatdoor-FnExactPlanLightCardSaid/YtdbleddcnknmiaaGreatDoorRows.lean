/-
  NARROWER THAN 'FOR EVERY INPUT', by the rows' own cells (each row's printed sentence says how): FnExactPlanLight: laid · FnExactKeepsWithin: laid · FnExactFirstOutside: laid · FnExactTiltsAt: laid.
  DERIVED. THE GIVEN ROWS OF THIS SEAT. 4 by the template 'for every input the law returns true; each argument reads behind the call as it read before'; 0 by the template 'total and deterministic' (their statements: YtdbleddcnknmiaaGreatDoorTotals.lean).
  GIVEN WITH THE SEED: the statements are not yours to turn. If you find one false, say at which input.
  Laid BY PROGRAM, IN A SANDBOX (cutbox-rows.mjs): the forced cells as the released guide's own fill.sh prints them over the translation 50f76d8c657909e2… (all of the seat's roots in one cut). By AI agents, Wed Nov 11 2026. No macro, syntax, notation, axiom, sorry.
-/
import Derived.Test.YtdbleddcnknmiaaGreatDoorChecked
import GoSem.Claim
import GoSem.ClaimJoined
import GoSem.ClaimMapViews
import Derived.JoinedTies
import Derived.KernelRfl
namespace Go.Proofs.YtdbleddcnknmiaaGreatDoor
/- THE CELL 'sum', in the pinned program and in every row, IS THE sha256 OF THE DUMP (.gsa) THAT YtdbleddcnknmiaaGreatDoorProg.lean LOADS. Nothing in Lean hashes anything: it is a label: what it is worth is what the hold of that sum in a sandbox is worth. -/
noncomputable def Tryz.pinned : Pinned := { name := "ytdbleddcnknmiaagreatdoor", sum := "50f76d8c657909e227dd1598772d3d1bee767e0740f2b0ade12df8b9a36aadd6", checked := Tryz.checked }
namespace Rows
def none {H : Type} : Left H := { results := [], args := [] }

/- WHAT THE LISTED PACKAGE-LEVEL VARIABLES READ AS WHEN THE CALL BEGINS. Each datum BY PROGRAM (the guide's laid-datum.mjs) off the statement by which the dump's own 'gosem.cut.vars' lays the variable. In a bare row this is a premise. The card (YtdbleddcnknmiaaGreatDoorCards.lean) ties it to the program's text. -/
def laid_errors_errorType {H : Type} : DataW H := .iface "internal/reflectlite.rtype" (.agg [.ptr (.lit (.string [101, 114, 114, 111, 114]))])

/-- 'laws.FnExactPlanLight': WHATEVER THE INPUT: true; the input reads as it did. -/
def fnExactPlanLightSpec : ChangeSpec := { name := "fnExactPlanLight", fn := fun _ => fun
  | [d1, d2, d3, d4] => { results := [.lit (.bool true)], args := [d1, d2, d3, d4] }
  | _ => none }
def fnExactPlanLightRow : OpenClaim := { program := "ytdbleddcnknmiaagreatdoor", sum := "50f76d8c657909e227dd1598772d3d1bee767e0740f2b0ade12df8b9a36aadd6", func := "loop.example/g01367/laws.FnExactPlanLight", spec := "fnExactPlanLight", inPlace := ["internal/reflectlite.ValueOf", "(internal/reflectlite.Value).Type", "(internal/reflectlite.Value).IsNil", "internal/reflectlite.TypeOf", "(internal/reflectlite.Value).Elem", "(internal/reflectlite.Value).Set"], unfollowed := true, recurses := true, named := ["errors.errorType"], apart := false, laid := [("errors.errorType", laid_errors_errorType)] }
def FnExactPlanLightSaid : Prop := fnExactPlanLightRow.holds Tryz.pinned (OpenSpec.ofChange fnExactPlanLightSpec)

/-- ITS FALSE NEIGHBOUR: 'it returns false'. Refute it at one input. -/
def fnExactPlanLightWrong : ChangeSpec := { name := "fnExactPlanLight", fn := fun _ => fun
  | [d1, d2, d3, d4] => { results := [.lit (.bool false)], args := [d1, d2, d3, d4] }
  | _ => none }
def FnExactPlanLightWrongFalsely : Prop := fnExactPlanLightRow.holds Tryz.pinned (OpenSpec.ofChange fnExactPlanLightWrong)

/-- 'laws.FnExactKeepsWithin': WHATEVER THE INPUT: true; the input reads as it did. -/
def fnExactKeepsWithinSpec : ChangeSpec := { name := "fnExactKeepsWithin", fn := fun _ => fun
  | [d1, d2, d3, d4, d5, d6] => { results := [.lit (.bool true)], args := [d1, d2, d3, d4, d5, d6] }
  | _ => none }
def fnExactKeepsWithinRow : OpenClaim := { program := "ytdbleddcnknmiaagreatdoor", sum := "50f76d8c657909e227dd1598772d3d1bee767e0740f2b0ade12df8b9a36aadd6", func := "loop.example/g01367/laws.FnExactKeepsWithin", spec := "fnExactKeepsWithin", inPlace := ["internal/reflectlite.ValueOf", "(internal/reflectlite.Value).Type", "(internal/reflectlite.Value).IsNil", "internal/reflectlite.TypeOf", "(internal/reflectlite.Value).Elem", "(internal/reflectlite.Value).Set"], unfollowed := true, recurses := true, named := ["errors.errorType"], apart := false, laid := [("errors.errorType", laid_errors_errorType)] }
def FnExactKeepsWithinSaid : Prop := fnExactKeepsWithinRow.holds Tryz.pinned (OpenSpec.ofChange fnExactKeepsWithinSpec)

/-- ITS FALSE NEIGHBOUR: 'it returns false'. Refute it at one input. -/
def fnExactKeepsWithinWrong : ChangeSpec := { name := "fnExactKeepsWithin", fn := fun _ => fun
  | [d1, d2, d3, d4, d5, d6] => { results := [.lit (.bool false)], args := [d1, d2, d3, d4, d5, d6] }
  | _ => none }
def FnExactKeepsWithinWrongFalsely : Prop := fnExactKeepsWithinRow.holds Tryz.pinned (OpenSpec.ofChange fnExactKeepsWithinWrong)

/-- 'laws.FnExactFirstOutside': WHATEVER THE INPUT: true; the input reads as it did. -/
def fnExactFirstOutsideSpec : ChangeSpec := { name := "fnExactFirstOutside", fn := fun _ => fun
  | [d1, d2, d3, d4, d5, d6] => { results := [.lit (.bool true)], args := [d1, d2, d3, d4, d5, d6] }
  | _ => none }
def fnExactFirstOutsideRow : OpenClaim := { program := "ytdbleddcnknmiaagreatdoor", sum := "50f76d8c657909e227dd1598772d3d1bee767e0740f2b0ade12df8b9a36aadd6", func := "loop.example/g01367/laws.FnExactFirstOutside", spec := "fnExactFirstOutside", inPlace := ["internal/reflectlite.ValueOf", "(internal/reflectlite.Value).Type", "(internal/reflectlite.Value).IsNil", "internal/reflectlite.TypeOf", "(internal/reflectlite.Value).Elem", "(internal/reflectlite.Value).Set"], unfollowed := true, recurses := true, named := ["errors.errorType"], apart := false, laid := [("errors.errorType", laid_errors_errorType)] }
def FnExactFirstOutsideSaid : Prop := fnExactFirstOutsideRow.holds Tryz.pinned (OpenSpec.ofChange fnExactFirstOutsideSpec)

/-- ITS FALSE NEIGHBOUR: 'it returns false'. Refute it at one input. -/
def fnExactFirstOutsideWrong : ChangeSpec := { name := "fnExactFirstOutside", fn := fun _ => fun
  | [d1, d2, d3, d4, d5, d6] => { results := [.lit (.bool false)], args := [d1, d2, d3, d4, d5, d6] }
  | _ => none }
def FnExactFirstOutsideWrongFalsely : Prop := fnExactFirstOutsideRow.holds Tryz.pinned (OpenSpec.ofChange fnExactFirstOutsideWrong)

/-- 'laws.FnExactTiltsAt': WHATEVER THE INPUT: true; the input reads as it did. -/
def fnExactTiltsAtSpec : ChangeSpec := { name := "fnExactTiltsAt", fn := fun _ => fun
  | [d1, d2, d3, d4, d5, d6] => { results := [.lit (.bool true)], args := [d1, d2, d3, d4, d5, d6] }
  | _ => none }
def fnExactTiltsAtRow : OpenClaim := { program := "ytdbleddcnknmiaagreatdoor", sum := "50f76d8c657909e227dd1598772d3d1bee767e0740f2b0ade12df8b9a36aadd6", func := "loop.example/g01367/laws.FnExactTiltsAt", spec := "fnExactTiltsAt", inPlace := ["internal/reflectlite.ValueOf", "(internal/reflectlite.Value).Type", "(internal/reflectlite.Value).IsNil", "internal/reflectlite.TypeOf", "(internal/reflectlite.Value).Elem", "(internal/reflectlite.Value).Set"], unfollowed := true, recurses := true, named := ["errors.errorType"], apart := false, laid := [("errors.errorType", laid_errors_errorType)] }
def FnExactTiltsAtSaid : Prop := fnExactTiltsAtRow.holds Tryz.pinned (OpenSpec.ofChange fnExactTiltsAtSpec)

/-- ITS FALSE NEIGHBOUR: 'it returns false'. Refute it at one input. -/
def fnExactTiltsAtWrong : ChangeSpec := { name := "fnExactTiltsAt", fn := fun _ => fun
  | [d1, d2, d3, d4, d5, d6] => { results := [.lit (.bool false)], args := [d1, d2, d3, d4, d5, d6] }
  | _ => none }
def FnExactTiltsAtWrongFalsely : Prop := fnExactTiltsAtRow.holds Tryz.pinned (OpenSpec.ofChange fnExactTiltsAtWrong)

/- THE SECOND FORM. 'bulk': how many values and letters a reading holds, each counted each time it is reached (what is shared counts as often as it is met; a slice's spare places count too). A statement '..UptoSaid' is the law's where the arguments, and the package variables that the reading takes, are together of bulk at most 1048576: NARROWER than '..Said'. Prove '..Said' where nothing that the law and all that it calls make is longer than what came in: it says more and counts as full. Else prove '..UptoSaid'. A law counts once. -/
mutual
def uptoBulk {H : Type} : DataW H → Nat
  | .lit (.string bytes) => bytes.length + 1
  | .lit _ => 1
  | .nil => 1
  | .ptr d => uptoBulk d + 1
  | .slice elems spare => uptoBulkAll elems + uptoBulkAll spare + 1
  | .agg parts => uptoBulkAll parts + 1
  | .iface _ d => uptoBulk d + 1
  | .map entries => uptoBulkEntries entries + 1
  | .held _ => 1
def uptoBulkAll {H : Type} : List (DataW H) → Nat
  | [] => 0
  | d :: r => uptoBulk d + uptoBulkAll r
def uptoBulkEntries {H : Type} : List (Lit × DataW H) → Nat
  | [] => 0
  | x :: r => uptoBulkEntry x + uptoBulkEntries r
def uptoBulkEntry {H : Type} : Lit × DataW H → Nat
  | (.string bytes, d) => bytes.length + uptoBulk d + 1
  | (_, d) => uptoBulk d + 1
 end
def uptoSmall : (H : Type) → List (DataW H) → Bool := fun _ ds => decide (uptoBulkAll ds ≤ 1048576)
def OpenSpec.upto (s : _root_.Go.ChangeSpec) : _root_.Go.OpenSpec := { _root_.Go.OpenSpec.ofChange s with cond := some uptoSmall }

/-- 'laws.FnExactPlanLight', WHERE WHAT IT READS IS OF BULK AT MOST 1048576: true; the input reads as it did. -/
def fnExactPlanLightUptoRow : OpenClaim := { program := "ytdbleddcnknmiaagreatdoor", sum := "50f76d8c657909e227dd1598772d3d1bee767e0740f2b0ade12df8b9a36aadd6", func := "loop.example/g01367/laws.FnExactPlanLight", spec := "fnExactPlanLight", inPlace := ["internal/reflectlite.ValueOf", "(internal/reflectlite.Value).Type", "(internal/reflectlite.Value).IsNil", "internal/reflectlite.TypeOf", "(internal/reflectlite.Value).Elem", "(internal/reflectlite.Value).Set"], unfollowed := true, recurses := true, named := ["errors.errorType"], apart := false, laid := [("errors.errorType", laid_errors_errorType)], narrowed := true }
def FnExactPlanLightUptoSaid : Prop := fnExactPlanLightUptoRow.holds Tryz.pinned (OpenSpec.upto fnExactPlanLightSpec)

/-- 'laws.FnExactKeepsWithin', WHERE WHAT IT READS IS OF BULK AT MOST 1048576: true; the input reads as it did. -/
def fnExactKeepsWithinUptoRow : OpenClaim := { program := "ytdbleddcnknmiaagreatdoor", sum := "50f76d8c657909e227dd1598772d3d1bee767e0740f2b0ade12df8b9a36aadd6", func := "loop.example/g01367/laws.FnExactKeepsWithin", spec := "fnExactKeepsWithin", inPlace := ["internal/reflectlite.ValueOf", "(internal/reflectlite.Value).Type", "(internal/reflectlite.Value).IsNil", "internal/reflectlite.TypeOf", "(internal/reflectlite.Value).Elem", "(internal/reflectlite.Value).Set"], unfollowed := true, recurses := true, named := ["errors.errorType"], apart := false, laid := [("errors.errorType", laid_errors_errorType)], narrowed := true }
def FnExactKeepsWithinUptoSaid : Prop := fnExactKeepsWithinUptoRow.holds Tryz.pinned (OpenSpec.upto fnExactKeepsWithinSpec)

/-- 'laws.FnExactFirstOutside', WHERE WHAT IT READS IS OF BULK AT MOST 1048576: true; the input reads as it did. -/
def fnExactFirstOutsideUptoRow : OpenClaim := { program := "ytdbleddcnknmiaagreatdoor", sum := "50f76d8c657909e227dd1598772d3d1bee767e0740f2b0ade12df8b9a36aadd6", func := "loop.example/g01367/laws.FnExactFirstOutside", spec := "fnExactFirstOutside", inPlace := ["internal/reflectlite.ValueOf", "(internal/reflectlite.Value).Type", "(internal/reflectlite.Value).IsNil", "internal/reflectlite.TypeOf", "(internal/reflectlite.Value).Elem", "(internal/reflectlite.Value).Set"], unfollowed := true, recurses := true, named := ["errors.errorType"], apart := false, laid := [("errors.errorType", laid_errors_errorType)], narrowed := true }
def FnExactFirstOutsideUptoSaid : Prop := fnExactFirstOutsideUptoRow.holds Tryz.pinned (OpenSpec.upto fnExactFirstOutsideSpec)

/-- 'laws.FnExactTiltsAt', WHERE WHAT IT READS IS OF BULK AT MOST 1048576: true; the input reads as it did. -/
def fnExactTiltsAtUptoRow : OpenClaim := { program := "ytdbleddcnknmiaagreatdoor", sum := "50f76d8c657909e227dd1598772d3d1bee767e0740f2b0ade12df8b9a36aadd6", func := "loop.example/g01367/laws.FnExactTiltsAt", spec := "fnExactTiltsAt", inPlace := ["internal/reflectlite.ValueOf", "(internal/reflectlite.Value).Type", "(internal/reflectlite.Value).IsNil", "internal/reflectlite.TypeOf", "(internal/reflectlite.Value).Elem", "(internal/reflectlite.Value).Set"], unfollowed := true, recurses := true, named := ["errors.errorType"], apart := false, laid := [("errors.errorType", laid_errors_errorType)], narrowed := true }
def FnExactTiltsAtUptoSaid : Prop := fnExactTiltsAtUptoRow.holds Tryz.pinned (OpenSpec.upto fnExactTiltsAtSpec)

end Rows
end Go.Proofs.YtdbleddcnknmiaaGreatDoor
