/-
  No cell of these rows narrows 'for every input' (looked for: loops, veiled, ifaces, maps, wideKeys, modest, calm, conditions, laid).
  DERIVED. THE GIVEN ROWS OF THIS SEAT. 6 by the template 'for every input the law returns true; each argument reads behind the call as it read before'; 0 by the template 'total and deterministic' (their statements: YtelgcggcmjdhjabTotals.lean).
  GIVEN WITH THE SEED: the statements are not yours to turn. If you find one false, say at which input.
  Laid BY PROGRAM, IN A SANDBOX (cutbox-rows.mjs): the forced cells as the released guide's own fill.sh prints them over the translation 81ed7ec8967eacd8… (all of the seat's roots in one cut). By AI agents, Wed Nov 11 2026. No macro, syntax, notation, axiom, sorry.
-/
import Derived.Test.YtelgcggcmjdhjabChecked
import GoSem.Claim
import GoSem.ClaimJoined
import GoSem.ClaimMapViews
import Derived.JoinedTies
import Derived.KernelRfl
namespace Go.Proofs.Ytelgcggcmjdhjab
/- THE CELL 'sum', in the pinned program and in every row, IS THE sha256 OF THE DUMP (.gsa) THAT YtelgcggcmjdhjabProg.lean LOADS. Nothing in Lean hashes anything: it is a label: what it is worth is what the hold of that sum in a sandbox is worth. -/
noncomputable def Try.pinned : Pinned := { name := "ytelgcggcmjdhjab", sum := "81ed7ec8967eacd87974a087f2a45d42c74544a3ab3c45d462aba5a0421d69b2", checked := Try.checked }
namespace Rows
def none {H : Type} : Left H := { results := [], args := [] }

/-- 'laws.FnExactTickAll': WHATEVER THE INPUT: true; the input reads as it did. -/
def fnExactTickAllSpec : ChangeSpec := { name := "fnExactTickAll", fn := fun _ => fun
  | [d1, d2, d3, d4] => { results := [.lit (.bool true)], args := [d1, d2, d3, d4] }
  | _ => none }
def fnExactTickAllRow : OpenClaim := { program := "ytelgcggcmjdhjab", sum := "81ed7ec8967eacd87974a087f2a45d42c74544a3ab3c45d462aba5a0421d69b2", func := "loop.example/g01367/laws.FnExactTickAll", spec := "fnExactTickAll", unfollowed := true, recurses := true, plainKeys := false, leaving := true, apart := false }
def FnExactTickAllSaid : Prop := fnExactTickAllRow.holds Try.pinned (OpenSpec.ofChange fnExactTickAllSpec)

/-- ITS FALSE NEIGHBOUR: 'it returns false'. Refute it at one input. -/
def fnExactTickAllWrong : ChangeSpec := { name := "fnExactTickAll", fn := fun _ => fun
  | [d1, d2, d3, d4] => { results := [.lit (.bool false)], args := [d1, d2, d3, d4] }
  | _ => none }
def FnExactTickAllWrongFalsely : Prop := fnExactTickAllRow.holds Try.pinned (OpenSpec.ofChange fnExactTickAllWrong)

/-- 'laws.FnExactChangesIn': WHATEVER THE INPUT: true; the input reads as it did. -/
def fnExactChangesInSpec : ChangeSpec := { name := "fnExactChangesIn", fn := fun _ => fun
  | [d1, d2, d3, d4] => { results := [.lit (.bool true)], args := [d1, d2, d3, d4] }
  | _ => none }
def fnExactChangesInRow : OpenClaim := { program := "ytelgcggcmjdhjab", sum := "81ed7ec8967eacd87974a087f2a45d42c74544a3ab3c45d462aba5a0421d69b2", func := "loop.example/g01367/laws.FnExactChangesIn", spec := "fnExactChangesIn", unfollowed := true, recurses := true, plainKeys := false, leaving := true, apart := false }
def FnExactChangesInSaid : Prop := fnExactChangesInRow.holds Try.pinned (OpenSpec.ofChange fnExactChangesInSpec)

/-- ITS FALSE NEIGHBOUR: 'it returns false'. Refute it at one input. -/
def fnExactChangesInWrong : ChangeSpec := { name := "fnExactChangesIn", fn := fun _ => fun
  | [d1, d2, d3, d4] => { results := [.lit (.bool false)], args := [d1, d2, d3, d4] }
  | _ => none }
def FnExactChangesInWrongFalsely : Prop := fnExactChangesInRow.holds Try.pinned (OpenSpec.ofChange fnExactChangesInWrong)

/-- 'laws.FnExactRaisedIn': WHATEVER THE INPUT: true; the input reads as it did. -/
def fnExactRaisedInSpec : ChangeSpec := { name := "fnExactRaisedIn", fn := fun _ => fun
  | [d1, d2, d3, d4] => { results := [.lit (.bool true)], args := [d1, d2, d3, d4] }
  | _ => none }
def fnExactRaisedInRow : OpenClaim := { program := "ytelgcggcmjdhjab", sum := "81ed7ec8967eacd87974a087f2a45d42c74544a3ab3c45d462aba5a0421d69b2", func := "loop.example/g01367/laws.FnExactRaisedIn", spec := "fnExactRaisedIn", unfollowed := true, recurses := true, plainKeys := false, leaving := true, apart := false }
def FnExactRaisedInSaid : Prop := fnExactRaisedInRow.holds Try.pinned (OpenSpec.ofChange fnExactRaisedInSpec)

/-- ITS FALSE NEIGHBOUR: 'it returns false'. Refute it at one input. -/
def fnExactRaisedInWrong : ChangeSpec := { name := "fnExactRaisedIn", fn := fun _ => fun
  | [d1, d2, d3, d4] => { results := [.lit (.bool false)], args := [d1, d2, d3, d4] }
  | _ => none }
def FnExactRaisedInWrongFalsely : Prop := fnExactRaisedInRow.holds Try.pinned (OpenSpec.ofChange fnExactRaisedInWrong)

/-- 'laws.FnExactGlareTicks': WHATEVER THE INPUT: true; the input reads as it did. -/
def fnExactGlareTicksSpec : ChangeSpec := { name := "fnExactGlareTicks", fn := fun _ => fun
  | [d1, d2, d3, d4, d5] => { results := [.lit (.bool true)], args := [d1, d2, d3, d4, d5] }
  | _ => none }
def fnExactGlareTicksRow : OpenClaim := { program := "ytelgcggcmjdhjab", sum := "81ed7ec8967eacd87974a087f2a45d42c74544a3ab3c45d462aba5a0421d69b2", func := "loop.example/g01367/laws.FnExactGlareTicks", spec := "fnExactGlareTicks", unfollowed := true, recurses := true, plainKeys := false, leaving := true, apart := false }
def FnExactGlareTicksSaid : Prop := fnExactGlareTicksRow.holds Try.pinned (OpenSpec.ofChange fnExactGlareTicksSpec)

/-- ITS FALSE NEIGHBOUR: 'it returns false'. Refute it at one input. -/
def fnExactGlareTicksWrong : ChangeSpec := { name := "fnExactGlareTicks", fn := fun _ => fun
  | [d1, d2, d3, d4, d5] => { results := [.lit (.bool false)], args := [d1, d2, d3, d4, d5] }
  | _ => none }
def FnExactGlareTicksWrongFalsely : Prop := fnExactGlareTicksRow.holds Try.pinned (OpenSpec.ofChange fnExactGlareTicksWrong)

/-- 'laws.FnExactTiltFor': WHATEVER THE INPUT: true; the input reads as it did. -/
def fnExactTiltForSpec : ChangeSpec := { name := "fnExactTiltFor", fn := fun _ => fun
  | [d1, d2, d3] => { results := [.lit (.bool true)], args := [d1, d2, d3] }
  | _ => none }
def fnExactTiltForRow : OpenClaim := { program := "ytelgcggcmjdhjab", sum := "81ed7ec8967eacd87974a087f2a45d42c74544a3ab3c45d462aba5a0421d69b2", func := "loop.example/g01367/laws.FnExactTiltFor", spec := "fnExactTiltFor", inPlace := ["math.Float32bits"], unfollowed := true, recurses := true, plainKeys := false, leaving := true, apart := false }
def FnExactTiltForSaid : Prop := fnExactTiltForRow.holds Try.pinned (OpenSpec.ofChange fnExactTiltForSpec)

/-- ITS FALSE NEIGHBOUR: 'it returns false'. Refute it at one input. -/
def fnExactTiltForWrong : ChangeSpec := { name := "fnExactTiltFor", fn := fun _ => fun
  | [d1, d2, d3] => { results := [.lit (.bool false)], args := [d1, d2, d3] }
  | _ => none }
def FnExactTiltForWrongFalsely : Prop := fnExactTiltForRow.holds Try.pinned (OpenSpec.ofChange fnExactTiltForWrong)

/-- 'laws.FnExactPassAll': WHATEVER THE INPUT: true; the input reads as it did. -/
def fnExactPassAllSpec : ChangeSpec := { name := "fnExactPassAll", fn := fun _ => fun
  | [d1, d2] => { results := [.lit (.bool true)], args := [d1, d2] }
  | _ => none }
def fnExactPassAllRow : OpenClaim := { program := "ytelgcggcmjdhjab", sum := "81ed7ec8967eacd87974a087f2a45d42c74544a3ab3c45d462aba5a0421d69b2", func := "loop.example/g01367/laws.FnExactPassAll", spec := "fnExactPassAll", unfollowed := true, recurses := true, plainKeys := false, leaving := true, apart := false }
def FnExactPassAllSaid : Prop := fnExactPassAllRow.holds Try.pinned (OpenSpec.ofChange fnExactPassAllSpec)

/-- ITS FALSE NEIGHBOUR: 'it returns false'. Refute it at one input. -/
def fnExactPassAllWrong : ChangeSpec := { name := "fnExactPassAll", fn := fun _ => fun
  | [d1, d2] => { results := [.lit (.bool false)], args := [d1, d2] }
  | _ => none }
def FnExactPassAllWrongFalsely : Prop := fnExactPassAllRow.holds Try.pinned (OpenSpec.ofChange fnExactPassAllWrong)

/- THE SECOND FORM. 'bulk': how many values and letters a reading holds, each counted each time it is reached (what is shared counts as often as it is met; a slice's spare places count too). A statement '..UptoSaid' is the law's where the arguments, and the package variables that the reading takes, are together of bulk at most 1048576: NARROWER than '..Said'. Prove '..Said' where nothing that the law and all that it calls make is longer than what came in: it says more and counts as full. Else prove '..UptoSaid'. A law counts once. -/
mutual
def uptoBulk {H : Type} : DataW H → Nat
  | .lit (.string bytes) => bytes.length + 1
  | .lit _ => 1
  | .nil => 1
  | .ptr d => uptoBulk d + 1
  | .slice elems spare => uptoBulkAll elems + uptoBulkAll spare + 1
  | .agg parts => uptoBulkAll parts + 1
  | .iface _ d => uptoBulk d + 1
  | .map entries => uptoBulkEntries entries + 1
  | .held _ => 1
def uptoBulkAll {H : Type} : List (DataW H) → Nat
  | [] => 0
  | d :: r => uptoBulk d + uptoBulkAll r
def uptoBulkEntries {H : Type} : List (Lit × DataW H) → Nat
  | [] => 0
  | x :: r => uptoBulkEntry x + uptoBulkEntries r
def uptoBulkEntry {H : Type} : Lit × DataW H → Nat
  | (.string bytes, d) => bytes.length + uptoBulk d + 1
  | (_, d) => uptoBulk d + 1
 end
def uptoSmall : (H : Type) → List (DataW H) → Bool := fun _ ds => decide (uptoBulkAll ds ≤ 1048576)
def OpenSpec.upto (s : _root_.Go.ChangeSpec) : _root_.Go.OpenSpec := { _root_.Go.OpenSpec.ofChange s with cond := some uptoSmall }

/-- 'laws.FnExactTickAll', WHERE WHAT IT READS IS OF BULK AT MOST 1048576: true; the input reads as it did. -/
def fnExactTickAllUptoRow : OpenClaim := { program := "ytelgcggcmjdhjab", sum := "81ed7ec8967eacd87974a087f2a45d42c74544a3ab3c45d462aba5a0421d69b2", func := "loop.example/g01367/laws.FnExactTickAll", spec := "fnExactTickAll", unfollowed := true, recurses := true, plainKeys := false, leaving := true, apart := false, narrowed := true }
def FnExactTickAllUptoSaid : Prop := fnExactTickAllUptoRow.holds Try.pinned (OpenSpec.upto fnExactTickAllSpec)

/-- 'laws.FnExactChangesIn', WHERE WHAT IT READS IS OF BULK AT MOST 1048576: true; the input reads as it did. -/
def fnExactChangesInUptoRow : OpenClaim := { program := "ytelgcggcmjdhjab", sum := "81ed7ec8967eacd87974a087f2a45d42c74544a3ab3c45d462aba5a0421d69b2", func := "loop.example/g01367/laws.FnExactChangesIn", spec := "fnExactChangesIn", unfollowed := true, recurses := true, plainKeys := false, leaving := true, apart := false, narrowed := true }
def FnExactChangesInUptoSaid : Prop := fnExactChangesInUptoRow.holds Try.pinned (OpenSpec.upto fnExactChangesInSpec)

/-- 'laws.FnExactRaisedIn', WHERE WHAT IT READS IS OF BULK AT MOST 1048576: true; the input reads as it did. -/
def fnExactRaisedInUptoRow : OpenClaim := { program := "ytelgcggcmjdhjab", sum := "81ed7ec8967eacd87974a087f2a45d42c74544a3ab3c45d462aba5a0421d69b2", func := "loop.example/g01367/laws.FnExactRaisedIn", spec := "fnExactRaisedIn", unfollowed := true, recurses := true, plainKeys := false, leaving := true, apart := false, narrowed := true }
def FnExactRaisedInUptoSaid : Prop := fnExactRaisedInUptoRow.holds Try.pinned (OpenSpec.upto fnExactRaisedInSpec)

/-- 'laws.FnExactGlareTicks', WHERE WHAT IT READS IS OF BULK AT MOST 1048576: true; the input reads as it did. -/
def fnExactGlareTicksUptoRow : OpenClaim := { program := "ytelgcggcmjdhjab", sum := "81ed7ec8967eacd87974a087f2a45d42c74544a3ab3c45d462aba5a0421d69b2", func := "loop.example/g01367/laws.FnExactGlareTicks", spec := "fnExactGlareTicks", unfollowed := true, recurses := true, plainKeys := false, leaving := true, apart := false, narrowed := true }
def FnExactGlareTicksUptoSaid : Prop := fnExactGlareTicksUptoRow.holds Try.pinned (OpenSpec.upto fnExactGlareTicksSpec)

/-- 'laws.FnExactTiltFor', WHERE WHAT IT READS IS OF BULK AT MOST 1048576: true; the input reads as it did. -/
def fnExactTiltForUptoRow : OpenClaim := { program := "ytelgcggcmjdhjab", sum := "81ed7ec8967eacd87974a087f2a45d42c74544a3ab3c45d462aba5a0421d69b2", func := "loop.example/g01367/laws.FnExactTiltFor", spec := "fnExactTiltFor", inPlace := ["math.Float32bits"], unfollowed := true, recurses := true, plainKeys := false, leaving := true, apart := false, narrowed := true }
def FnExactTiltForUptoSaid : Prop := fnExactTiltForUptoRow.holds Try.pinned (OpenSpec.upto fnExactTiltForSpec)

/-- 'laws.FnExactPassAll', WHERE WHAT IT READS IS OF BULK AT MOST 1048576: true; the input reads as it did. -/
def fnExactPassAllUptoRow : OpenClaim := { program := "ytelgcggcmjdhjab", sum := "81ed7ec8967eacd87974a087f2a45d42c74544a3ab3c45d462aba5a0421d69b2", func := "loop.example/g01367/laws.FnExactPassAll", spec := "fnExactPassAll", unfollowed := true, recurses := true, plainKeys := false, leaving := true, apart := false, narrowed := true }
def FnExactPassAllUptoSaid : Prop := fnExactPassAllUptoRow.holds Try.pinned (OpenSpec.upto fnExactPassAllSpec)

end Rows
end Go.Proofs.Ytelgcggcmjdhjab
