/-
  DERIVED. GIVEN WITH THE SEED: THE CARDS: each row of YtpcmcopfdghdgaaGreatDoorRows.lean that lists a variable, with what it lists TIED to the program's text (the seventh form; the later family's looks); each row that meets fmt, with fmt's text TOLD by the authors' own Lean function (tested against real Go, not proved from fmt's source: count such statements apart). THE CARD IS WHAT COUNTS. Prove the row's statement (the work); the ties are given (YtpcmcopfdghdgaaGreatDoorTie.lean); close each card by the builder's one call (the guide's Derived/Test/ToyasCard.lean, 'card_holds'). Laid BY PROGRAM, IN A SANDBOX (cutbox-door.mjs). By AI agents, Wed Nov 11 2026. No macro, syntax, notation, axiom, sorry.
-/
import Derived.Test.YtpcmcopfdghdgaaGreatDoorRows
import GoSem.ClaimSeven
namespace Go.Proofs.YtpcmcopfdghdgaaGreatDoor
namespace Rows

/-- THE TIED CARD OF 'laws.FnBroken'. -/
def fnBrokenCard : Claim7 := { stood := { row := fnBrokenRow, standIns := [], harness := (true, "fe385a6e6926ec231f7e03ea53cc106c85932a5856d682d590ba0be0ac170b7c"), looks := true }, kinds := [], alts := [], laidByText := true, laidKinds := [.handle], laidTests := true, laidLooks := .later }
def FnBrokenCardSaid : Prop := Claim7.holds Tryz.pinned (.plain (OpenSpec.ofChange fnBrokenSpec)) fnBrokenCard

/-- THE TIED CARD OF 'laws.FnExactSuitBits'. -/
def fnExactSuitBitsCard : Claim7 := { stood := { row := fnExactSuitBitsRow, standIns := [], harness := (true, "fe385a6e6926ec231f7e03ea53cc106c85932a5856d682d590ba0be0ac170b7c"), looks := true }, kinds := [], alts := [], laidByText := true, laidKinds := [.sentinel, .sentinel, .sentinel, .sentinel], laidTests := true, laidLooks := .later }
def FnExactSuitBitsCardSaid : Prop := Claim7.holds Tryz.pinned (.plain (OpenSpec.ofChange fnExactSuitBitsSpec)) fnExactSuitBitsCard

/-- THE SECOND FORM's CARD OF 'laws.FnBroken'. -/
def fnBrokenUptoCard : Claim7 := { stood := { row := fnBrokenUptoRow, standIns := [], harness := (true, "fe385a6e6926ec231f7e03ea53cc106c85932a5856d682d590ba0be0ac170b7c"), looks := true }, kinds := [], alts := [], laidByText := true, laidKinds := [.handle], laidTests := true, laidLooks := .later }
def FnBrokenUptoCardSaid : Prop := Claim7.holds Tryz.pinned (.plain (OpenSpec.upto fnBrokenSpec)) fnBrokenUptoCard

/-- THE SECOND FORM's CARD OF 'laws.FnExactSuitBits'. -/
def fnExactSuitBitsUptoCard : Claim7 := { stood := { row := fnExactSuitBitsUptoRow, standIns := [], harness := (true, "fe385a6e6926ec231f7e03ea53cc106c85932a5856d682d590ba0be0ac170b7c"), looks := true }, kinds := [], alts := [], laidByText := true, laidKinds := [.sentinel, .sentinel, .sentinel, .sentinel], laidTests := true, laidLooks := .later }
def FnExactSuitBitsUptoCardSaid : Prop := Claim7.holds Tryz.pinned (.plain (OpenSpec.upto fnExactSuitBitsSpec)) fnExactSuitBitsUptoCard
end Rows
end Go.Proofs.YtpcmcopfdghdgaaGreatDoor
