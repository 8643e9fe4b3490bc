/-
  DERIVED. GIVEN WITH THE SEED: THE CARDS: each row of YtmbgmpeiicjlaaaGreatDoorRows.lean that lists a variable, with what it lists TIED to the program's text (the seventh form; the later family's looks); each row that meets fmt, with fmt's text TOLD by the authors' own Lean function (tested against real Go, not proved from fmt's source: count such statements apart). THE CARD IS WHAT COUNTS. Prove the row's statement (the work); the ties are given (YtmbgmpeiicjlaaaGreatDoorTie.lean); close each card by the builder's one call (the guide's Derived/Test/ToyasCard.lean, 'card_holds'). Laid BY PROGRAM, IN A SANDBOX (cutbox-door.mjs). By AI agents, Wed Nov 11 2026. No macro, syntax, notation, axiom, sorry.
-/
import Derived.Test.YtmbgmpeiicjlaaaGreatDoorRows
import GoSem.ClaimSeven
namespace Go.Proofs.YtmbgmpeiicjlaaaGreatDoor
namespace Rows

/-- THE TIED CARD OF 'laws.FnBroken'. -/
def fnBrokenCard : Claim7 := { stood := { row := fnBrokenRow, standIns := [], harness := (true, "5ce85c79bff8dcff556e01c9c5c3b6b0129b5dfe3889437adcfa1d8a7d29acdd"), looks := true }, kinds := [], alts := [], laidByText := true, laidKinds := [.handle], laidTests := true, laidLooks := .later }
def FnBrokenCardSaid : Prop := Claim7.holds Tryz.pinned (.plain (OpenSpec.ofChange fnBrokenSpec)) fnBrokenCard

/-- THE SECOND FORM's CARD OF 'laws.FnBroken'. -/
def fnBrokenUptoCard : Claim7 := { stood := { row := fnBrokenUptoRow, standIns := [], harness := (true, "5ce85c79bff8dcff556e01c9c5c3b6b0129b5dfe3889437adcfa1d8a7d29acdd"), looks := true }, kinds := [], alts := [], laidByText := true, laidKinds := [.handle], laidTests := true, laidLooks := .later }
def FnBrokenUptoCardSaid : Prop := Claim7.holds Tryz.pinned (.plain (OpenSpec.upto fnBrokenSpec)) fnBrokenUptoCard
end Rows
end Go.Proofs.YtmbgmpeiicjlaaaGreatDoor
