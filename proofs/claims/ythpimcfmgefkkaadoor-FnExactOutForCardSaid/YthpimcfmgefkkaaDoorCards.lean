/-
  DERIVED. GIVEN WITH THE SEED: THE CARDS: each row of YthpimcfmgefkkaaDoorRows.lean that lists a variable, with what it lists TIED to the program's text (the seventh form; the later family's looks); each row that meets fmt, with fmt's text TOLD by the authors' own Lean function (tested against real Go, not proved from fmt's source: count such statements apart). THE CARD IS WHAT COUNTS. Prove the row's statement (the work); the ties are given (YthpimcfmgefkkaaDoorTie.lean); close each card by the builder's one call (the guide's Derived/Test/ToyasCard.lean, 'card_holds'). Laid BY PROGRAM, IN A SANDBOX (cutbox-door.mjs). By AI agents, Wed Nov 11 2026. No macro, syntax, notation, axiom, sorry.
-/
import Derived.Test.YthpimcfmgefkkaaDoorRows
import GoSem.ClaimSeven
namespace Go.Proofs.YthpimcfmgefkkaaDoor
namespace Rows

/-- THE TIED CARD OF 'laws.FnExactOutFor'. -/
def fnExactOutForCard : Claim7 := { stood := { row := fnExactOutForRow, standIns := [], harness := (true, "8a7e8c66e274e29ac2c32a6d0bf6c03152d0b62ffe14e890ebd683a90163dd42"), looks := true }, kinds := [], alts := [], laidByText := true, laidKinds := [.sentinel, .sentinel, .sentinel, .sentinel], laidTests := true, laidLooks := .later }
def FnExactOutForCardSaid : Prop := Claim7.holds Tryd.pinned (.plain (OpenSpec.ofChange fnExactOutForSpec)) fnExactOutForCard

/-- THE SECOND FORM's CARD OF 'laws.FnExactOutFor'. -/
def fnExactOutForUptoCard : Claim7 := { stood := { row := fnExactOutForUptoRow, standIns := [], harness := (true, "8a7e8c66e274e29ac2c32a6d0bf6c03152d0b62ffe14e890ebd683a90163dd42"), looks := true }, kinds := [], alts := [], laidByText := true, laidKinds := [.sentinel, .sentinel, .sentinel, .sentinel], laidTests := true, laidLooks := .later }
def FnExactOutForUptoCardSaid : Prop := Claim7.holds Tryd.pinned (.plain (OpenSpec.upto fnExactOutForSpec)) fnExactOutForUptoCard
end Rows
end Go.Proofs.YthpimcfmgefkkaaDoor
