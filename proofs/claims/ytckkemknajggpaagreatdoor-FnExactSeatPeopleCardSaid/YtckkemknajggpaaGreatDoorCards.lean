/-
  DERIVED. GIVEN WITH THE SEED: THE CARDS: each row of YtckkemknajggpaaGreatDoorRows.lean that lists a variable, with what it lists TIED to the program's text (the seventh form; the later family's looks); each row that meets fmt, with fmt's text TOLD by the authors' own Lean function (tested against real Go, not proved from fmt's source: count such statements apart). THE CARD IS WHAT COUNTS. Prove the row's statement (the work); the ties are given (YtckkemknajggpaaGreatDoorTie.lean); close each card by the builder's one call (the guide's Derived/Test/ToyasCard.lean, 'card_holds'). Laid BY PROGRAM, IN A SANDBOX (cutbox-door.mjs). By AI agents, Wed Nov 11 2026. No macro, syntax, notation, axiom, sorry.
-/
import Derived.Test.YtckkemknajggpaaGreatDoorRows
import GoSem.ClaimSeven
namespace Go.Proofs.YtckkemknajggpaaGreatDoor
namespace Rows

/-- THE TIED CARD OF 'laws.FnExactSeatPeople'. -/
def fnExactSeatPeopleCard : Claim7 := { stood := { row := fnExactSeatPeopleRow, standIns := [], harness := (true, "d07da51fe191c5d4608df0834e5747b812cab3f0a7271add7d3a95b41f10e815"), looks := true }, kinds := [], alts := [], laidByText := true, laidKinds := [.sentinel, .sentinel, .sentinel, .sentinel], laidTests := true, laidLooks := .later }
def FnExactSeatPeopleCardSaid : Prop := Claim7.holds Tryz.pinned (.plain (OpenSpec.ofChange fnExactSeatPeopleSpec)) fnExactSeatPeopleCard

/-- THE SECOND FORM's CARD OF 'laws.FnExactSeatPeople'. -/
def fnExactSeatPeopleUptoCard : Claim7 := { stood := { row := fnExactSeatPeopleUptoRow, standIns := [], harness := (true, "d07da51fe191c5d4608df0834e5747b812cab3f0a7271add7d3a95b41f10e815"), looks := true }, kinds := [], alts := [], laidByText := true, laidKinds := [.sentinel, .sentinel, .sentinel, .sentinel], laidTests := true, laidLooks := .later }
def FnExactSeatPeopleUptoCardSaid : Prop := Claim7.holds Tryz.pinned (.plain (OpenSpec.upto fnExactSeatPeopleSpec)) fnExactSeatPeopleUptoCard
end Rows
end Go.Proofs.YtckkemknajggpaaGreatDoor
