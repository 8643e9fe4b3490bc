/-
  DERIVED. GIVEN WITH THE SEED: THE CARDS: each row of YtdbleddcnknmiaaGreatDoorRows.lean that lists a variable, with what it lists TIED to the program's text (the seventh form; the later family's looks); each row that meets fmt, with fmt's text TOLD by the authors' own Lean function (tested against real Go, not proved from fmt's source: count such statements apart). THE CARD IS WHAT COUNTS. Prove the row's statement (the work); the ties are given (YtdbleddcnknmiaaGreatDoorTie.lean); close each card by the builder's one call (the guide's Derived/Test/ToyasCard.lean, 'card_holds'). Laid BY PROGRAM, IN A SANDBOX (cutbox-door.mjs). By AI agents, Wed Nov 11 2026. No macro, syntax, notation, axiom, sorry.
-/
import Derived.Test.YtdbleddcnknmiaaGreatDoorRows
import GoSem.ClaimSeven
namespace Go.Proofs.YtdbleddcnknmiaaGreatDoor
namespace Rows

/-- THE TIED CARD OF 'laws.FnExactPlanLight'. -/
def fnExactPlanLightCard : Claim7 := { stood := { row := fnExactPlanLightRow, standIns := [], harness := (true, "004613b54e8850995baeaae90c0e996e3ce3ebb8672b28c47ffd3b3209cecb97"), looks := true }, kinds := [], alts := [], laidByText := true, laidKinds := [.handle], laidTests := true, laidLooks := .later }
def FnExactPlanLightCardSaid : Prop := Claim7.holds Tryz.pinned (.plain (OpenSpec.ofChange fnExactPlanLightSpec)) fnExactPlanLightCard

/-- THE TIED CARD OF 'laws.FnExactKeepsWithin'. -/
def fnExactKeepsWithinCard : Claim7 := { stood := { row := fnExactKeepsWithinRow, standIns := [], harness := (true, "004613b54e8850995baeaae90c0e996e3ce3ebb8672b28c47ffd3b3209cecb97"), looks := true }, kinds := [], alts := [], laidByText := true, laidKinds := [.handle], laidTests := true, laidLooks := .later }
def FnExactKeepsWithinCardSaid : Prop := Claim7.holds Tryz.pinned (.plain (OpenSpec.ofChange fnExactKeepsWithinSpec)) fnExactKeepsWithinCard

/-- THE TIED CARD OF 'laws.FnExactFirstOutside'. -/
def fnExactFirstOutsideCard : Claim7 := { stood := { row := fnExactFirstOutsideRow, standIns := [], harness := (true, "004613b54e8850995baeaae90c0e996e3ce3ebb8672b28c47ffd3b3209cecb97"), looks := true }, kinds := [], alts := [], laidByText := true, laidKinds := [.handle], laidTests := true, laidLooks := .later }
def FnExactFirstOutsideCardSaid : Prop := Claim7.holds Tryz.pinned (.plain (OpenSpec.ofChange fnExactFirstOutsideSpec)) fnExactFirstOutsideCard

/-- THE TIED CARD OF 'laws.FnExactTiltsAt'. -/
def fnExactTiltsAtCard : Claim7 := { stood := { row := fnExactTiltsAtRow, standIns := [], harness := (true, "004613b54e8850995baeaae90c0e996e3ce3ebb8672b28c47ffd3b3209cecb97"), looks := true }, kinds := [], alts := [], laidByText := true, laidKinds := [.handle], laidTests := true, laidLooks := .later }
def FnExactTiltsAtCardSaid : Prop := Claim7.holds Tryz.pinned (.plain (OpenSpec.ofChange fnExactTiltsAtSpec)) fnExactTiltsAtCard

/-- THE SECOND FORM's CARD OF 'laws.FnExactPlanLight'. -/
def fnExactPlanLightUptoCard : Claim7 := { stood := { row := fnExactPlanLightUptoRow, standIns := [], harness := (true, "004613b54e8850995baeaae90c0e996e3ce3ebb8672b28c47ffd3b3209cecb97"), looks := true }, kinds := [], alts := [], laidByText := true, laidKinds := [.handle], laidTests := true, laidLooks := .later }
def FnExactPlanLightUptoCardSaid : Prop := Claim7.holds Tryz.pinned (.plain (OpenSpec.upto fnExactPlanLightSpec)) fnExactPlanLightUptoCard

/-- THE SECOND FORM's CARD OF 'laws.FnExactKeepsWithin'. -/
def fnExactKeepsWithinUptoCard : Claim7 := { stood := { row := fnExactKeepsWithinUptoRow, standIns := [], harness := (true, "004613b54e8850995baeaae90c0e996e3ce3ebb8672b28c47ffd3b3209cecb97"), looks := true }, kinds := [], alts := [], laidByText := true, laidKinds := [.handle], laidTests := true, laidLooks := .later }
def FnExactKeepsWithinUptoCardSaid : Prop := Claim7.holds Tryz.pinned (.plain (OpenSpec.upto fnExactKeepsWithinSpec)) fnExactKeepsWithinUptoCard

/-- THE SECOND FORM's CARD OF 'laws.FnExactFirstOutside'. -/
def fnExactFirstOutsideUptoCard : Claim7 := { stood := { row := fnExactFirstOutsideUptoRow, standIns := [], harness := (true, "004613b54e8850995baeaae90c0e996e3ce3ebb8672b28c47ffd3b3209cecb97"), looks := true }, kinds := [], alts := [], laidByText := true, laidKinds := [.handle], laidTests := true, laidLooks := .later }
def FnExactFirstOutsideUptoCardSaid : Prop := Claim7.holds Tryz.pinned (.plain (OpenSpec.upto fnExactFirstOutsideSpec)) fnExactFirstOutsideUptoCard

/-- THE SECOND FORM's CARD OF 'laws.FnExactTiltsAt'. -/
def fnExactTiltsAtUptoCard : Claim7 := { stood := { row := fnExactTiltsAtUptoRow, standIns := [], harness := (true, "004613b54e8850995baeaae90c0e996e3ce3ebb8672b28c47ffd3b3209cecb97"), looks := true }, kinds := [], alts := [], laidByText := true, laidKinds := [.handle], laidTests := true, laidLooks := .later }
def FnExactTiltsAtUptoCardSaid : Prop := Claim7.holds Tryz.pinned (.plain (OpenSpec.upto fnExactTiltsAtSpec)) fnExactTiltsAtUptoCard
end Rows
end Go.Proofs.YtdbleddcnknmiaaGreatDoor
