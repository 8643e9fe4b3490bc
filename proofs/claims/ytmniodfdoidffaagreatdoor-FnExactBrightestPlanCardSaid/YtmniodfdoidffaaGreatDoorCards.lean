/-
  DERIVED. GIVEN WITH THE SEED: THE CARDS: each row of YtmniodfdoidffaaGreatDoorRows.lean that lists a variable, with what it lists TIED to the program's text (the seventh form; the later family's looks); each row that meets fmt, with fmt's text TOLD by the authors' own Lean function (tested against real Go, not proved from fmt's source: count such statements apart). THE CARD IS WHAT COUNTS. Prove the row's statement (the work); the ties are given (YtmniodfdoidffaaGreatDoorTie.lean); close each card by the builder's one call (the guide's Derived/Test/ToyasCard.lean, 'card_holds'). Laid BY PROGRAM, IN A SANDBOX (cutbox-door.mjs). By AI agents, Wed Nov 11 2026. No macro, syntax, notation, axiom, sorry.
-/
import Derived.Test.YtmniodfdoidffaaGreatDoorRows
import GoSem.ClaimSeven
namespace Go.Proofs.YtmniodfdoidffaaGreatDoor
namespace Rows

/-- THE TIED CARD OF 'laws.FnExactFewestChanges'. -/
def fnExactFewestChangesCard : Claim7 := { stood := { row := fnExactFewestChangesRow, standIns := [], harness := (true, "af787813ad57b580caed1c53995b8b9560c55ddd5b378037147473903340cd63"), looks := true }, kinds := [], alts := [], laidByText := true, laidKinds := [.handle], laidTests := true, laidLooks := .later }
def FnExactFewestChangesCardSaid : Prop := Claim7.holds Tryz.pinned (.plain (OpenSpec.ofChange fnExactFewestChangesSpec)) fnExactFewestChangesCard

/-- THE TIED CARD OF 'laws.FnExactBrightestPlan'. -/
def fnExactBrightestPlanCard : Claim7 := { stood := { row := fnExactBrightestPlanRow, standIns := [], harness := (true, "af787813ad57b580caed1c53995b8b9560c55ddd5b378037147473903340cd63"), looks := true }, kinds := [], alts := [], laidByText := true, laidKinds := [.handle], laidTests := true, laidLooks := .later }
def FnExactBrightestPlanCardSaid : Prop := Claim7.holds Tryz.pinned (.plain (OpenSpec.ofChange fnExactBrightestPlanSpec)) fnExactBrightestPlanCard

/-- THE SECOND FORM's CARD OF 'laws.FnExactFewestChanges'. -/
def fnExactFewestChangesUptoCard : Claim7 := { stood := { row := fnExactFewestChangesUptoRow, standIns := [], harness := (true, "af787813ad57b580caed1c53995b8b9560c55ddd5b378037147473903340cd63"), looks := true }, kinds := [], alts := [], laidByText := true, laidKinds := [.handle], laidTests := true, laidLooks := .later }
def FnExactFewestChangesUptoCardSaid : Prop := Claim7.holds Tryz.pinned (.plain (OpenSpec.upto fnExactFewestChangesSpec)) fnExactFewestChangesUptoCard

/-- THE SECOND FORM's CARD OF 'laws.FnExactBrightestPlan'. -/
def fnExactBrightestPlanUptoCard : Claim7 := { stood := { row := fnExactBrightestPlanUptoRow, standIns := [], harness := (true, "af787813ad57b580caed1c53995b8b9560c55ddd5b378037147473903340cd63"), looks := true }, kinds := [], alts := [], laidByText := true, laidKinds := [.handle], laidTests := true, laidLooks := .later }
def FnExactBrightestPlanUptoCardSaid : Prop := Claim7.holds Tryz.pinned (.plain (OpenSpec.upto fnExactBrightestPlanSpec)) fnExactBrightestPlanUptoCard
end Rows
end Go.Proofs.YtmniodfdoidffaaGreatDoor
