/-
  DERIVED. GIVEN WITH THE SEED: THE CARDS: each row of YtddnfbpgldchcaaDoorRows.lean that lists a variable, with what it lists TIED to the program's text (the seventh form; the later family's looks); each row that meets fmt, with fmt's text TOLD by the authors' own Lean function (tested against real Go, not proved from fmt's source: count such statements apart). THE CARD IS WHAT COUNTS. Prove the row's statement (the work); the ties are given (YtddnfbpgldchcaaDoorTie.lean); close each card by the builder's one call (the guide's Derived/Test/ToyasCard.lean, 'card_holds'). Laid BY PROGRAM, IN A SANDBOX (cutbox-door.mjs). By AI agents, Wed Nov 11 2026. No macro, syntax, notation, axiom, sorry.
-/
import Derived.Test.YtddnfbpgldchcaaDoorRows
import GoSem.ClaimSeven
namespace Go.Proofs.YtddnfbpgldchcaaDoor
namespace Rows

/-- THE TIED CARD OF 'laws.FnExactPlaceDesks'. -/
def fnExactPlaceDesksCard : Claim7 := { stood := { row := fnExactPlaceDesksRow, standIns := [], harness := (true, "61acc54027becb938de2d35785d7e752cac03713d3cfe21461e3bcec320139c3"), looks := true }, kinds := [], alts := [], laidByText := true, laidKinds := [.sentinel, .sentinel, .sentinel, .sentinel], laidTests := true, laidLooks := .later }
def FnExactPlaceDesksCardSaid : Prop := Claim7.holds Tryd.pinned (.plain (OpenSpec.ofChange fnExactPlaceDesksSpec)) fnExactPlaceDesksCard

/-- THE SECOND FORM's CARD OF 'laws.FnExactPlaceDesks'. -/
def fnExactPlaceDesksUptoCard : Claim7 := { stood := { row := fnExactPlaceDesksUptoRow, standIns := [], harness := (true, "61acc54027becb938de2d35785d7e752cac03713d3cfe21461e3bcec320139c3"), looks := true }, kinds := [], alts := [], laidByText := true, laidKinds := [.sentinel, .sentinel, .sentinel, .sentinel], laidTests := true, laidLooks := .later }
def FnExactPlaceDesksUptoCardSaid : Prop := Claim7.holds Tryd.pinned (.plain (OpenSpec.upto fnExactPlaceDesksSpec)) fnExactPlaceDesksUptoCard
end Rows
end Go.Proofs.YtddnfbpgldchcaaDoor
