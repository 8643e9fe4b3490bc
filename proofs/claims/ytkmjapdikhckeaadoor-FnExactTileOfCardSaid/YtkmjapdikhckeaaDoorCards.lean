/-
  DERIVED. GIVEN WITH THE SEED: THE CARDS: each row of YtkmjapdikhckeaaDoorRows.lean that lists a variable, with what it lists TIED to the program's text (the seventh form; the later family's looks); each row that meets fmt, with fmt's text TOLD by the authors' own Lean function (tested against real Go, not proved from fmt's source: count such statements apart). THE CARD IS WHAT COUNTS. Prove the row's statement (the work); the ties are given (YtkmjapdikhckeaaDoorTie.lean); close each card by the builder's one call (the guide's Derived/Test/ToyasCard.lean, 'card_holds'). Laid BY PROGRAM, IN A SANDBOX (cutbox-door.mjs). By AI agents, Wed Nov 11 2026. No macro, syntax, notation, axiom, sorry.
-/
import Derived.Test.YtkmjapdikhckeaaDoorRows
import GoSem.ClaimSeven
namespace Go.Proofs.YtkmjapdikhckeaaDoor
namespace Rows

/-- THE TIED CARD OF 'laws.FnExactTileOf'. -/
def fnExactTileOfCard : Claim7 := { stood := { row := fnExactTileOfRow, standIns := [], harness := (true, "0d967ccce2067ffedb78321910dd62310d10a7b2f4ef92084bbf76c8b4f81a89"), looks := true }, kinds := [], alts := [], laidByText := true, laidKinds := [.sentinel, .sentinel, .sentinel, .sentinel], laidTests := true, laidLooks := .later }
def FnExactTileOfCardSaid : Prop := Claim7.holds Tryd.pinned (.plain (OpenSpec.ofChange fnExactTileOfSpec)) fnExactTileOfCard

/-- THE TIED CARD OF 'laws.FnExactLightAt'. -/
def fnExactLightAtCard : Claim7 := { stood := { row := fnExactLightAtRow, standIns := [], harness := (true, "0d967ccce2067ffedb78321910dd62310d10a7b2f4ef92084bbf76c8b4f81a89"), looks := true }, kinds := [], alts := [], laidByText := true, laidKinds := [.sentinel, .sentinel, .sentinel, .sentinel], laidTests := true, laidLooks := .later }
def FnExactLightAtCardSaid : Prop := Claim7.holds Tryd.pinned (.plain (OpenSpec.ofChange fnExactLightAtSpec)) fnExactLightAtCard

/-- THE TIED CARD OF 'laws.FnExactLightMap'. -/
def fnExactLightMapCard : Claim7 := { stood := { row := fnExactLightMapRow, standIns := [], harness := (true, "0d967ccce2067ffedb78321910dd62310d10a7b2f4ef92084bbf76c8b4f81a89"), looks := true }, kinds := [], alts := [], laidByText := true, laidKinds := [.sentinel, .sentinel, .sentinel, .sentinel], laidTests := true, laidLooks := .later }
def FnExactLightMapCardSaid : Prop := Claim7.holds Tryd.pinned (.plain (OpenSpec.ofChange fnExactLightMapSpec)) fnExactLightMapCard

/-- THE TIED CARD OF 'laws.FnExactMeanLight'. -/
def fnExactMeanLightCard : Claim7 := { stood := { row := fnExactMeanLightRow, standIns := [], harness := (true, "0d967ccce2067ffedb78321910dd62310d10a7b2f4ef92084bbf76c8b4f81a89"), looks := true }, kinds := [], alts := [], laidByText := true, laidKinds := [.sentinel, .sentinel, .sentinel, .sentinel], laidTests := true, laidLooks := .later }
def FnExactMeanLightCardSaid : Prop := Claim7.holds Tryd.pinned (.plain (OpenSpec.ofChange fnExactMeanLightSpec)) fnExactMeanLightCard

/-- THE TIED CARD OF 'laws.FnExactBrightest'. -/
def fnExactBrightestCard : Claim7 := { stood := { row := fnExactBrightestRow, standIns := [], harness := (true, "0d967ccce2067ffedb78321910dd62310d10a7b2f4ef92084bbf76c8b4f81a89"), looks := true }, kinds := [], alts := [], laidByText := true, laidKinds := [.sentinel, .sentinel, .sentinel, .sentinel], laidTests := true, laidLooks := .later }
def FnExactBrightestCardSaid : Prop := Claim7.holds Tryd.pinned (.plain (OpenSpec.ofChange fnExactBrightestSpec)) fnExactBrightestCard

/-- THE TIED CARD OF 'laws.FnExactLitTiles'. -/
def fnExactLitTilesCard : Claim7 := { stood := { row := fnExactLitTilesRow, standIns := [], harness := (true, "0d967ccce2067ffedb78321910dd62310d10a7b2f4ef92084bbf76c8b4f81a89"), looks := true }, kinds := [], alts := [], laidByText := true, laidKinds := [.sentinel, .sentinel, .sentinel, .sentinel], laidTests := true, laidLooks := .later }
def FnExactLitTilesCardSaid : Prop := Claim7.holds Tryd.pinned (.plain (OpenSpec.ofChange fnExactLitTilesSpec)) fnExactLitTilesCard

/-- THE TIED CARD OF 'laws.FnExactGlareAt'. -/
def fnExactGlareAtCard : Claim7 := { stood := { row := fnExactGlareAtRow, standIns := [], harness := (true, "0d967ccce2067ffedb78321910dd62310d10a7b2f4ef92084bbf76c8b4f81a89"), looks := true }, kinds := [], alts := [], laidByText := true, laidKinds := [.sentinel, .sentinel, .sentinel, .sentinel], laidTests := true, laidLooks := .later }
def FnExactGlareAtCardSaid : Prop := Claim7.holds Tryd.pinned (.plain (OpenSpec.ofChange fnExactGlareAtSpec)) fnExactGlareAtCard

/-- THE TIED CARD OF 'laws.FnExactLeastGlare'. -/
def fnExactLeastGlareCard : Claim7 := { stood := { row := fnExactLeastGlareRow, standIns := [], harness := (true, "0d967ccce2067ffedb78321910dd62310d10a7b2f4ef92084bbf76c8b4f81a89"), looks := true }, kinds := [], alts := [], laidByText := true, laidKinds := [.sentinel, .sentinel, .sentinel, .sentinel], laidTests := true, laidLooks := .later }
def FnExactLeastGlareCardSaid : Prop := Claim7.holds Tryd.pinned (.plain (OpenSpec.ofChange fnExactLeastGlareSpec)) fnExactLeastGlareCard

/-- THE TIED CARD OF 'laws.FnExactGlareBits'. -/
def fnExactGlareBitsCard : Claim7 := { stood := { row := fnExactGlareBitsRow, standIns := [], harness := (true, "0d967ccce2067ffedb78321910dd62310d10a7b2f4ef92084bbf76c8b4f81a89"), looks := true }, kinds := [], alts := [], laidByText := true, laidKinds := [.sentinel, .sentinel, .sentinel, .sentinel], laidTests := true, laidLooks := .later }
def FnExactGlareBitsCardSaid : Prop := Claim7.holds Tryd.pinned (.plain (OpenSpec.ofChange fnExactGlareBitsSpec)) fnExactGlareBitsCard

/-- THE SECOND FORM's CARD OF 'laws.FnExactTileOf'. -/
def fnExactTileOfUptoCard : Claim7 := { stood := { row := fnExactTileOfUptoRow, standIns := [], harness := (true, "0d967ccce2067ffedb78321910dd62310d10a7b2f4ef92084bbf76c8b4f81a89"), looks := true }, kinds := [], alts := [], laidByText := true, laidKinds := [.sentinel, .sentinel, .sentinel, .sentinel], laidTests := true, laidLooks := .later }
def FnExactTileOfUptoCardSaid : Prop := Claim7.holds Tryd.pinned (.plain (OpenSpec.upto fnExactTileOfSpec)) fnExactTileOfUptoCard

/-- THE SECOND FORM's CARD OF 'laws.FnExactLightAt'. -/
def fnExactLightAtUptoCard : Claim7 := { stood := { row := fnExactLightAtUptoRow, standIns := [], harness := (true, "0d967ccce2067ffedb78321910dd62310d10a7b2f4ef92084bbf76c8b4f81a89"), looks := true }, kinds := [], alts := [], laidByText := true, laidKinds := [.sentinel, .sentinel, .sentinel, .sentinel], laidTests := true, laidLooks := .later }
def FnExactLightAtUptoCardSaid : Prop := Claim7.holds Tryd.pinned (.plain (OpenSpec.upto fnExactLightAtSpec)) fnExactLightAtUptoCard

/-- THE SECOND FORM's CARD OF 'laws.FnExactLightMap'. -/
def fnExactLightMapUptoCard : Claim7 := { stood := { row := fnExactLightMapUptoRow, standIns := [], harness := (true, "0d967ccce2067ffedb78321910dd62310d10a7b2f4ef92084bbf76c8b4f81a89"), looks := true }, kinds := [], alts := [], laidByText := true, laidKinds := [.sentinel, .sentinel, .sentinel, .sentinel], laidTests := true, laidLooks := .later }
def FnExactLightMapUptoCardSaid : Prop := Claim7.holds Tryd.pinned (.plain (OpenSpec.upto fnExactLightMapSpec)) fnExactLightMapUptoCard

/-- THE SECOND FORM's CARD OF 'laws.FnExactMeanLight'. -/
def fnExactMeanLightUptoCard : Claim7 := { stood := { row := fnExactMeanLightUptoRow, standIns := [], harness := (true, "0d967ccce2067ffedb78321910dd62310d10a7b2f4ef92084bbf76c8b4f81a89"), looks := true }, kinds := [], alts := [], laidByText := true, laidKinds := [.sentinel, .sentinel, .sentinel, .sentinel], laidTests := true, laidLooks := .later }
def FnExactMeanLightUptoCardSaid : Prop := Claim7.holds Tryd.pinned (.plain (OpenSpec.upto fnExactMeanLightSpec)) fnExactMeanLightUptoCard

/-- THE SECOND FORM's CARD OF 'laws.FnExactBrightest'. -/
def fnExactBrightestUptoCard : Claim7 := { stood := { row := fnExactBrightestUptoRow, standIns := [], harness := (true, "0d967ccce2067ffedb78321910dd62310d10a7b2f4ef92084bbf76c8b4f81a89"), looks := true }, kinds := [], alts := [], laidByText := true, laidKinds := [.sentinel, .sentinel, .sentinel, .sentinel], laidTests := true, laidLooks := .later }
def FnExactBrightestUptoCardSaid : Prop := Claim7.holds Tryd.pinned (.plain (OpenSpec.upto fnExactBrightestSpec)) fnExactBrightestUptoCard

/-- THE SECOND FORM's CARD OF 'laws.FnExactLitTiles'. -/
def fnExactLitTilesUptoCard : Claim7 := { stood := { row := fnExactLitTilesUptoRow, standIns := [], harness := (true, "0d967ccce2067ffedb78321910dd62310d10a7b2f4ef92084bbf76c8b4f81a89"), looks := true }, kinds := [], alts := [], laidByText := true, laidKinds := [.sentinel, .sentinel, .sentinel, .sentinel], laidTests := true, laidLooks := .later }
def FnExactLitTilesUptoCardSaid : Prop := Claim7.holds Tryd.pinned (.plain (OpenSpec.upto fnExactLitTilesSpec)) fnExactLitTilesUptoCard

/-- THE SECOND FORM's CARD OF 'laws.FnExactGlareAt'. -/
def fnExactGlareAtUptoCard : Claim7 := { stood := { row := fnExactGlareAtUptoRow, standIns := [], harness := (true, "0d967ccce2067ffedb78321910dd62310d10a7b2f4ef92084bbf76c8b4f81a89"), looks := true }, kinds := [], alts := [], laidByText := true, laidKinds := [.sentinel, .sentinel, .sentinel, .sentinel], laidTests := true, laidLooks := .later }
def FnExactGlareAtUptoCardSaid : Prop := Claim7.holds Tryd.pinned (.plain (OpenSpec.upto fnExactGlareAtSpec)) fnExactGlareAtUptoCard

/-- THE SECOND FORM's CARD OF 'laws.FnExactLeastGlare'. -/
def fnExactLeastGlareUptoCard : Claim7 := { stood := { row := fnExactLeastGlareUptoRow, standIns := [], harness := (true, "0d967ccce2067ffedb78321910dd62310d10a7b2f4ef92084bbf76c8b4f81a89"), looks := true }, kinds := [], alts := [], laidByText := true, laidKinds := [.sentinel, .sentinel, .sentinel, .sentinel], laidTests := true, laidLooks := .later }
def FnExactLeastGlareUptoCardSaid : Prop := Claim7.holds Tryd.pinned (.plain (OpenSpec.upto fnExactLeastGlareSpec)) fnExactLeastGlareUptoCard

/-- THE SECOND FORM's CARD OF 'laws.FnExactGlareBits'. -/
def fnExactGlareBitsUptoCard : Claim7 := { stood := { row := fnExactGlareBitsUptoRow, standIns := [], harness := (true, "0d967ccce2067ffedb78321910dd62310d10a7b2f4ef92084bbf76c8b4f81a89"), looks := true }, kinds := [], alts := [], laidByText := true, laidKinds := [.sentinel, .sentinel, .sentinel, .sentinel], laidTests := true, laidLooks := .later }
def FnExactGlareBitsUptoCardSaid : Prop := Claim7.holds Tryd.pinned (.plain (OpenSpec.upto fnExactGlareBitsSpec)) fnExactGlareBitsUptoCard
end Rows
end Go.Proofs.YtkmjapdikhckeaaDoor
