/-
  DERIVED. GIVEN WITH THE SEED: THE CARDS: each row of YtdccmdcgbembpaaDoorRows.lean that lists a variable, with what it lists TIED to the program's text (the seventh form; the later family's looks); each row that meets fmt, with fmt's text TOLD by the authors' own Lean function (tested against real Go, not proved from fmt's source: count such statements apart). THE CARD IS WHAT COUNTS. Prove the row's statement (the work); the ties are given (YtdccmdcgbembpaaDoorTie.lean); close each card by the builder's one call (the guide's Derived/Test/ToyasCard.lean, 'card_holds'). Laid BY PROGRAM, IN A SANDBOX (cutbox-door.mjs). By AI agents, Wed Nov 11 2026. No macro, syntax, notation, axiom, sorry.
-/
import Derived.Test.YtdccmdcgbembpaaDoorRows
import GoSem.ClaimSeven
namespace Go.Proofs.YtdccmdcgbembpaaDoor
namespace Rows

/-- THE TIED CARD OF 'laws.FnExactBrightest'. -/
def fnExactBrightestCard : Claim7 := { stood := { row := fnExactBrightestRow, standIns := [], harness := (true, "11d4f74a4d09ce537620b04926b6699da06200dbc976f27c5ed14fb1deea5bca"), looks := true }, kinds := [], alts := [], laidByText := true, laidKinds := [.sentinel, .sentinel, .sentinel, .sentinel], laidTests := true, laidLooks := .later }
def FnExactBrightestCardSaid : Prop := Claim7.holds Tryd.pinned (.plain (OpenSpec.ofChange fnExactBrightestSpec)) fnExactBrightestCard

/-- THE TIED CARD OF 'laws.FnExactLitTiles'. -/
def fnExactLitTilesCard : Claim7 := { stood := { row := fnExactLitTilesRow, standIns := [], harness := (true, "11d4f74a4d09ce537620b04926b6699da06200dbc976f27c5ed14fb1deea5bca"), looks := true }, kinds := [], alts := [], laidByText := true, laidKinds := [.sentinel, .sentinel, .sentinel, .sentinel], laidTests := true, laidLooks := .later }
def FnExactLitTilesCardSaid : Prop := Claim7.holds Tryd.pinned (.plain (OpenSpec.ofChange fnExactLitTilesSpec)) fnExactLitTilesCard

/-- THE TIED CARD OF 'laws.FnExactLeastGlare'. -/
def fnExactLeastGlareCard : Claim7 := { stood := { row := fnExactLeastGlareRow, standIns := [], harness := (true, "11d4f74a4d09ce537620b04926b6699da06200dbc976f27c5ed14fb1deea5bca"), looks := true }, kinds := [], alts := [], laidByText := true, laidKinds := [.sentinel, .sentinel, .sentinel, .sentinel], laidTests := true, laidLooks := .later }
def FnExactLeastGlareCardSaid : Prop := Claim7.holds Tryd.pinned (.plain (OpenSpec.ofChange fnExactLeastGlareSpec)) fnExactLeastGlareCard

/-- THE TIED CARD OF 'laws.FnExactGlareBits'. -/
def fnExactGlareBitsCard : Claim7 := { stood := { row := fnExactGlareBitsRow, standIns := [], harness := (true, "11d4f74a4d09ce537620b04926b6699da06200dbc976f27c5ed14fb1deea5bca"), looks := true }, kinds := [], alts := [], laidByText := true, laidKinds := [.sentinel, .sentinel, .sentinel, .sentinel], laidTests := true, laidLooks := .later }
def FnExactGlareBitsCardSaid : Prop := Claim7.holds Tryd.pinned (.plain (OpenSpec.ofChange fnExactGlareBitsSpec)) fnExactGlareBitsCard

/-- THE TIED CARD OF 'laws.FnExactDimWindow'. -/
def fnExactDimWindowCard : Claim7 := { stood := { row := fnExactDimWindowRow, standIns := [], harness := (true, "11d4f74a4d09ce537620b04926b6699da06200dbc976f27c5ed14fb1deea5bca"), looks := true }, kinds := [], alts := [], laidByText := true, laidKinds := [.sentinel, .sentinel, .sentinel, .sentinel], laidTests := true, laidLooks := .later }
def FnExactDimWindowCardSaid : Prop := Claim7.holds Tryd.pinned (.plain (OpenSpec.ofChange fnExactDimWindowSpec)) fnExactDimWindowCard

/-- THE TIED CARD OF 'laws.FnExactLitBy'. -/
def fnExactLitByCard : Claim7 := { stood := { row := fnExactLitByRow, standIns := [], harness := (true, "11d4f74a4d09ce537620b04926b6699da06200dbc976f27c5ed14fb1deea5bca"), looks := true }, kinds := [], alts := [], laidByText := true, laidKinds := [.sentinel, .sentinel, .sentinel, .sentinel], laidTests := true, laidLooks := .later }
def FnExactLitByCardSaid : Prop := Claim7.holds Tryd.pinned (.plain (OpenSpec.ofChange fnExactLitBySpec)) fnExactLitByCard

/-- THE TIED CARD OF 'laws.FnExactMirrorRoom'. -/
def fnExactMirrorRoomCard : Claim7 := { stood := { row := fnExactMirrorRoomRow, standIns := [], harness := (true, "11d4f74a4d09ce537620b04926b6699da06200dbc976f27c5ed14fb1deea5bca"), looks := true }, kinds := [], alts := [], laidByText := true, laidKinds := [.sentinel, .sentinel, .sentinel, .sentinel], laidTests := true, laidLooks := .later }
def FnExactMirrorRoomCardSaid : Prop := Claim7.holds Tryd.pinned (.plain (OpenSpec.ofChange fnExactMirrorRoomSpec)) fnExactMirrorRoomCard

/-- THE TIED CARD OF 'laws.FnExactBestAwning'. -/
def fnExactBestAwningCard : Claim7 := { stood := { row := fnExactBestAwningRow, standIns := [], harness := (true, "11d4f74a4d09ce537620b04926b6699da06200dbc976f27c5ed14fb1deea5bca"), looks := true }, kinds := [], alts := [], laidByText := true, laidKinds := [.sentinel, .sentinel, .sentinel, .sentinel], laidTests := true, laidLooks := .later }
def FnExactBestAwningCardSaid : Prop := Claim7.holds Tryd.pinned (.plain (OpenSpec.ofChange fnExactBestAwningSpec)) fnExactBestAwningCard

/-- THE SECOND FORM's CARD OF 'laws.FnExactBrightest'. -/
def fnExactBrightestUptoCard : Claim7 := { stood := { row := fnExactBrightestUptoRow, standIns := [], harness := (true, "11d4f74a4d09ce537620b04926b6699da06200dbc976f27c5ed14fb1deea5bca"), looks := true }, kinds := [], alts := [], laidByText := true, laidKinds := [.sentinel, .sentinel, .sentinel, .sentinel], laidTests := true, laidLooks := .later }
def FnExactBrightestUptoCardSaid : Prop := Claim7.holds Tryd.pinned (.plain (OpenSpec.upto fnExactBrightestSpec)) fnExactBrightestUptoCard

/-- THE SECOND FORM's CARD OF 'laws.FnExactLitTiles'. -/
def fnExactLitTilesUptoCard : Claim7 := { stood := { row := fnExactLitTilesUptoRow, standIns := [], harness := (true, "11d4f74a4d09ce537620b04926b6699da06200dbc976f27c5ed14fb1deea5bca"), looks := true }, kinds := [], alts := [], laidByText := true, laidKinds := [.sentinel, .sentinel, .sentinel, .sentinel], laidTests := true, laidLooks := .later }
def FnExactLitTilesUptoCardSaid : Prop := Claim7.holds Tryd.pinned (.plain (OpenSpec.upto fnExactLitTilesSpec)) fnExactLitTilesUptoCard

/-- THE SECOND FORM's CARD OF 'laws.FnExactLeastGlare'. -/
def fnExactLeastGlareUptoCard : Claim7 := { stood := { row := fnExactLeastGlareUptoRow, standIns := [], harness := (true, "11d4f74a4d09ce537620b04926b6699da06200dbc976f27c5ed14fb1deea5bca"), looks := true }, kinds := [], alts := [], laidByText := true, laidKinds := [.sentinel, .sentinel, .sentinel, .sentinel], laidTests := true, laidLooks := .later }
def FnExactLeastGlareUptoCardSaid : Prop := Claim7.holds Tryd.pinned (.plain (OpenSpec.upto fnExactLeastGlareSpec)) fnExactLeastGlareUptoCard

/-- THE SECOND FORM's CARD OF 'laws.FnExactGlareBits'. -/
def fnExactGlareBitsUptoCard : Claim7 := { stood := { row := fnExactGlareBitsUptoRow, standIns := [], harness := (true, "11d4f74a4d09ce537620b04926b6699da06200dbc976f27c5ed14fb1deea5bca"), looks := true }, kinds := [], alts := [], laidByText := true, laidKinds := [.sentinel, .sentinel, .sentinel, .sentinel], laidTests := true, laidLooks := .later }
def FnExactGlareBitsUptoCardSaid : Prop := Claim7.holds Tryd.pinned (.plain (OpenSpec.upto fnExactGlareBitsSpec)) fnExactGlareBitsUptoCard

/-- THE SECOND FORM's CARD OF 'laws.FnExactDimWindow'. -/
def fnExactDimWindowUptoCard : Claim7 := { stood := { row := fnExactDimWindowUptoRow, standIns := [], harness := (true, "11d4f74a4d09ce537620b04926b6699da06200dbc976f27c5ed14fb1deea5bca"), looks := true }, kinds := [], alts := [], laidByText := true, laidKinds := [.sentinel, .sentinel, .sentinel, .sentinel], laidTests := true, laidLooks := .later }
def FnExactDimWindowUptoCardSaid : Prop := Claim7.holds Tryd.pinned (.plain (OpenSpec.upto fnExactDimWindowSpec)) fnExactDimWindowUptoCard

/-- THE SECOND FORM's CARD OF 'laws.FnExactLitBy'. -/
def fnExactLitByUptoCard : Claim7 := { stood := { row := fnExactLitByUptoRow, standIns := [], harness := (true, "11d4f74a4d09ce537620b04926b6699da06200dbc976f27c5ed14fb1deea5bca"), looks := true }, kinds := [], alts := [], laidByText := true, laidKinds := [.sentinel, .sentinel, .sentinel, .sentinel], laidTests := true, laidLooks := .later }
def FnExactLitByUptoCardSaid : Prop := Claim7.holds Tryd.pinned (.plain (OpenSpec.upto fnExactLitBySpec)) fnExactLitByUptoCard

/-- THE SECOND FORM's CARD OF 'laws.FnExactMirrorRoom'. -/
def fnExactMirrorRoomUptoCard : Claim7 := { stood := { row := fnExactMirrorRoomUptoRow, standIns := [], harness := (true, "11d4f74a4d09ce537620b04926b6699da06200dbc976f27c5ed14fb1deea5bca"), looks := true }, kinds := [], alts := [], laidByText := true, laidKinds := [.sentinel, .sentinel, .sentinel, .sentinel], laidTests := true, laidLooks := .later }
def FnExactMirrorRoomUptoCardSaid : Prop := Claim7.holds Tryd.pinned (.plain (OpenSpec.upto fnExactMirrorRoomSpec)) fnExactMirrorRoomUptoCard

/-- THE SECOND FORM's CARD OF 'laws.FnExactBestAwning'. -/
def fnExactBestAwningUptoCard : Claim7 := { stood := { row := fnExactBestAwningUptoRow, standIns := [], harness := (true, "11d4f74a4d09ce537620b04926b6699da06200dbc976f27c5ed14fb1deea5bca"), looks := true }, kinds := [], alts := [], laidByText := true, laidKinds := [.sentinel, .sentinel, .sentinel, .sentinel], laidTests := true, laidLooks := .later }
def FnExactBestAwningUptoCardSaid : Prop := Claim7.holds Tryd.pinned (.plain (OpenSpec.upto fnExactBestAwningSpec)) fnExactBestAwningUptoCard
end Rows
end Go.Proofs.YtdccmdcgbembpaaDoor
