/-
  DERIVED. GIVEN WITH THE SEED: THE CARDS: each row of YtmniodfdoidffaaDoorRows.lean that lists a variable, with what it lists TIED to the program's text (the seventh form; the later family's looks); each row that meets fmt, with fmt's text TOLD by the authors' own Lean function (tested against real Go, not proved from fmt's source: count such statements apart). THE CARD IS WHAT COUNTS. Prove the row's statement (the work); the ties are given (YtmniodfdoidffaaDoorTie.lean); close each card by the builder's one call (the guide's Derived/Test/ToyasCard.lean, 'card_holds'). Laid BY PROGRAM, IN A SANDBOX (cutbox-door.mjs). By AI agents, Wed Nov 11 2026. No macro, syntax, notation, axiom, sorry.
-/
import Derived.Test.YtmniodfdoidffaaDoorRows
import GoSem.ClaimSeven
namespace Go.Proofs.YtmniodfdoidffaaDoor
namespace Rows

/-- THE TIED CARD OF 'laws.FnSines'. -/
def fnSinesCard : Claim7 := { stood := { row := fnSinesRow, standIns := [], harness := (true, "9f5af739ce5bb32055ef79de17f8673586b7790a249168360724797e3569b40e"), looks := true }, kinds := [], alts := [], laidByText := true, laidKinds := [.data, .data, .data, .sentinel, .sentinel], laidTests := true, laidLooks := .later }
def FnSinesCardSaid : Prop := Claim7.holds Tryd.pinned (.plain (OpenSpec.ofChange fnSinesSpec)) fnSinesCard

/-- THE TIED CARD OF 'laws.FnExactLightMap'. -/
def fnExactLightMapCard : Claim7 := { stood := { row := fnExactLightMapRow, standIns := [], harness := (true, "9f5af739ce5bb32055ef79de17f8673586b7790a249168360724797e3569b40e"), looks := true }, kinds := [], alts := [], laidByText := true, laidKinds := [.sentinel, .sentinel, .sentinel, .sentinel], laidTests := true, laidLooks := .later }
def FnExactLightMapCardSaid : Prop := Claim7.holds Tryd.pinned (.plain (OpenSpec.ofChange fnExactLightMapSpec)) fnExactLightMapCard

/-- THE TIED CARD OF 'laws.FnExactMeanLight'. -/
def fnExactMeanLightCard : Claim7 := { stood := { row := fnExactMeanLightRow, standIns := [], harness := (true, "9f5af739ce5bb32055ef79de17f8673586b7790a249168360724797e3569b40e"), looks := true }, kinds := [], alts := [], laidByText := true, laidKinds := [.sentinel, .sentinel, .sentinel, .sentinel], laidTests := true, laidLooks := .later }
def FnExactMeanLightCardSaid : Prop := Claim7.holds Tryd.pinned (.plain (OpenSpec.ofChange fnExactMeanLightSpec)) fnExactMeanLightCard

/-- THE TIED CARD OF 'laws.FnExactBrokenFrom'. -/
def fnExactBrokenFromCard : Claim7 := { stood := { row := fnExactBrokenFromRow, standIns := [], harness := (true, "9f5af739ce5bb32055ef79de17f8673586b7790a249168360724797e3569b40e"), looks := true }, kinds := [], alts := [], laidByText := true, laidKinds := [.handle], laidTests := true, laidLooks := .later }
def FnExactBrokenFromCardSaid : Prop := Claim7.holds Tryd.pinned (.plain (OpenSpec.ofChange fnExactBrokenFromSpec)) fnExactBrokenFromCard

/-- THE TIED CARD OF 'laws.FnExactYearLight'. -/
def fnExactYearLightCard : Claim7 := { stood := { row := fnExactYearLightRow, standIns := [], harness := (true, "9f5af739ce5bb32055ef79de17f8673586b7790a249168360724797e3569b40e"), looks := true }, kinds := [], alts := [], laidByText := true, laidKinds := [.handle], laidTests := true, laidLooks := .later }
def FnExactYearLightCardSaid : Prop := Claim7.holds Tryd.pinned (.plain (OpenSpec.ofChange fnExactYearLightSpec)) fnExactYearLightCard

/-- THE TIED CARD OF 'laws.FnExactBestMonth'. -/
def fnExactBestMonthCard : Claim7 := { stood := { row := fnExactBestMonthRow, standIns := [], harness := (true, "9f5af739ce5bb32055ef79de17f8673586b7790a249168360724797e3569b40e"), looks := true }, kinds := [], alts := [], laidByText := true, laidKinds := [.handle], laidTests := true, laidLooks := .later }
def FnExactBestMonthCardSaid : Prop := Claim7.holds Tryd.pinned (.plain (OpenSpec.ofChange fnExactBestMonthSpec)) fnExactBestMonthCard

/-- THE TIED CARD OF 'laws.FnExactYearFacing'. -/
def fnExactYearFacingCard : Claim7 := { stood := { row := fnExactYearFacingRow, standIns := [], harness := (true, "9f5af739ce5bb32055ef79de17f8673586b7790a249168360724797e3569b40e"), looks := true }, kinds := [], alts := [], laidByText := true, laidKinds := [.handle], laidTests := true, laidLooks := .later }
def FnExactYearFacingCardSaid : Prop := Claim7.holds Tryd.pinned (.plain (OpenSpec.ofChange fnExactYearFacingSpec)) fnExactYearFacingCard

/-- THE SECOND FORM's CARD OF 'laws.FnSines'. -/
def fnSinesUptoCard : Claim7 := { stood := { row := fnSinesUptoRow, standIns := [], harness := (true, "9f5af739ce5bb32055ef79de17f8673586b7790a249168360724797e3569b40e"), looks := true }, kinds := [], alts := [], laidByText := true, laidKinds := [.data, .data, .data, .sentinel, .sentinel], laidTests := true, laidLooks := .later }
def FnSinesUptoCardSaid : Prop := Claim7.holds Tryd.pinned (.plain (OpenSpec.upto fnSinesSpec)) fnSinesUptoCard

/-- THE SECOND FORM's CARD OF 'laws.FnExactLightMap'. -/
def fnExactLightMapUptoCard : Claim7 := { stood := { row := fnExactLightMapUptoRow, standIns := [], harness := (true, "9f5af739ce5bb32055ef79de17f8673586b7790a249168360724797e3569b40e"), looks := true }, kinds := [], alts := [], laidByText := true, laidKinds := [.sentinel, .sentinel, .sentinel, .sentinel], laidTests := true, laidLooks := .later }
def FnExactLightMapUptoCardSaid : Prop := Claim7.holds Tryd.pinned (.plain (OpenSpec.upto fnExactLightMapSpec)) fnExactLightMapUptoCard

/-- THE SECOND FORM's CARD OF 'laws.FnExactMeanLight'. -/
def fnExactMeanLightUptoCard : Claim7 := { stood := { row := fnExactMeanLightUptoRow, standIns := [], harness := (true, "9f5af739ce5bb32055ef79de17f8673586b7790a249168360724797e3569b40e"), looks := true }, kinds := [], alts := [], laidByText := true, laidKinds := [.sentinel, .sentinel, .sentinel, .sentinel], laidTests := true, laidLooks := .later }
def FnExactMeanLightUptoCardSaid : Prop := Claim7.holds Tryd.pinned (.plain (OpenSpec.upto fnExactMeanLightSpec)) fnExactMeanLightUptoCard

/-- THE SECOND FORM's CARD OF 'laws.FnExactBrokenFrom'. -/
def fnExactBrokenFromUptoCard : Claim7 := { stood := { row := fnExactBrokenFromUptoRow, standIns := [], harness := (true, "9f5af739ce5bb32055ef79de17f8673586b7790a249168360724797e3569b40e"), looks := true }, kinds := [], alts := [], laidByText := true, laidKinds := [.handle], laidTests := true, laidLooks := .later }
def FnExactBrokenFromUptoCardSaid : Prop := Claim7.holds Tryd.pinned (.plain (OpenSpec.upto fnExactBrokenFromSpec)) fnExactBrokenFromUptoCard

/-- THE SECOND FORM's CARD OF 'laws.FnExactYearLight'. -/
def fnExactYearLightUptoCard : Claim7 := { stood := { row := fnExactYearLightUptoRow, standIns := [], harness := (true, "9f5af739ce5bb32055ef79de17f8673586b7790a249168360724797e3569b40e"), looks := true }, kinds := [], alts := [], laidByText := true, laidKinds := [.handle], laidTests := true, laidLooks := .later }
def FnExactYearLightUptoCardSaid : Prop := Claim7.holds Tryd.pinned (.plain (OpenSpec.upto fnExactYearLightSpec)) fnExactYearLightUptoCard

/-- THE SECOND FORM's CARD OF 'laws.FnExactBestMonth'. -/
def fnExactBestMonthUptoCard : Claim7 := { stood := { row := fnExactBestMonthUptoRow, standIns := [], harness := (true, "9f5af739ce5bb32055ef79de17f8673586b7790a249168360724797e3569b40e"), looks := true }, kinds := [], alts := [], laidByText := true, laidKinds := [.handle], laidTests := true, laidLooks := .later }
def FnExactBestMonthUptoCardSaid : Prop := Claim7.holds Tryd.pinned (.plain (OpenSpec.upto fnExactBestMonthSpec)) fnExactBestMonthUptoCard

/-- THE SECOND FORM's CARD OF 'laws.FnExactYearFacing'. -/
def fnExactYearFacingUptoCard : Claim7 := { stood := { row := fnExactYearFacingUptoRow, standIns := [], harness := (true, "9f5af739ce5bb32055ef79de17f8673586b7790a249168360724797e3569b40e"), looks := true }, kinds := [], alts := [], laidByText := true, laidKinds := [.handle], laidTests := true, laidLooks := .later }
def FnExactYearFacingUptoCardSaid : Prop := Claim7.holds Tryd.pinned (.plain (OpenSpec.upto fnExactYearFacingSpec)) fnExactYearFacingUptoCard
end Rows
end Go.Proofs.YtmniodfdoidffaaDoor
