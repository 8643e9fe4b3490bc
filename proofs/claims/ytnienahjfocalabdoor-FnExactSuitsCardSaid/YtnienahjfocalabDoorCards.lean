/-
  DERIVED. GIVEN WITH THE SEED: THE CARDS: each row of YtnienahjfocalabDoorRows.lean that lists a variable, with what it lists TIED to the program's text (the seventh form; the later family's looks); each row that meets fmt, with fmt's text TOLD by the authors' own Lean function (tested against real Go, not proved from fmt's source: count such statements apart). THE CARD IS WHAT COUNTS. Prove the row's statement (the work); the ties are given (YtnienahjfocalabDoorTie.lean); close each card by the builder's one call (the guide's Derived/Test/ToyasCard.lean, 'card_holds'). Laid BY PROGRAM, IN A SANDBOX (cutbox-door.mjs). By AI agents, Wed Nov 11 2026. No macro, syntax, notation, axiom, sorry.
-/
import Derived.Test.YtnienahjfocalabDoorRows
import GoSem.ClaimSeven
namespace Go.Proofs.YtnienahjfocalabDoor
namespace Rows

/-- THE TIED CARD OF 'laws.FnExactNumberText'. -/
def fnExactNumberTextCard : Claim7 := { stood := { row := fnExactNumberTextRow, standIns := [], harness := (true, "1a2ea45972b58446c9984269093107876dc05d4d4bd1c43bf7f997b0d5672b47"), looks := true }, kinds := [], alts := [], laidByText := true, laidKinds := [.data, .data, .data], laidTests := true, laidLooks := .later }
def FnExactNumberTextCardSaid : Prop := Claim7.holds Tryd.pinned (.plain (OpenSpec.ofChange fnExactNumberTextSpec)) fnExactNumberTextCard

/-- THE TIED CARD OF 'laws.FnExactAwningText'. -/
def fnExactAwningTextCard : Claim7 := { stood := { row := fnExactAwningTextRow, standIns := [], harness := (true, "1a2ea45972b58446c9984269093107876dc05d4d4bd1c43bf7f997b0d5672b47"), looks := true }, kinds := [], alts := [], laidByText := true, laidKinds := [.data, .data, .data], laidTests := true, laidLooks := .later }
def FnExactAwningTextCardSaid : Prop := Claim7.holds Tryd.pinned (.plain (OpenSpec.ofChange fnExactAwningTextSpec)) fnExactAwningTextCard

/-- THE TIED CARD OF 'laws.FnExactSunText'. -/
def fnExactSunTextCard : Claim7 := { stood := { row := fnExactSunTextRow, standIns := [], harness := (true, "1a2ea45972b58446c9984269093107876dc05d4d4bd1c43bf7f997b0d5672b47"), looks := true }, kinds := [], alts := [], laidByText := true, laidKinds := [.data, .data, .data], laidTests := true, laidLooks := .later }
def FnExactSunTextCardSaid : Prop := Claim7.holds Tryd.pinned (.plain (OpenSpec.ofChange fnExactSunTextSpec)) fnExactSunTextCard

/-- THE TIED CARD OF 'laws.FnExactMeanLight'. -/
def fnExactMeanLightCard : Claim7 := { stood := { row := fnExactMeanLightRow, standIns := [], harness := (true, "1a2ea45972b58446c9984269093107876dc05d4d4bd1c43bf7f997b0d5672b47"), looks := true }, kinds := [], alts := [], laidByText := true, laidKinds := [.sentinel, .sentinel, .sentinel, .sentinel], laidTests := true, laidLooks := .later }
def FnExactMeanLightCardSaid : Prop := Claim7.holds Tryd.pinned (.plain (OpenSpec.ofChange fnExactMeanLightSpec)) fnExactMeanLightCard

/-- THE TIED CARD OF 'laws.FnExactLightMap'. -/
def fnExactLightMapCard : Claim7 := { stood := { row := fnExactLightMapRow, standIns := [], harness := (true, "1a2ea45972b58446c9984269093107876dc05d4d4bd1c43bf7f997b0d5672b47"), looks := true }, kinds := [], alts := [], laidByText := true, laidKinds := [.sentinel, .sentinel, .sentinel, .sentinel], laidTests := true, laidLooks := .later }
def FnExactLightMapCardSaid : Prop := Claim7.holds Tryd.pinned (.plain (OpenSpec.ofChange fnExactLightMapSpec)) fnExactLightMapCard

/-- THE TIED CARD OF 'laws.FnExactSuits'. -/
def fnExactSuitsCard : Claim7 := { stood := { row := fnExactSuitsRow, standIns := [], harness := (true, "1a2ea45972b58446c9984269093107876dc05d4d4bd1c43bf7f997b0d5672b47"), looks := true }, kinds := [], alts := [], laidByText := true, laidKinds := [.sentinel, .sentinel, .sentinel, .sentinel], laidTests := true, laidLooks := .later }
def FnExactSuitsCardSaid : Prop := Claim7.holds Tryd.pinned (.plain (OpenSpec.ofChange fnExactSuitsSpec)) fnExactSuitsCard

/-- THE SECOND FORM's CARD OF 'laws.FnExactNumberText'. -/
def fnExactNumberTextUptoCard : Claim7 := { stood := { row := fnExactNumberTextUptoRow, standIns := [], harness := (true, "1a2ea45972b58446c9984269093107876dc05d4d4bd1c43bf7f997b0d5672b47"), looks := true }, kinds := [], alts := [], laidByText := true, laidKinds := [.data, .data, .data], laidTests := true, laidLooks := .later }
def FnExactNumberTextUptoCardSaid : Prop := Claim7.holds Tryd.pinned (.plain (OpenSpec.upto fnExactNumberTextSpec)) fnExactNumberTextUptoCard

/-- THE SECOND FORM's CARD OF 'laws.FnExactAwningText'. -/
def fnExactAwningTextUptoCard : Claim7 := { stood := { row := fnExactAwningTextUptoRow, standIns := [], harness := (true, "1a2ea45972b58446c9984269093107876dc05d4d4bd1c43bf7f997b0d5672b47"), looks := true }, kinds := [], alts := [], laidByText := true, laidKinds := [.data, .data, .data], laidTests := true, laidLooks := .later }
def FnExactAwningTextUptoCardSaid : Prop := Claim7.holds Tryd.pinned (.plain (OpenSpec.upto fnExactAwningTextSpec)) fnExactAwningTextUptoCard

/-- THE SECOND FORM's CARD OF 'laws.FnExactSunText'. -/
def fnExactSunTextUptoCard : Claim7 := { stood := { row := fnExactSunTextUptoRow, standIns := [], harness := (true, "1a2ea45972b58446c9984269093107876dc05d4d4bd1c43bf7f997b0d5672b47"), looks := true }, kinds := [], alts := [], laidByText := true, laidKinds := [.data, .data, .data], laidTests := true, laidLooks := .later }
def FnExactSunTextUptoCardSaid : Prop := Claim7.holds Tryd.pinned (.plain (OpenSpec.upto fnExactSunTextSpec)) fnExactSunTextUptoCard

/-- THE SECOND FORM's CARD OF 'laws.FnExactMeanLight'. -/
def fnExactMeanLightUptoCard : Claim7 := { stood := { row := fnExactMeanLightUptoRow, standIns := [], harness := (true, "1a2ea45972b58446c9984269093107876dc05d4d4bd1c43bf7f997b0d5672b47"), looks := true }, kinds := [], alts := [], laidByText := true, laidKinds := [.sentinel, .sentinel, .sentinel, .sentinel], laidTests := true, laidLooks := .later }
def FnExactMeanLightUptoCardSaid : Prop := Claim7.holds Tryd.pinned (.plain (OpenSpec.upto fnExactMeanLightSpec)) fnExactMeanLightUptoCard

/-- THE SECOND FORM's CARD OF 'laws.FnExactLightMap'. -/
def fnExactLightMapUptoCard : Claim7 := { stood := { row := fnExactLightMapUptoRow, standIns := [], harness := (true, "1a2ea45972b58446c9984269093107876dc05d4d4bd1c43bf7f997b0d5672b47"), looks := true }, kinds := [], alts := [], laidByText := true, laidKinds := [.sentinel, .sentinel, .sentinel, .sentinel], laidTests := true, laidLooks := .later }
def FnExactLightMapUptoCardSaid : Prop := Claim7.holds Tryd.pinned (.plain (OpenSpec.upto fnExactLightMapSpec)) fnExactLightMapUptoCard

/-- THE SECOND FORM's CARD OF 'laws.FnExactSuits'. -/
def fnExactSuitsUptoCard : Claim7 := { stood := { row := fnExactSuitsUptoRow, standIns := [], harness := (true, "1a2ea45972b58446c9984269093107876dc05d4d4bd1c43bf7f997b0d5672b47"), looks := true }, kinds := [], alts := [], laidByText := true, laidKinds := [.sentinel, .sentinel, .sentinel, .sentinel], laidTests := true, laidLooks := .later }
def FnExactSuitsUptoCardSaid : Prop := Claim7.holds Tryd.pinned (.plain (OpenSpec.upto fnExactSuitsSpec)) fnExactSuitsUptoCard
end Rows
end Go.Proofs.YtnienahjfocalabDoor
