/-
  DERIVED. GIVEN WITH THE SEED: THE CARDS: each row of YtnienahjfocalaaDoorRows.lean that lists a variable, with what it lists TIED to the program's text (the seventh form; the later family's looks); each row that meets fmt, with fmt's text TOLD by the authors' own Lean function (tested against real Go, not proved from fmt's source: count such statements apart). THE CARD IS WHAT COUNTS. Prove the row's statement (the work); the ties are given (YtnienahjfocalaaDoorTie.lean); close each card by the builder's one call (the guide's Derived/Test/ToyasCard.lean, 'card_holds'). Laid BY PROGRAM, IN A SANDBOX (cutbox-door.mjs). By AI agents, Wed Nov 11 2026. No macro, syntax, notation, axiom, sorry.
-/
import Derived.Test.YtnienahjfocalaaDoorRows
import GoSem.ClaimSeven
namespace Go.Proofs.YtnienahjfocalaaDoor
namespace Rows

/-- THE TIED CARD OF 'laws.FnExactStrainOf'. -/
def fnExactStrainOfCard : Claim7 := { stood := { row := fnExactStrainOfRow, standIns := [], harness := (true, "60ba0d8cced9d8be6e2f36af3925fba1d553cbae0c0323ab20e3b312a04044b3"), looks := true }, kinds := [], alts := [], laidByText := true, laidKinds := [.sentinel, .sentinel, .sentinel, .sentinel], laidTests := true, laidLooks := .later }
def FnExactStrainOfCardSaid : Prop := Claim7.holds Tryd.pinned (.plain (OpenSpec.ofChange fnExactStrainOfSpec)) fnExactStrainOfCard

/-- THE TIED CARD OF 'laws.FnExactShadedPart'. -/
def fnExactShadedPartCard : Claim7 := { stood := { row := fnExactShadedPartRow, standIns := [], harness := (true, "60ba0d8cced9d8be6e2f36af3925fba1d553cbae0c0323ab20e3b312a04044b3"), looks := true }, kinds := [], alts := [], laidByText := true, laidKinds := [.sentinel, .sentinel, .sentinel, .sentinel], laidTests := true, laidLooks := .later }
def FnExactShadedPartCardSaid : Prop := Claim7.holds Tryd.pinned (.plain (OpenSpec.ofChange fnExactShadedPartSpec)) fnExactShadedPartCard

/-- THE TIED CARD OF 'laws.FnExactLightBehind'. -/
def fnExactLightBehindCard : Claim7 := { stood := { row := fnExactLightBehindRow, standIns := [], harness := (true, "60ba0d8cced9d8be6e2f36af3925fba1d553cbae0c0323ab20e3b312a04044b3"), looks := true }, kinds := [], alts := [], laidByText := true, laidKinds := [.sentinel, .sentinel, .sentinel, .sentinel], laidTests := true, laidLooks := .later }
def FnExactLightBehindCardSaid : Prop := Claim7.holds Tryd.pinned (.plain (OpenSpec.ofChange fnExactLightBehindSpec)) fnExactLightBehindCard

/-- THE TIED CARD OF 'laws.FnExactDayBehind'. -/
def fnExactDayBehindCard : Claim7 := { stood := { row := fnExactDayBehindRow, standIns := [], harness := (true, "60ba0d8cced9d8be6e2f36af3925fba1d553cbae0c0323ab20e3b312a04044b3"), looks := true }, kinds := [], alts := [], laidByText := true, laidKinds := [.sentinel, .sentinel, .sentinel, .sentinel], laidTests := true, laidLooks := .later }
def FnExactDayBehindCardSaid : Prop := Claim7.holds Tryd.pinned (.plain (OpenSpec.ofChange fnExactDayBehindSpec)) fnExactDayBehindCard

/-- THE TIED CARD OF 'laws.FnExactGustyDay'. -/
def fnExactGustyDayCard : Claim7 := { stood := { row := fnExactGustyDayRow, standIns := [], harness := (true, "60ba0d8cced9d8be6e2f36af3925fba1d553cbae0c0323ab20e3b312a04044b3"), looks := true }, kinds := [], alts := [], laidByText := true, laidKinds := [.sentinel, .sentinel, .sentinel, .sentinel], laidTests := true, laidLooks := .later }
def FnExactGustyDayCardSaid : Prop := Claim7.holds Tryd.pinned (.plain (OpenSpec.ofChange fnExactGustyDaySpec)) fnExactGustyDayCard

/-- THE TIED CARD OF 'laws.FnExactShadedHours'. -/
def fnExactShadedHoursCard : Claim7 := { stood := { row := fnExactShadedHoursRow, standIns := [], harness := (true, "60ba0d8cced9d8be6e2f36af3925fba1d553cbae0c0323ab20e3b312a04044b3"), looks := true }, kinds := [], alts := [], laidByText := true, laidKinds := [.sentinel, .sentinel, .sentinel, .sentinel], laidTests := true, laidLooks := .later }
def FnExactShadedHoursCardSaid : Prop := Claim7.holds Tryd.pinned (.plain (OpenSpec.ofChange fnExactShadedHoursSpec)) fnExactShadedHoursCard

/-- THE TIED CARD OF 'laws.FnExactOutFor'. -/
def fnExactOutForCard : Claim7 := { stood := { row := fnExactOutForRow, standIns := [], harness := (true, "60ba0d8cced9d8be6e2f36af3925fba1d553cbae0c0323ab20e3b312a04044b3"), looks := true }, kinds := [], alts := [], laidByText := true, laidKinds := [.sentinel, .sentinel, .sentinel, .sentinel], laidTests := true, laidLooks := .later }
def FnExactOutForCardSaid : Prop := Claim7.holds Tryd.pinned (.plain (OpenSpec.ofChange fnExactOutForSpec)) fnExactOutForCard

/-- THE TIED CARD OF 'laws.FnExactHiddenAt'. -/
def fnExactHiddenAtCard : Claim7 := { stood := { row := fnExactHiddenAtRow, standIns := [], harness := (true, "60ba0d8cced9d8be6e2f36af3925fba1d553cbae0c0323ab20e3b312a04044b3"), looks := true }, kinds := [], alts := [], laidByText := true, laidKinds := [.sentinel, .sentinel, .sentinel, .sentinel], laidTests := true, laidLooks := .later }
def FnExactHiddenAtCardSaid : Prop := Claim7.holds Tryd.pinned (.plain (OpenSpec.ofChange fnExactHiddenAtSpec)) fnExactHiddenAtCard

/-- THE TIED CARD OF 'laws.FnExactHiddenHours'. -/
def fnExactHiddenHoursCard : Claim7 := { stood := { row := fnExactHiddenHoursRow, standIns := [], harness := (true, "60ba0d8cced9d8be6e2f36af3925fba1d553cbae0c0323ab20e3b312a04044b3"), looks := true }, kinds := [], alts := [], laidByText := true, laidKinds := [.sentinel, .sentinel, .sentinel, .sentinel], laidTests := true, laidLooks := .later }
def FnExactHiddenHoursCardSaid : Prop := Claim7.holds Tryd.pinned (.plain (OpenSpec.ofChange fnExactHiddenHoursSpec)) fnExactHiddenHoursCard

/-- THE TIED CARD OF 'laws.FnExactBareSun'. -/
def fnExactBareSunCard : Claim7 := { stood := { row := fnExactBareSunRow, standIns := [], harness := (true, "60ba0d8cced9d8be6e2f36af3925fba1d553cbae0c0323ab20e3b312a04044b3"), looks := true }, kinds := [], alts := [], laidByText := true, laidKinds := [.sentinel, .sentinel, .sentinel, .sentinel], laidTests := true, laidLooks := .later }
def FnExactBareSunCardSaid : Prop := Claim7.holds Tryd.pinned (.plain (OpenSpec.ofChange fnExactBareSunSpec)) fnExactBareSunCard

/-- THE TIED CARD OF 'laws.FnExactBestAwning'. -/
def fnExactBestAwningCard : Claim7 := { stood := { row := fnExactBestAwningRow, standIns := [], harness := (true, "60ba0d8cced9d8be6e2f36af3925fba1d553cbae0c0323ab20e3b312a04044b3"), looks := true }, kinds := [], alts := [], laidByText := true, laidKinds := [.sentinel, .sentinel, .sentinel, .sentinel], laidTests := true, laidLooks := .later }
def FnExactBestAwningCardSaid : Prop := Claim7.holds Tryd.pinned (.plain (OpenSpec.ofChange fnExactBestAwningSpec)) fnExactBestAwningCard

/-- THE TIED CARD OF 'laws.FnExactGlareAt'. -/
def fnExactGlareAtCard : Claim7 := { stood := { row := fnExactGlareAtRow, standIns := [], harness := (true, "60ba0d8cced9d8be6e2f36af3925fba1d553cbae0c0323ab20e3b312a04044b3"), looks := true }, kinds := [], alts := [], laidByText := true, laidKinds := [.sentinel, .sentinel, .sentinel, .sentinel], laidTests := true, laidLooks := .later }
def FnExactGlareAtCardSaid : Prop := Claim7.holds Tryd.pinned (.plain (OpenSpec.ofChange fnExactGlareAtSpec)) fnExactGlareAtCard

/-- THE SECOND FORM's CARD OF 'laws.FnExactStrainOf'. -/
def fnExactStrainOfUptoCard : Claim7 := { stood := { row := fnExactStrainOfUptoRow, standIns := [], harness := (true, "60ba0d8cced9d8be6e2f36af3925fba1d553cbae0c0323ab20e3b312a04044b3"), looks := true }, kinds := [], alts := [], laidByText := true, laidKinds := [.sentinel, .sentinel, .sentinel, .sentinel], laidTests := true, laidLooks := .later }
def FnExactStrainOfUptoCardSaid : Prop := Claim7.holds Tryd.pinned (.plain (OpenSpec.upto fnExactStrainOfSpec)) fnExactStrainOfUptoCard

/-- THE SECOND FORM's CARD OF 'laws.FnExactShadedPart'. -/
def fnExactShadedPartUptoCard : Claim7 := { stood := { row := fnExactShadedPartUptoRow, standIns := [], harness := (true, "60ba0d8cced9d8be6e2f36af3925fba1d553cbae0c0323ab20e3b312a04044b3"), looks := true }, kinds := [], alts := [], laidByText := true, laidKinds := [.sentinel, .sentinel, .sentinel, .sentinel], laidTests := true, laidLooks := .later }
def FnExactShadedPartUptoCardSaid : Prop := Claim7.holds Tryd.pinned (.plain (OpenSpec.upto fnExactShadedPartSpec)) fnExactShadedPartUptoCard

/-- THE SECOND FORM's CARD OF 'laws.FnExactLightBehind'. -/
def fnExactLightBehindUptoCard : Claim7 := { stood := { row := fnExactLightBehindUptoRow, standIns := [], harness := (true, "60ba0d8cced9d8be6e2f36af3925fba1d553cbae0c0323ab20e3b312a04044b3"), looks := true }, kinds := [], alts := [], laidByText := true, laidKinds := [.sentinel, .sentinel, .sentinel, .sentinel], laidTests := true, laidLooks := .later }
def FnExactLightBehindUptoCardSaid : Prop := Claim7.holds Tryd.pinned (.plain (OpenSpec.upto fnExactLightBehindSpec)) fnExactLightBehindUptoCard

/-- THE SECOND FORM's CARD OF 'laws.FnExactDayBehind'. -/
def fnExactDayBehindUptoCard : Claim7 := { stood := { row := fnExactDayBehindUptoRow, standIns := [], harness := (true, "60ba0d8cced9d8be6e2f36af3925fba1d553cbae0c0323ab20e3b312a04044b3"), looks := true }, kinds := [], alts := [], laidByText := true, laidKinds := [.sentinel, .sentinel, .sentinel, .sentinel], laidTests := true, laidLooks := .later }
def FnExactDayBehindUptoCardSaid : Prop := Claim7.holds Tryd.pinned (.plain (OpenSpec.upto fnExactDayBehindSpec)) fnExactDayBehindUptoCard

/-- THE SECOND FORM's CARD OF 'laws.FnExactGustyDay'. -/
def fnExactGustyDayUptoCard : Claim7 := { stood := { row := fnExactGustyDayUptoRow, standIns := [], harness := (true, "60ba0d8cced9d8be6e2f36af3925fba1d553cbae0c0323ab20e3b312a04044b3"), looks := true }, kinds := [], alts := [], laidByText := true, laidKinds := [.sentinel, .sentinel, .sentinel, .sentinel], laidTests := true, laidLooks := .later }
def FnExactGustyDayUptoCardSaid : Prop := Claim7.holds Tryd.pinned (.plain (OpenSpec.upto fnExactGustyDaySpec)) fnExactGustyDayUptoCard

/-- THE SECOND FORM's CARD OF 'laws.FnExactShadedHours'. -/
def fnExactShadedHoursUptoCard : Claim7 := { stood := { row := fnExactShadedHoursUptoRow, standIns := [], harness := (true, "60ba0d8cced9d8be6e2f36af3925fba1d553cbae0c0323ab20e3b312a04044b3"), looks := true }, kinds := [], alts := [], laidByText := true, laidKinds := [.sentinel, .sentinel, .sentinel, .sentinel], laidTests := true, laidLooks := .later }
def FnExactShadedHoursUptoCardSaid : Prop := Claim7.holds Tryd.pinned (.plain (OpenSpec.upto fnExactShadedHoursSpec)) fnExactShadedHoursUptoCard

/-- THE SECOND FORM's CARD OF 'laws.FnExactOutFor'. -/
def fnExactOutForUptoCard : Claim7 := { stood := { row := fnExactOutForUptoRow, standIns := [], harness := (true, "60ba0d8cced9d8be6e2f36af3925fba1d553cbae0c0323ab20e3b312a04044b3"), looks := true }, kinds := [], alts := [], laidByText := true, laidKinds := [.sentinel, .sentinel, .sentinel, .sentinel], laidTests := true, laidLooks := .later }
def FnExactOutForUptoCardSaid : Prop := Claim7.holds Tryd.pinned (.plain (OpenSpec.upto fnExactOutForSpec)) fnExactOutForUptoCard

/-- THE SECOND FORM's CARD OF 'laws.FnExactHiddenAt'. -/
def fnExactHiddenAtUptoCard : Claim7 := { stood := { row := fnExactHiddenAtUptoRow, standIns := [], harness := (true, "60ba0d8cced9d8be6e2f36af3925fba1d553cbae0c0323ab20e3b312a04044b3"), looks := true }, kinds := [], alts := [], laidByText := true, laidKinds := [.sentinel, .sentinel, .sentinel, .sentinel], laidTests := true, laidLooks := .later }
def FnExactHiddenAtUptoCardSaid : Prop := Claim7.holds Tryd.pinned (.plain (OpenSpec.upto fnExactHiddenAtSpec)) fnExactHiddenAtUptoCard

/-- THE SECOND FORM's CARD OF 'laws.FnExactHiddenHours'. -/
def fnExactHiddenHoursUptoCard : Claim7 := { stood := { row := fnExactHiddenHoursUptoRow, standIns := [], harness := (true, "60ba0d8cced9d8be6e2f36af3925fba1d553cbae0c0323ab20e3b312a04044b3"), looks := true }, kinds := [], alts := [], laidByText := true, laidKinds := [.sentinel, .sentinel, .sentinel, .sentinel], laidTests := true, laidLooks := .later }
def FnExactHiddenHoursUptoCardSaid : Prop := Claim7.holds Tryd.pinned (.plain (OpenSpec.upto fnExactHiddenHoursSpec)) fnExactHiddenHoursUptoCard

/-- THE SECOND FORM's CARD OF 'laws.FnExactBareSun'. -/
def fnExactBareSunUptoCard : Claim7 := { stood := { row := fnExactBareSunUptoRow, standIns := [], harness := (true, "60ba0d8cced9d8be6e2f36af3925fba1d553cbae0c0323ab20e3b312a04044b3"), looks := true }, kinds := [], alts := [], laidByText := true, laidKinds := [.sentinel, .sentinel, .sentinel, .sentinel], laidTests := true, laidLooks := .later }
def FnExactBareSunUptoCardSaid : Prop := Claim7.holds Tryd.pinned (.plain (OpenSpec.upto fnExactBareSunSpec)) fnExactBareSunUptoCard

/-- THE SECOND FORM's CARD OF 'laws.FnExactBestAwning'. -/
def fnExactBestAwningUptoCard : Claim7 := { stood := { row := fnExactBestAwningUptoRow, standIns := [], harness := (true, "60ba0d8cced9d8be6e2f36af3925fba1d553cbae0c0323ab20e3b312a04044b3"), looks := true }, kinds := [], alts := [], laidByText := true, laidKinds := [.sentinel, .sentinel, .sentinel, .sentinel], laidTests := true, laidLooks := .later }
def FnExactBestAwningUptoCardSaid : Prop := Claim7.holds Tryd.pinned (.plain (OpenSpec.upto fnExactBestAwningSpec)) fnExactBestAwningUptoCard

/-- THE SECOND FORM's CARD OF 'laws.FnExactGlareAt'. -/
def fnExactGlareAtUptoCard : Claim7 := { stood := { row := fnExactGlareAtUptoRow, standIns := [], harness := (true, "60ba0d8cced9d8be6e2f36af3925fba1d553cbae0c0323ab20e3b312a04044b3"), looks := true }, kinds := [], alts := [], laidByText := true, laidKinds := [.sentinel, .sentinel, .sentinel, .sentinel], laidTests := true, laidLooks := .later }
def FnExactGlareAtUptoCardSaid : Prop := Claim7.holds Tryd.pinned (.plain (OpenSpec.upto fnExactGlareAtSpec)) fnExactGlareAtUptoCard
end Rows
end Go.Proofs.YtnienahjfocalaaDoor
