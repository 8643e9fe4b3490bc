/-
  DERIVED. GIVEN WITH THE SEED: THE CARDS: each row of YtpcmcopfdghdgaaDoorRows.lean that lists a variable, with what it lists TIED to the program's text (the seventh form; the later family's looks); each row that meets fmt, with fmt's text TOLD by the authors' own Lean function (tested against real Go, not proved from fmt's source: count such statements apart). THE CARD IS WHAT COUNTS. Prove the row's statement (the work); the ties are given (YtpcmcopfdghdgaaDoorTie.lean); close each card by the builder's one call (the guide's Derived/Test/ToyasCard.lean, 'card_holds'). Laid BY PROGRAM, IN A SANDBOX (cutbox-door.mjs). By AI agents, Wed Nov 11 2026. No macro, syntax, notation, axiom, sorry.
-/
import Derived.Test.YtpcmcopfdghdgaaDoorRows
import GoSem.ClaimSeven
namespace Go.Proofs.YtpcmcopfdghdgaaDoor
namespace Rows

/-- THE TIED CARD OF 'laws.FnExactLitBy'. -/
def fnExactLitByCard : Claim7 := { stood := { row := fnExactLitByRow, standIns := [], harness := (true, "29aa2d0956ada4510c50434e5d96f901190bf275ecae7e30f8807df5bf4c2e7d"), looks := true }, kinds := [], alts := [], laidByText := true, laidKinds := [.sentinel, .sentinel, .sentinel, .sentinel], laidTests := true, laidLooks := .later }
def FnExactLitByCardSaid : Prop := Claim7.holds Tryd.pinned (.plain (OpenSpec.ofChange fnExactLitBySpec)) fnExactLitByCard

/-- THE TIED CARD OF 'laws.FnExactHiddenAt'. -/
def fnExactHiddenAtCard : Claim7 := { stood := { row := fnExactHiddenAtRow, standIns := [], harness := (true, "29aa2d0956ada4510c50434e5d96f901190bf275ecae7e30f8807df5bf4c2e7d"), looks := true }, kinds := [], alts := [], laidByText := true, laidKinds := [.sentinel, .sentinel, .sentinel, .sentinel], laidTests := true, laidLooks := .later }
def FnExactHiddenAtCardSaid : Prop := Claim7.holds Tryd.pinned (.plain (OpenSpec.ofChange fnExactHiddenAtSpec)) fnExactHiddenAtCard

/-- THE TIED CARD OF 'laws.FnExactHiddenHours'. -/
def fnExactHiddenHoursCard : Claim7 := { stood := { row := fnExactHiddenHoursRow, standIns := [], harness := (true, "29aa2d0956ada4510c50434e5d96f901190bf275ecae7e30f8807df5bf4c2e7d"), looks := true }, kinds := [], alts := [], laidByText := true, laidKinds := [.sentinel, .sentinel, .sentinel, .sentinel], laidTests := true, laidLooks := .later }
def FnExactHiddenHoursCardSaid : Prop := Claim7.holds Tryd.pinned (.plain (OpenSpec.ofChange fnExactHiddenHoursSpec)) fnExactHiddenHoursCard

/-- THE TIED CARD OF 'laws.FnExactBareSun'. -/
def fnExactBareSunCard : Claim7 := { stood := { row := fnExactBareSunRow, standIns := [], harness := (true, "29aa2d0956ada4510c50434e5d96f901190bf275ecae7e30f8807df5bf4c2e7d"), looks := true }, kinds := [], alts := [], laidByText := true, laidKinds := [.sentinel, .sentinel, .sentinel, .sentinel], laidTests := true, laidLooks := .later }
def FnExactBareSunCardSaid : Prop := Claim7.holds Tryd.pinned (.plain (OpenSpec.ofChange fnExactBareSunSpec)) fnExactBareSunCard

/-- THE SECOND FORM's CARD OF 'laws.FnExactLitBy'. -/
def fnExactLitByUptoCard : Claim7 := { stood := { row := fnExactLitByUptoRow, standIns := [], harness := (true, "29aa2d0956ada4510c50434e5d96f901190bf275ecae7e30f8807df5bf4c2e7d"), looks := true }, kinds := [], alts := [], laidByText := true, laidKinds := [.sentinel, .sentinel, .sentinel, .sentinel], laidTests := true, laidLooks := .later }
def FnExactLitByUptoCardSaid : Prop := Claim7.holds Tryd.pinned (.plain (OpenSpec.upto fnExactLitBySpec)) fnExactLitByUptoCard

/-- THE SECOND FORM's CARD OF 'laws.FnExactHiddenAt'. -/
def fnExactHiddenAtUptoCard : Claim7 := { stood := { row := fnExactHiddenAtUptoRow, standIns := [], harness := (true, "29aa2d0956ada4510c50434e5d96f901190bf275ecae7e30f8807df5bf4c2e7d"), looks := true }, kinds := [], alts := [], laidByText := true, laidKinds := [.sentinel, .sentinel, .sentinel, .sentinel], laidTests := true, laidLooks := .later }
def FnExactHiddenAtUptoCardSaid : Prop := Claim7.holds Tryd.pinned (.plain (OpenSpec.upto fnExactHiddenAtSpec)) fnExactHiddenAtUptoCard

/-- THE SECOND FORM's CARD OF 'laws.FnExactHiddenHours'. -/
def fnExactHiddenHoursUptoCard : Claim7 := { stood := { row := fnExactHiddenHoursUptoRow, standIns := [], harness := (true, "29aa2d0956ada4510c50434e5d96f901190bf275ecae7e30f8807df5bf4c2e7d"), looks := true }, kinds := [], alts := [], laidByText := true, laidKinds := [.sentinel, .sentinel, .sentinel, .sentinel], laidTests := true, laidLooks := .later }
def FnExactHiddenHoursUptoCardSaid : Prop := Claim7.holds Tryd.pinned (.plain (OpenSpec.upto fnExactHiddenHoursSpec)) fnExactHiddenHoursUptoCard

/-- THE SECOND FORM's CARD OF 'laws.FnExactBareSun'. -/
def fnExactBareSunUptoCard : Claim7 := { stood := { row := fnExactBareSunUptoRow, standIns := [], harness := (true, "29aa2d0956ada4510c50434e5d96f901190bf275ecae7e30f8807df5bf4c2e7d"), looks := true }, kinds := [], alts := [], laidByText := true, laidKinds := [.sentinel, .sentinel, .sentinel, .sentinel], laidTests := true, laidLooks := .later }
def FnExactBareSunUptoCardSaid : Prop := Claim7.holds Tryd.pinned (.plain (OpenSpec.upto fnExactBareSunSpec)) fnExactBareSunUptoCard
end Rows
end Go.Proofs.YtpcmcopfdghdgaaDoor
