/-
  DERIVED. GIVEN WITH THE SEED: THE CARDS: each row of YtdbleddcnknmiaaDoorRows.lean that lists a variable, with what it lists TIED to the program's text (the seventh form; the later family's looks); each row that meets fmt, with fmt's text TOLD by the authors' own Lean function (tested against real Go, not proved from fmt's source: count such statements apart). THE CARD IS WHAT COUNTS. Prove the row's statement (the work); the ties are given (YtdbleddcnknmiaaDoorTie.lean); close each card by the builder's one call (the guide's Derived/Test/ToyasCard.lean, 'card_holds'). Laid BY PROGRAM, IN A SANDBOX (cutbox-door.mjs). By AI agents, Wed Nov 11 2026. No macro, syntax, notation, axiom, sorry.
-/
import Derived.Test.YtdbleddcnknmiaaDoorRows
import GoSem.ClaimSeven
namespace Go.Proofs.YtdbleddcnknmiaaDoor
namespace Rows

/-- THE TIED CARD OF 'laws.FnExactChangesOf'. -/
def fnExactChangesOfCard : Claim7 := { stood := { row := fnExactChangesOfRow, standIns := [], harness := (true, "f4d178adc917c566df4f38625c7c34c2c525a040898aab6430f092eedb363004"), looks := true }, kinds := [], alts := [], laidByText := true, laidKinds := [.handle], laidTests := true, laidLooks := .later }
def FnExactChangesOfCardSaid : Prop := Claim7.holds Tryd.pinned (.plain (OpenSpec.ofChange fnExactChangesOfSpec)) fnExactChangesOfCard

/-- THE TIED CARD OF 'laws.FnExactBrokenFrom'. -/
def fnExactBrokenFromCard : Claim7 := { stood := { row := fnExactBrokenFromRow, standIns := [], harness := (true, "f4d178adc917c566df4f38625c7c34c2c525a040898aab6430f092eedb363004"), looks := true }, kinds := [], alts := [], laidByText := true, laidKinds := [.handle], laidTests := true, laidLooks := .later }
def FnExactBrokenFromCardSaid : Prop := Claim7.holds Tryd.pinned (.plain (OpenSpec.ofChange fnExactBrokenFromSpec)) fnExactBrokenFromCard

/-- THE TIED CARD OF 'laws.FnExactYearLight'. -/
def fnExactYearLightCard : Claim7 := { stood := { row := fnExactYearLightRow, standIns := [], harness := (true, "f4d178adc917c566df4f38625c7c34c2c525a040898aab6430f092eedb363004"), looks := true }, kinds := [], alts := [], laidByText := true, laidKinds := [.handle], laidTests := true, laidLooks := .later }
def FnExactYearLightCardSaid : Prop := Claim7.holds Tryd.pinned (.plain (OpenSpec.ofChange fnExactYearLightSpec)) fnExactYearLightCard

/-- THE TIED CARD OF 'laws.FnExactBestMonth'. -/
def fnExactBestMonthCard : Claim7 := { stood := { row := fnExactBestMonthRow, standIns := [], harness := (true, "f4d178adc917c566df4f38625c7c34c2c525a040898aab6430f092eedb363004"), looks := true }, kinds := [], alts := [], laidByText := true, laidKinds := [.handle], laidTests := true, laidLooks := .later }
def FnExactBestMonthCardSaid : Prop := Claim7.holds Tryd.pinned (.plain (OpenSpec.ofChange fnExactBestMonthSpec)) fnExactBestMonthCard

/-- THE SECOND FORM's CARD OF 'laws.FnExactChangesOf'. -/
def fnExactChangesOfUptoCard : Claim7 := { stood := { row := fnExactChangesOfUptoRow, standIns := [], harness := (true, "f4d178adc917c566df4f38625c7c34c2c525a040898aab6430f092eedb363004"), looks := true }, kinds := [], alts := [], laidByText := true, laidKinds := [.handle], laidTests := true, laidLooks := .later }
def FnExactChangesOfUptoCardSaid : Prop := Claim7.holds Tryd.pinned (.plain (OpenSpec.upto fnExactChangesOfSpec)) fnExactChangesOfUptoCard

/-- THE SECOND FORM's CARD OF 'laws.FnExactBrokenFrom'. -/
def fnExactBrokenFromUptoCard : Claim7 := { stood := { row := fnExactBrokenFromUptoRow, standIns := [], harness := (true, "f4d178adc917c566df4f38625c7c34c2c525a040898aab6430f092eedb363004"), looks := true }, kinds := [], alts := [], laidByText := true, laidKinds := [.handle], laidTests := true, laidLooks := .later }
def FnExactBrokenFromUptoCardSaid : Prop := Claim7.holds Tryd.pinned (.plain (OpenSpec.upto fnExactBrokenFromSpec)) fnExactBrokenFromUptoCard

/-- THE SECOND FORM's CARD OF 'laws.FnExactYearLight'. -/
def fnExactYearLightUptoCard : Claim7 := { stood := { row := fnExactYearLightUptoRow, standIns := [], harness := (true, "f4d178adc917c566df4f38625c7c34c2c525a040898aab6430f092eedb363004"), looks := true }, kinds := [], alts := [], laidByText := true, laidKinds := [.handle], laidTests := true, laidLooks := .later }
def FnExactYearLightUptoCardSaid : Prop := Claim7.holds Tryd.pinned (.plain (OpenSpec.upto fnExactYearLightSpec)) fnExactYearLightUptoCard

/-- THE SECOND FORM's CARD OF 'laws.FnExactBestMonth'. -/
def fnExactBestMonthUptoCard : Claim7 := { stood := { row := fnExactBestMonthUptoRow, standIns := [], harness := (true, "f4d178adc917c566df4f38625c7c34c2c525a040898aab6430f092eedb363004"), looks := true }, kinds := [], alts := [], laidByText := true, laidKinds := [.handle], laidTests := true, laidLooks := .later }
def FnExactBestMonthUptoCardSaid : Prop := Claim7.holds Tryd.pinned (.plain (OpenSpec.upto fnExactBestMonthSpec)) fnExactBestMonthUptoCard
end Rows
end Go.Proofs.YtdbleddcnknmiaaDoor
