/-
  DERIVED. GIVEN WITH THE SEED: THE CARDS: each row of YtbjfegelgjmapaaDoorRows.lean that lists a variable, with what it lists TIED to the program's text (the seventh form; the later family's looks); each row that meets fmt, with fmt's text TOLD by the authors' own Lean function (tested against real Go, not proved from fmt's source: count such statements apart). THE CARD IS WHAT COUNTS. Prove the row's statement (the work); the ties are given (YtbjfegelgjmapaaDoorTie.lean); close each card by the builder's one call (the guide's Derived/Test/ToyasCard.lean, 'card_holds'). Laid BY PROGRAM, IN A SANDBOX (cutbox-door.mjs). By AI agents, Wed Nov 11 2026. No macro, syntax, notation, axiom, sorry.
-/
import Derived.Test.YtbjfegelgjmapaaDoorRows
import GoSem.ClaimSeven
namespace Go.Proofs.YtbjfegelgjmapaaDoor
namespace Rows

/-- THE TIED CARD OF 'analemmalaw16.YearlyDays'. -/
def yearlyDaysCard : Claim7 := { stood := { row := yearlyDaysRow, standIns := [], harness := (true, "1f385311de73b93857530043752d83fb7c39ec31b510dfe25adecd2cb1a7f0d1"), looks := false }, kinds := [], alts := [], laidByText := true, laidKinds := [.data], laidTests := true, laidLooks := .later }
def YearlyDaysCardSaid : Prop := Claim7.holds Tryd.pinned (.plain (OpenSpec.ofChange yearlyDaysSpec)) yearlyDaysCard

/-- THE TIED CARD OF 'analemmalaw16.YearlyWeekdays'. -/
def yearlyWeekdaysCard : Claim7 := { stood := { row := yearlyWeekdaysRow, standIns := [], harness := (true, "1f385311de73b93857530043752d83fb7c39ec31b510dfe25adecd2cb1a7f0d1"), looks := false }, kinds := [], alts := [], laidByText := true, laidKinds := [.data], laidTests := true, laidLooks := .later }
def YearlyWeekdaysCardSaid : Prop := Claim7.holds Tryd.pinned (.plain (OpenSpec.ofChange yearlyWeekdaysSpec)) yearlyWeekdaysCard

/-- THE SECOND FORM's CARD OF 'analemmalaw16.YearlyDays'. -/
def yearlyDaysUptoCard : Claim7 := { stood := { row := yearlyDaysUptoRow, standIns := [], harness := (true, "1f385311de73b93857530043752d83fb7c39ec31b510dfe25adecd2cb1a7f0d1"), looks := false }, kinds := [], alts := [], laidByText := true, laidKinds := [.data], laidTests := true, laidLooks := .later }
def YearlyDaysUptoCardSaid : Prop := Claim7.holds Tryd.pinned (.plain (OpenSpec.upto yearlyDaysSpec)) yearlyDaysUptoCard

/-- THE SECOND FORM's CARD OF 'analemmalaw16.YearlyWeekdays'. -/
def yearlyWeekdaysUptoCard : Claim7 := { stood := { row := yearlyWeekdaysUptoRow, standIns := [], harness := (true, "1f385311de73b93857530043752d83fb7c39ec31b510dfe25adecd2cb1a7f0d1"), looks := false }, kinds := [], alts := [], laidByText := true, laidKinds := [.data], laidTests := true, laidLooks := .later }
def YearlyWeekdaysUptoCardSaid : Prop := Claim7.holds Tryd.pinned (.plain (OpenSpec.upto yearlyWeekdaysSpec)) yearlyWeekdaysUptoCard
end Rows
end Go.Proofs.YtbjfegelgjmapaaDoor
