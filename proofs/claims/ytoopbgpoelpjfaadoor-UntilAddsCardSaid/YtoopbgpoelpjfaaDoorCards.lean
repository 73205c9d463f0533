/-
  DERIVED. GIVEN WITH THE SEED: THE CARDS: each row of YtoopbgpoelpjfaaDoorRows.lean that lists a variable, with what it lists TIED to the program's text (the seventh form; the later family's looks); each row that meets fmt, with fmt's text TOLD by the authors' own Lean function (tested against real Go, not proved from fmt's source: count such statements apart). THE CARD IS WHAT COUNTS. Prove the row's statement (the work); the ties are given (YtoopbgpoelpjfaaDoorTie.lean); close each card by the builder's one call (the guide's Derived/Test/ToyasCard.lean, 'card_holds'). Laid BY PROGRAM, IN A SANDBOX (cutbox-door.mjs). By AI agents, Wed Nov 11 2026. No macro, syntax, notation, axiom, sorry.
-/
import Derived.Test.YtoopbgpoelpjfaaDoorRows
import GoSem.ClaimSeven
namespace Go.Proofs.YtoopbgpoelpjfaaDoor
namespace Rows

/-- THE TIED CARD OF 'analemmalaw12.UntilDates'. -/
def untilDatesCard : Claim7 := { stood := { row := untilDatesRow, standIns := [], harness := (true, "87edc98d03764a56b9381e40dc2597b5c666ec761819eefbd94c7712668ac789"), looks := false }, kinds := [], alts := [], laidByText := true, laidKinds := [.data], laidTests := true, laidLooks := .later }
def UntilDatesCardSaid : Prop := Claim7.holds Tryd.pinned (.plain (OpenSpec.ofChange untilDatesSpec)) untilDatesCard

/-- THE TIED CARD OF 'analemmalaw12.UntilAdds'. -/
def untilAddsCard : Claim7 := { stood := { row := untilAddsRow, standIns := [], harness := (true, "87edc98d03764a56b9381e40dc2597b5c666ec761819eefbd94c7712668ac789"), looks := false }, kinds := [], alts := [], laidByText := true, laidKinds := [.data], laidTests := true, laidLooks := .later }
def UntilAddsCardSaid : Prop := Claim7.holds Tryd.pinned (.plain (OpenSpec.ofChange untilAddsSpec)) untilAddsCard

/-- THE TIED CARD OF 'analemmalaw12.UntilGreedy'. -/
def untilGreedyCard : Claim7 := { stood := { row := untilGreedyRow, standIns := [], harness := (true, "87edc98d03764a56b9381e40dc2597b5c666ec761819eefbd94c7712668ac789"), looks := false }, kinds := [], alts := [], laidByText := true, laidKinds := [.data], laidTests := true, laidLooks := .later }
def UntilGreedyCardSaid : Prop := Claim7.holds Tryd.pinned (.plain (OpenSpec.ofChange untilGreedySpec)) untilGreedyCard

/-- THE TIED CARD OF 'analemmalaw12.UntilDays'. -/
def untilDaysCard : Claim7 := { stood := { row := untilDaysRow, standIns := [], harness := (true, "87edc98d03764a56b9381e40dc2597b5c666ec761819eefbd94c7712668ac789"), looks := false }, kinds := [], alts := [], laidByText := true, laidKinds := [.data], laidTests := true, laidLooks := .later }
def UntilDaysCardSaid : Prop := Claim7.holds Tryd.pinned (.plain (OpenSpec.ofChange untilDaysSpec)) untilDaysCard

/-- THE SECOND FORM's CARD OF 'analemmalaw12.UntilDates'. -/
def untilDatesUptoCard : Claim7 := { stood := { row := untilDatesUptoRow, standIns := [], harness := (true, "87edc98d03764a56b9381e40dc2597b5c666ec761819eefbd94c7712668ac789"), looks := false }, kinds := [], alts := [], laidByText := true, laidKinds := [.data], laidTests := true, laidLooks := .later }
def UntilDatesUptoCardSaid : Prop := Claim7.holds Tryd.pinned (.plain (OpenSpec.upto untilDatesSpec)) untilDatesUptoCard

/-- THE SECOND FORM's CARD OF 'analemmalaw12.UntilAdds'. -/
def untilAddsUptoCard : Claim7 := { stood := { row := untilAddsUptoRow, standIns := [], harness := (true, "87edc98d03764a56b9381e40dc2597b5c666ec761819eefbd94c7712668ac789"), looks := false }, kinds := [], alts := [], laidByText := true, laidKinds := [.data], laidTests := true, laidLooks := .later }
def UntilAddsUptoCardSaid : Prop := Claim7.holds Tryd.pinned (.plain (OpenSpec.upto untilAddsSpec)) untilAddsUptoCard

/-- THE SECOND FORM's CARD OF 'analemmalaw12.UntilGreedy'. -/
def untilGreedyUptoCard : Claim7 := { stood := { row := untilGreedyUptoRow, standIns := [], harness := (true, "87edc98d03764a56b9381e40dc2597b5c666ec761819eefbd94c7712668ac789"), looks := false }, kinds := [], alts := [], laidByText := true, laidKinds := [.data], laidTests := true, laidLooks := .later }
def UntilGreedyUptoCardSaid : Prop := Claim7.holds Tryd.pinned (.plain (OpenSpec.upto untilGreedySpec)) untilGreedyUptoCard

/-- THE SECOND FORM's CARD OF 'analemmalaw12.UntilDays'. -/
def untilDaysUptoCard : Claim7 := { stood := { row := untilDaysUptoRow, standIns := [], harness := (true, "87edc98d03764a56b9381e40dc2597b5c666ec761819eefbd94c7712668ac789"), looks := false }, kinds := [], alts := [], laidByText := true, laidKinds := [.data], laidTests := true, laidLooks := .later }
def UntilDaysUptoCardSaid : Prop := Claim7.holds Tryd.pinned (.plain (OpenSpec.upto untilDaysSpec)) untilDaysUptoCard
end Rows
end Go.Proofs.YtoopbgpoelpjfaaDoor
