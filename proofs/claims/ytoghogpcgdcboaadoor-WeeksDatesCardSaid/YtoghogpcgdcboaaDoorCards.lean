/-
  DERIVED. GIVEN WITH THE SEED: THE CARDS: each row of YtoghogpcgdcboaaDoorRows.lean that lists a variable, with what it lists TIED to the program's text (the seventh form; the later family's looks); each row that meets fmt, with fmt's text TOLD by the authors' own Lean function (tested against real Go, not proved from fmt's source: count such statements apart). THE CARD IS WHAT COUNTS. Prove the row's statement (the work); the ties are given (YtoghogpcgdcboaaDoorTie.lean); close each card by the builder's one call (the guide's Derived/Test/ToyasCard.lean, 'card_holds'). Laid BY PROGRAM, IN A SANDBOX (cutbox-door.mjs). By AI agents, Wed Nov 11 2026. No macro, syntax, notation, axiom, sorry.
-/
import Derived.Test.YtoghogpcgdcboaaDoorRows
import GoSem.ClaimSeven
namespace Go.Proofs.YtoghogpcgdcboaaDoor
namespace Rows

/-- THE TIED CARD OF 'analemmalaw07.WeeksOf'. -/
def weeksOfCard : Claim7 := { stood := { row := weeksOfRow, standIns := [], harness := (true, "bbaa3ad5b560d628b5dc22924f0c801e438936046ea8006afa3224c3aae99f46"), looks := false }, kinds := [], alts := [], laidByText := true, laidKinds := [.data], laidTests := true, laidLooks := .later }
def WeeksOfCardSaid : Prop := Claim7.holds Tryd.pinned (.plain (OpenSpec.ofChange weeksOfSpec)) weeksOfCard

/-- THE TIED CARD OF 'analemmalaw07.WeeksDates'. -/
def weeksDatesCard : Claim7 := { stood := { row := weeksDatesRow, standIns := [], harness := (true, "bbaa3ad5b560d628b5dc22924f0c801e438936046ea8006afa3224c3aae99f46"), looks := false }, kinds := [], alts := [], laidByText := true, laidKinds := [.data], laidTests := true, laidLooks := .later }
def WeeksDatesCardSaid : Prop := Claim7.holds Tryd.pinned (.plain (OpenSpec.ofChange weeksDatesSpec)) weeksDatesCard

/-- THE TIED CARD OF 'analemmalaw07.WeeksBack'. -/
def weeksBackCard : Claim7 := { stood := { row := weeksBackRow, standIns := [], harness := (true, "bbaa3ad5b560d628b5dc22924f0c801e438936046ea8006afa3224c3aae99f46"), looks := false }, kinds := [], alts := [], laidByText := true, laidKinds := [.data], laidTests := true, laidLooks := .later }
def WeeksBackCardSaid : Prop := Claim7.holds Tryd.pinned (.plain (OpenSpec.ofChange weeksBackSpec)) weeksBackCard

/-- THE TIED CARD OF 'analemmalaw07.WeeksThursdays'. -/
def weeksThursdaysCard : Claim7 := { stood := { row := weeksThursdaysRow, standIns := [], harness := (true, "bbaa3ad5b560d628b5dc22924f0c801e438936046ea8006afa3224c3aae99f46"), looks := false }, kinds := [], alts := [], laidByText := true, laidKinds := [.data], laidTests := true, laidLooks := .later }
def WeeksThursdaysCardSaid : Prop := Claim7.holds Tryd.pinned (.plain (OpenSpec.ofChange weeksThursdaysSpec)) weeksThursdaysCard

/-- THE TIED CARD OF 'analemmalaw07.WeeksSum'. -/
def weeksSumCard : Claim7 := { stood := { row := weeksSumRow, standIns := [], harness := (true, "bbaa3ad5b560d628b5dc22924f0c801e438936046ea8006afa3224c3aae99f46"), looks := false }, kinds := [], alts := [], laidByText := true, laidKinds := [.data], laidTests := true, laidLooks := .later }
def WeeksSumCardSaid : Prop := Claim7.holds Tryd.pinned (.plain (OpenSpec.ofChange weeksSumSpec)) weeksSumCard

/-- THE SECOND FORM's CARD OF 'analemmalaw07.WeeksOf'. -/
def weeksOfUptoCard : Claim7 := { stood := { row := weeksOfUptoRow, standIns := [], harness := (true, "bbaa3ad5b560d628b5dc22924f0c801e438936046ea8006afa3224c3aae99f46"), looks := false }, kinds := [], alts := [], laidByText := true, laidKinds := [.data], laidTests := true, laidLooks := .later }
def WeeksOfUptoCardSaid : Prop := Claim7.holds Tryd.pinned (.plain (OpenSpec.upto weeksOfSpec)) weeksOfUptoCard

/-- THE SECOND FORM's CARD OF 'analemmalaw07.WeeksDates'. -/
def weeksDatesUptoCard : Claim7 := { stood := { row := weeksDatesUptoRow, standIns := [], harness := (true, "bbaa3ad5b560d628b5dc22924f0c801e438936046ea8006afa3224c3aae99f46"), looks := false }, kinds := [], alts := [], laidByText := true, laidKinds := [.data], laidTests := true, laidLooks := .later }
def WeeksDatesUptoCardSaid : Prop := Claim7.holds Tryd.pinned (.plain (OpenSpec.upto weeksDatesSpec)) weeksDatesUptoCard

/-- THE SECOND FORM's CARD OF 'analemmalaw07.WeeksBack'. -/
def weeksBackUptoCard : Claim7 := { stood := { row := weeksBackUptoRow, standIns := [], harness := (true, "bbaa3ad5b560d628b5dc22924f0c801e438936046ea8006afa3224c3aae99f46"), looks := false }, kinds := [], alts := [], laidByText := true, laidKinds := [.data], laidTests := true, laidLooks := .later }
def WeeksBackUptoCardSaid : Prop := Claim7.holds Tryd.pinned (.plain (OpenSpec.upto weeksBackSpec)) weeksBackUptoCard

/-- THE SECOND FORM's CARD OF 'analemmalaw07.WeeksThursdays'. -/
def weeksThursdaysUptoCard : Claim7 := { stood := { row := weeksThursdaysUptoRow, standIns := [], harness := (true, "bbaa3ad5b560d628b5dc22924f0c801e438936046ea8006afa3224c3aae99f46"), looks := false }, kinds := [], alts := [], laidByText := true, laidKinds := [.data], laidTests := true, laidLooks := .later }
def WeeksThursdaysUptoCardSaid : Prop := Claim7.holds Tryd.pinned (.plain (OpenSpec.upto weeksThursdaysSpec)) weeksThursdaysUptoCard

/-- THE SECOND FORM's CARD OF 'analemmalaw07.WeeksSum'. -/
def weeksSumUptoCard : Claim7 := { stood := { row := weeksSumUptoRow, standIns := [], harness := (true, "bbaa3ad5b560d628b5dc22924f0c801e438936046ea8006afa3224c3aae99f46"), looks := false }, kinds := [], alts := [], laidByText := true, laidKinds := [.data], laidTests := true, laidLooks := .later }
def WeeksSumUptoCardSaid : Prop := Claim7.holds Tryd.pinned (.plain (OpenSpec.upto weeksSumSpec)) weeksSumUptoCard
end Rows
end Go.Proofs.YtoghogpcgdcboaaDoor
