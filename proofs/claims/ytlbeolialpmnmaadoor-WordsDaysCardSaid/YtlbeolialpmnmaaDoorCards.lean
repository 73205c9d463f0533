/-
  DERIVED. GIVEN WITH THE SEED: THE CARDS: each row of YtlbeolialpmnmaaDoorRows.lean that lists a variable, with what it lists TIED to the program's text (the seventh form; the later family's looks); each row that meets fmt, with fmt's text TOLD by the authors' own Lean function (tested against real Go, not proved from fmt's source: count such statements apart). THE CARD IS WHAT COUNTS. Prove the row's statement (the work); the ties are given (YtlbeolialpmnmaaDoorTie.lean); close each card by the builder's one call (the guide's Derived/Test/ToyasCard.lean, 'card_holds'). Laid BY PROGRAM, IN A SANDBOX (cutbox-door.mjs). By AI agents, Wed Nov 11 2026. No macro, syntax, notation, axiom, sorry.
-/
import Derived.Test.YtlbeolialpmnmaaDoorRows
import GoSem.ClaimSeven
namespace Go.Proofs.YtlbeolialpmnmaaDoor
namespace Rows

/-- THE TIED CARD OF 'analemmalaw14.WordsNumbers'. -/
def wordsNumbersCard : Claim7 := { stood := { row := wordsNumbersRow, standIns := [], harness := (true, "7a288f7cf8608b331350c600b587b9b6d3a91aabf2713b1c409e6d274df71578"), looks := false }, kinds := [], alts := [], laidByText := true, laidKinds := [.data, .data, .data], laidTests := true, laidLooks := .later }
def WordsNumbersCardSaid : Prop := Claim7.holds Tryd.pinned (.plain (OpenSpec.ofChange wordsNumbersSpec)) wordsNumbersCard

/-- THE TIED CARD OF 'analemmalaw14.WordsTimes'. -/
def wordsTimesCard : Claim7 := { stood := { row := wordsTimesRow, standIns := [], harness := (true, "7a288f7cf8608b331350c600b587b9b6d3a91aabf2713b1c409e6d274df71578"), looks := false }, kinds := [], alts := [], laidByText := true, laidKinds := [.data, .data, .data], laidTests := true, laidLooks := .later }
def WordsTimesCardSaid : Prop := Claim7.holds Tryd.pinned (.plain (OpenSpec.ofChange wordsTimesSpec)) wordsTimesCard

/-- THE TIED CARD OF 'analemmalaw14.WordsDays'. -/
def wordsDaysCard : Claim7 := { stood := { row := wordsDaysRow, standIns := [], harness := (true, "7a288f7cf8608b331350c600b587b9b6d3a91aabf2713b1c409e6d274df71578"), looks := false }, kinds := [], alts := [], laidByText := true, laidKinds := [.data, .data, .data], laidTests := true, laidLooks := .later }
def WordsDaysCardSaid : Prop := Claim7.holds Tryd.pinned (.plain (OpenSpec.ofChange wordsDaysSpec)) wordsDaysCard

/-- THE TIED CARD OF 'analemmalaw14.WordsOffsets'. -/
def wordsOffsetsCard : Claim7 := { stood := { row := wordsOffsetsRow, standIns := [], harness := (true, "7a288f7cf8608b331350c600b587b9b6d3a91aabf2713b1c409e6d274df71578"), looks := false }, kinds := [], alts := [], laidByText := true, laidKinds := [.data, .data, .data], laidTests := true, laidLooks := .later }
def WordsOffsetsCardSaid : Prop := Claim7.holds Tryd.pinned (.plain (OpenSpec.ofChange wordsOffsetsSpec)) wordsOffsetsCard

/-- THE TIED CARD OF 'analemmalaw14.WordsWeekdays'. -/
def wordsWeekdaysCard : Claim7 := { stood := { row := wordsWeekdaysRow, standIns := [], harness := (true, "7a288f7cf8608b331350c600b587b9b6d3a91aabf2713b1c409e6d274df71578"), looks := false }, kinds := [], alts := [], laidByText := true, laidKinds := [.data, .data, .data], laidTests := true, laidLooks := .later }
def WordsWeekdaysCardSaid : Prop := Claim7.holds Tryd.pinned (.plain (OpenSpec.ofChange wordsWeekdaysSpec)) wordsWeekdaysCard

/-- THE SECOND FORM's CARD OF 'analemmalaw14.WordsNumbers'. -/
def wordsNumbersUptoCard : Claim7 := { stood := { row := wordsNumbersUptoRow, standIns := [], harness := (true, "7a288f7cf8608b331350c600b587b9b6d3a91aabf2713b1c409e6d274df71578"), looks := false }, kinds := [], alts := [], laidByText := true, laidKinds := [.data, .data, .data], laidTests := true, laidLooks := .later }
def WordsNumbersUptoCardSaid : Prop := Claim7.holds Tryd.pinned (.plain (OpenSpec.upto wordsNumbersSpec)) wordsNumbersUptoCard

/-- THE SECOND FORM's CARD OF 'analemmalaw14.WordsTimes'. -/
def wordsTimesUptoCard : Claim7 := { stood := { row := wordsTimesUptoRow, standIns := [], harness := (true, "7a288f7cf8608b331350c600b587b9b6d3a91aabf2713b1c409e6d274df71578"), looks := false }, kinds := [], alts := [], laidByText := true, laidKinds := [.data, .data, .data], laidTests := true, laidLooks := .later }
def WordsTimesUptoCardSaid : Prop := Claim7.holds Tryd.pinned (.plain (OpenSpec.upto wordsTimesSpec)) wordsTimesUptoCard

/-- THE SECOND FORM's CARD OF 'analemmalaw14.WordsDays'. -/
def wordsDaysUptoCard : Claim7 := { stood := { row := wordsDaysUptoRow, standIns := [], harness := (true, "7a288f7cf8608b331350c600b587b9b6d3a91aabf2713b1c409e6d274df71578"), looks := false }, kinds := [], alts := [], laidByText := true, laidKinds := [.data, .data, .data], laidTests := true, laidLooks := .later }
def WordsDaysUptoCardSaid : Prop := Claim7.holds Tryd.pinned (.plain (OpenSpec.upto wordsDaysSpec)) wordsDaysUptoCard

/-- THE SECOND FORM's CARD OF 'analemmalaw14.WordsOffsets'. -/
def wordsOffsetsUptoCard : Claim7 := { stood := { row := wordsOffsetsUptoRow, standIns := [], harness := (true, "7a288f7cf8608b331350c600b587b9b6d3a91aabf2713b1c409e6d274df71578"), looks := false }, kinds := [], alts := [], laidByText := true, laidKinds := [.data, .data, .data], laidTests := true, laidLooks := .later }
def WordsOffsetsUptoCardSaid : Prop := Claim7.holds Tryd.pinned (.plain (OpenSpec.upto wordsOffsetsSpec)) wordsOffsetsUptoCard

/-- THE SECOND FORM's CARD OF 'analemmalaw14.WordsWeekdays'. -/
def wordsWeekdaysUptoCard : Claim7 := { stood := { row := wordsWeekdaysUptoRow, standIns := [], harness := (true, "7a288f7cf8608b331350c600b587b9b6d3a91aabf2713b1c409e6d274df71578"), looks := false }, kinds := [], alts := [], laidByText := true, laidKinds := [.data, .data, .data], laidTests := true, laidLooks := .later }
def WordsWeekdaysUptoCardSaid : Prop := Claim7.holds Tryd.pinned (.plain (OpenSpec.upto wordsWeekdaysSpec)) wordsWeekdaysUptoCard
end Rows
end Go.Proofs.YtlbeolialpmnmaaDoor
