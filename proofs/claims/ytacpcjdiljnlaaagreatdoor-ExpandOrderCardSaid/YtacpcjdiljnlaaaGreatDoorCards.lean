/-
  DERIVED. GIVEN WITH THE SEED: THE CARDS: each row of YtacpcjdiljnlaaaGreatDoorRows.lean that lists a variable, with what it lists TIED to the program's text (the seventh form; the later family's looks); each row that meets fmt, with fmt's text TOLD by the authors' own Lean function (tested against real Go, not proved from fmt's source: count such statements apart). THE CARD IS WHAT COUNTS. Prove the row's statement (the work); the ties are given (YtacpcjdiljnlaaaGreatDoorTie.lean); close each card by the builder's one call (the guide's Derived/Test/ToyasCard.lean, 'card_holds'). Laid BY PROGRAM, IN A SANDBOX (cutbox-door.mjs). By AI agents, Wed Nov 11 2026. No macro, syntax, notation, axiom, sorry.
-/
import Derived.Test.YtacpcjdiljnlaaaGreatDoorRows
import GoSem.ClaimSeven
namespace Go.Proofs.YtacpcjdiljnlaaaGreatDoor
namespace Rows

/-- THE TIED CARD OF 'analemmalaw17.ExpandAts'. -/
def expandAtsCard : Claim7 := { stood := { row := expandAtsRow, standIns := [], harness := (true, "28e8bba81c2013fdfe9009eddcedef0e5a63852d41c0ec4a444254b85c942890"), looks := false }, kinds := [], alts := [], laidByText := true, laidKinds := [.data, .data, .data, .data, .data, .data], laidTests := true, laidLooks := .later }
def ExpandAtsCardSaid : Prop := Claim7.holds Tryz.pinned (.plain (OpenSpec.ofChange expandAtsSpec)) expandAtsCard

/-- THE TIED CARD OF 'analemmalaw17.ExpandLasts'. -/
def expandLastsCard : Claim7 := { stood := { row := expandLastsRow, standIns := [], harness := (true, "28e8bba81c2013fdfe9009eddcedef0e5a63852d41c0ec4a444254b85c942890"), looks := false }, kinds := [], alts := [], laidByText := true, laidKinds := [.data, .data, .data, .data, .data, .data], laidTests := true, laidLooks := .later }
def ExpandLastsCardSaid : Prop := Claim7.holds Tryz.pinned (.plain (OpenSpec.ofChange expandLastsSpec)) expandLastsCard

/-- THE TIED CARD OF 'analemmalaw17.ExpandSteps'. -/
def expandStepsCard : Claim7 := { stood := { row := expandStepsRow, standIns := [], harness := (true, "28e8bba81c2013fdfe9009eddcedef0e5a63852d41c0ec4a444254b85c942890"), looks := false }, kinds := [], alts := [], laidByText := true, laidKinds := [.data, .data, .data, .data, .data, .data], laidTests := true, laidLooks := .later }
def ExpandStepsCardSaid : Prop := Claim7.holds Tryz.pinned (.plain (OpenSpec.ofChange expandStepsSpec)) expandStepsCard

/-- THE TIED CARD OF 'analemmalaw17.ExpandOrder'. -/
def expandOrderCard : Claim7 := { stood := { row := expandOrderRow, standIns := [], harness := (true, "28e8bba81c2013fdfe9009eddcedef0e5a63852d41c0ec4a444254b85c942890"), looks := false }, kinds := [], alts := [], laidByText := true, laidKinds := [.data, .data, .data, .data, .data, .data], laidTests := true, laidLooks := .later }
def ExpandOrderCardSaid : Prop := Claim7.holds Tryz.pinned (.plain (OpenSpec.ofChange expandOrderSpec)) expandOrderCard

/-- THE SECOND FORM's CARD OF 'analemmalaw17.ExpandAts'. -/
def expandAtsUptoCard : Claim7 := { stood := { row := expandAtsUptoRow, standIns := [], harness := (true, "28e8bba81c2013fdfe9009eddcedef0e5a63852d41c0ec4a444254b85c942890"), looks := false }, kinds := [], alts := [], laidByText := true, laidKinds := [.data, .data, .data, .data, .data, .data], laidTests := true, laidLooks := .later }
def ExpandAtsUptoCardSaid : Prop := Claim7.holds Tryz.pinned (.plain (OpenSpec.upto expandAtsSpec)) expandAtsUptoCard

/-- THE SECOND FORM's CARD OF 'analemmalaw17.ExpandLasts'. -/
def expandLastsUptoCard : Claim7 := { stood := { row := expandLastsUptoRow, standIns := [], harness := (true, "28e8bba81c2013fdfe9009eddcedef0e5a63852d41c0ec4a444254b85c942890"), looks := false }, kinds := [], alts := [], laidByText := true, laidKinds := [.data, .data, .data, .data, .data, .data], laidTests := true, laidLooks := .later }
def ExpandLastsUptoCardSaid : Prop := Claim7.holds Tryz.pinned (.plain (OpenSpec.upto expandLastsSpec)) expandLastsUptoCard

/-- THE SECOND FORM's CARD OF 'analemmalaw17.ExpandSteps'. -/
def expandStepsUptoCard : Claim7 := { stood := { row := expandStepsUptoRow, standIns := [], harness := (true, "28e8bba81c2013fdfe9009eddcedef0e5a63852d41c0ec4a444254b85c942890"), looks := false }, kinds := [], alts := [], laidByText := true, laidKinds := [.data, .data, .data, .data, .data, .data], laidTests := true, laidLooks := .later }
def ExpandStepsUptoCardSaid : Prop := Claim7.holds Tryz.pinned (.plain (OpenSpec.upto expandStepsSpec)) expandStepsUptoCard

/-- THE SECOND FORM's CARD OF 'analemmalaw17.ExpandOrder'. -/
def expandOrderUptoCard : Claim7 := { stood := { row := expandOrderUptoRow, standIns := [], harness := (true, "28e8bba81c2013fdfe9009eddcedef0e5a63852d41c0ec4a444254b85c942890"), looks := false }, kinds := [], alts := [], laidByText := true, laidKinds := [.data, .data, .data, .data, .data, .data], laidTests := true, laidLooks := .later }
def ExpandOrderUptoCardSaid : Prop := Claim7.holds Tryz.pinned (.plain (OpenSpec.upto expandOrderSpec)) expandOrderUptoCard
end Rows
end Go.Proofs.YtacpcjdiljnlaaaGreatDoor
