/-
  DERIVED. GIVEN WITH THE SEED: THE CARDS: each row of YtacepnmagdpecaaDoorRows.lean that lists a variable, with what it lists TIED to the program's text (the seventh form; the later family's looks); each row that meets fmt, with fmt's text TOLD by the authors' own Lean function (tested against real Go, not proved from fmt's source: count such statements apart). THE CARD IS WHAT COUNTS. Prove the row's statement (the work); the ties are given (YtacepnmagdpecaaDoorTie.lean); close each card by the builder's one call (the guide's Derived/Test/ToyasCard.lean, 'card_holds'). Laid BY PROGRAM, IN A SANDBOX (cutbox-door.mjs). By AI agents, Wed Nov 11 2026. No macro, syntax, notation, axiom, sorry.
-/
import Derived.Test.YtacepnmagdpecaaDoorRows
import GoSem.ClaimSeven
namespace Go.Proofs.YtacepnmagdpecaaDoor
namespace Rows

/-- THE TIED CARD OF 'analemmalaw11.MonthsAdds'. -/
def monthsAddsCard : Claim7 := { stood := { row := monthsAddsRow, standIns := [], harness := (true, "a2acba0f343ca32bc500d7d4fb478cd9250311a46e0d1ea13abd165517f5cca0"), looks := false }, kinds := [], alts := [], laidByText := true, laidKinds := [.data], laidTests := true, laidLooks := .later }
def MonthsAddsCardSaid : Prop := Claim7.holds Tryd.pinned (.plain (OpenSpec.ofChange monthsAddsSpec)) monthsAddsCard

/-- THE TIED CARD OF 'analemmalaw11.MonthsLasts'. -/
def monthsLastsCard : Claim7 := { stood := { row := monthsLastsRow, standIns := [], harness := (true, "a2acba0f343ca32bc500d7d4fb478cd9250311a46e0d1ea13abd165517f5cca0"), looks := false }, kinds := [], alts := [], laidByText := true, laidKinds := [.data], laidTests := true, laidLooks := .later }
def MonthsLastsCardSaid : Prop := Claim7.holds Tryd.pinned (.plain (OpenSpec.ofChange monthsLastsSpec)) monthsLastsCard

/-- THE TIED CARD OF 'analemmalaw11.MonthsBack'. -/
def monthsBackCard : Claim7 := { stood := { row := monthsBackRow, standIns := [], harness := (true, "a2acba0f343ca32bc500d7d4fb478cd9250311a46e0d1ea13abd165517f5cca0"), looks := false }, kinds := [], alts := [], laidByText := true, laidKinds := [.data], laidTests := true, laidLooks := .later }
def MonthsBackCardSaid : Prop := Claim7.holds Tryd.pinned (.plain (OpenSpec.ofChange monthsBackSpec)) monthsBackCard

/-- THE TIED CARD OF 'analemmalaw11.MonthsClamped'. -/
def monthsClampedCard : Claim7 := { stood := { row := monthsClampedRow, standIns := [], harness := (true, "a2acba0f343ca32bc500d7d4fb478cd9250311a46e0d1ea13abd165517f5cca0"), looks := false }, kinds := [], alts := [], laidByText := true, laidKinds := [.data], laidTests := true, laidLooks := .later }
def MonthsClampedCardSaid : Prop := Claim7.holds Tryd.pinned (.plain (OpenSpec.ofChange monthsClampedSpec)) monthsClampedCard

/-- THE SECOND FORM's CARD OF 'analemmalaw11.MonthsAdds'. -/
def monthsAddsUptoCard : Claim7 := { stood := { row := monthsAddsUptoRow, standIns := [], harness := (true, "a2acba0f343ca32bc500d7d4fb478cd9250311a46e0d1ea13abd165517f5cca0"), looks := false }, kinds := [], alts := [], laidByText := true, laidKinds := [.data], laidTests := true, laidLooks := .later }
def MonthsAddsUptoCardSaid : Prop := Claim7.holds Tryd.pinned (.plain (OpenSpec.upto monthsAddsSpec)) monthsAddsUptoCard

/-- THE SECOND FORM's CARD OF 'analemmalaw11.MonthsLasts'. -/
def monthsLastsUptoCard : Claim7 := { stood := { row := monthsLastsUptoRow, standIns := [], harness := (true, "a2acba0f343ca32bc500d7d4fb478cd9250311a46e0d1ea13abd165517f5cca0"), looks := false }, kinds := [], alts := [], laidByText := true, laidKinds := [.data], laidTests := true, laidLooks := .later }
def MonthsLastsUptoCardSaid : Prop := Claim7.holds Tryd.pinned (.plain (OpenSpec.upto monthsLastsSpec)) monthsLastsUptoCard

/-- THE SECOND FORM's CARD OF 'analemmalaw11.MonthsBack'. -/
def monthsBackUptoCard : Claim7 := { stood := { row := monthsBackUptoRow, standIns := [], harness := (true, "a2acba0f343ca32bc500d7d4fb478cd9250311a46e0d1ea13abd165517f5cca0"), looks := false }, kinds := [], alts := [], laidByText := true, laidKinds := [.data], laidTests := true, laidLooks := .later }
def MonthsBackUptoCardSaid : Prop := Claim7.holds Tryd.pinned (.plain (OpenSpec.upto monthsBackSpec)) monthsBackUptoCard

/-- THE SECOND FORM's CARD OF 'analemmalaw11.MonthsClamped'. -/
def monthsClampedUptoCard : Claim7 := { stood := { row := monthsClampedUptoRow, standIns := [], harness := (true, "a2acba0f343ca32bc500d7d4fb478cd9250311a46e0d1ea13abd165517f5cca0"), looks := false }, kinds := [], alts := [], laidByText := true, laidKinds := [.data], laidTests := true, laidLooks := .later }
def MonthsClampedUptoCardSaid : Prop := Claim7.holds Tryd.pinned (.plain (OpenSpec.upto monthsClampedSpec)) monthsClampedUptoCard
end Rows
end Go.Proofs.YtacepnmagdpecaaDoor
