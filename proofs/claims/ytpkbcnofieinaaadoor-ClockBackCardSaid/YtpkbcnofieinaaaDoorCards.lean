/-
  DERIVED. GIVEN WITH THE SEED: THE CARDS: each row of YtpkbcnofieinaaaDoorRows.lean that lists a variable, with what it lists TIED to the program's text (the seventh form; the later family's looks); each row that meets fmt, with fmt's text TOLD by the authors' own Lean function (tested against real Go, not proved from fmt's source: count such statements apart). THE CARD IS WHAT COUNTS. Prove the row's statement (the work); the ties are given (YtpkbcnofieinaaaDoorTie.lean); close each card by the builder's one call (the guide's Derived/Test/ToyasCard.lean, 'card_holds'). Laid BY PROGRAM, IN A SANDBOX (cutbox-door.mjs). By AI agents, Wed Nov 11 2026. No macro, syntax, notation, axiom, sorry.
-/
import Derived.Test.YtpkbcnofieinaaaDoorRows
import GoSem.ClaimSeven
namespace Go.Proofs.YtpkbcnofieinaaaDoor
namespace Rows

/-- THE TIED CARD OF 'analemmalaw08.ClockNanos'. -/
def clockNanosCard : Claim7 := { stood := { row := clockNanosRow, standIns := [], harness := (true, "e06d1f3c92c53cc9cbab454c53d19c04d84c1751117136a606e9c2647150be8c"), looks := false }, kinds := [], alts := [], laidByText := true, laidKinds := [.data], laidTests := true, laidLooks := .later }
def ClockNanosCardSaid : Prop := Claim7.holds Tryd.pinned (.plain (OpenSpec.ofChange clockNanosSpec)) clockNanosCard

/-- THE TIED CARD OF 'analemmalaw08.ClockAdds'. -/
def clockAddsCard : Claim7 := { stood := { row := clockAddsRow, standIns := [], harness := (true, "e06d1f3c92c53cc9cbab454c53d19c04d84c1751117136a606e9c2647150be8c"), looks := false }, kinds := [], alts := [], laidByText := true, laidKinds := [.data], laidTests := true, laidLooks := .later }
def ClockAddsCardSaid : Prop := Claim7.holds Tryd.pinned (.plain (OpenSpec.ofChange clockAddsSpec)) clockAddsCard

/-- THE TIED CARD OF 'analemmalaw08.ClockBack'. -/
def clockBackCard : Claim7 := { stood := { row := clockBackRow, standIns := [], harness := (true, "e06d1f3c92c53cc9cbab454c53d19c04d84c1751117136a606e9c2647150be8c"), looks := false }, kinds := [], alts := [], laidByText := true, laidKinds := [.data], laidTests := true, laidLooks := .later }
def ClockBackCardSaid : Prop := Claim7.holds Tryd.pinned (.plain (OpenSpec.ofChange clockBackSpec)) clockBackCard

/-- THE TIED CARD OF 'analemmalaw08.ClockDays'. -/
def clockDaysCard : Claim7 := { stood := { row := clockDaysRow, standIns := [], harness := (true, "e06d1f3c92c53cc9cbab454c53d19c04d84c1751117136a606e9c2647150be8c"), looks := false }, kinds := [], alts := [], laidByText := true, laidKinds := [.data], laidTests := true, laidLooks := .later }
def ClockDaysCardSaid : Prop := Claim7.holds Tryd.pinned (.plain (OpenSpec.ofChange clockDaysSpec)) clockDaysCard

/-- THE TIED CARD OF 'analemmalaw08.ClockHalves'. -/
def clockHalvesCard : Claim7 := { stood := { row := clockHalvesRow, standIns := [], harness := (true, "e06d1f3c92c53cc9cbab454c53d19c04d84c1751117136a606e9c2647150be8c"), looks := false }, kinds := [], alts := [], laidByText := true, laidKinds := [.data], laidTests := true, laidLooks := .later }
def ClockHalvesCardSaid : Prop := Claim7.holds Tryd.pinned (.plain (OpenSpec.ofChange clockHalvesSpec)) clockHalvesCard

/-- THE SECOND FORM's CARD OF 'analemmalaw08.ClockNanos'. -/
def clockNanosUptoCard : Claim7 := { stood := { row := clockNanosUptoRow, standIns := [], harness := (true, "e06d1f3c92c53cc9cbab454c53d19c04d84c1751117136a606e9c2647150be8c"), looks := false }, kinds := [], alts := [], laidByText := true, laidKinds := [.data], laidTests := true, laidLooks := .later }
def ClockNanosUptoCardSaid : Prop := Claim7.holds Tryd.pinned (.plain (OpenSpec.upto clockNanosSpec)) clockNanosUptoCard

/-- THE SECOND FORM's CARD OF 'analemmalaw08.ClockAdds'. -/
def clockAddsUptoCard : Claim7 := { stood := { row := clockAddsUptoRow, standIns := [], harness := (true, "e06d1f3c92c53cc9cbab454c53d19c04d84c1751117136a606e9c2647150be8c"), looks := false }, kinds := [], alts := [], laidByText := true, laidKinds := [.data], laidTests := true, laidLooks := .later }
def ClockAddsUptoCardSaid : Prop := Claim7.holds Tryd.pinned (.plain (OpenSpec.upto clockAddsSpec)) clockAddsUptoCard

/-- THE SECOND FORM's CARD OF 'analemmalaw08.ClockBack'. -/
def clockBackUptoCard : Claim7 := { stood := { row := clockBackUptoRow, standIns := [], harness := (true, "e06d1f3c92c53cc9cbab454c53d19c04d84c1751117136a606e9c2647150be8c"), looks := false }, kinds := [], alts := [], laidByText := true, laidKinds := [.data], laidTests := true, laidLooks := .later }
def ClockBackUptoCardSaid : Prop := Claim7.holds Tryd.pinned (.plain (OpenSpec.upto clockBackSpec)) clockBackUptoCard

/-- THE SECOND FORM's CARD OF 'analemmalaw08.ClockDays'. -/
def clockDaysUptoCard : Claim7 := { stood := { row := clockDaysUptoRow, standIns := [], harness := (true, "e06d1f3c92c53cc9cbab454c53d19c04d84c1751117136a606e9c2647150be8c"), looks := false }, kinds := [], alts := [], laidByText := true, laidKinds := [.data], laidTests := true, laidLooks := .later }
def ClockDaysUptoCardSaid : Prop := Claim7.holds Tryd.pinned (.plain (OpenSpec.upto clockDaysSpec)) clockDaysUptoCard

/-- THE SECOND FORM's CARD OF 'analemmalaw08.ClockHalves'. -/
def clockHalvesUptoCard : Claim7 := { stood := { row := clockHalvesUptoRow, standIns := [], harness := (true, "e06d1f3c92c53cc9cbab454c53d19c04d84c1751117136a606e9c2647150be8c"), looks := false }, kinds := [], alts := [], laidByText := true, laidKinds := [.data], laidTests := true, laidLooks := .later }
def ClockHalvesUptoCardSaid : Prop := Claim7.holds Tryd.pinned (.plain (OpenSpec.upto clockHalvesSpec)) clockHalvesUptoCard
end Rows
end Go.Proofs.YtpkbcnofieinaaaDoor
