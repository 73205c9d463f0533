/-
  DERIVED. GIVEN WITH THE SEED: THE CARDS: each row of YtafecnlaodgmkaaGreatDoorRows.lean that lists a variable, with what it lists TIED to the program's text (the seventh form; the later family's looks); each row that meets fmt, with fmt's text TOLD by the authors' own Lean function (tested against real Go, not proved from fmt's source: count such statements apart). THE CARD IS WHAT COUNTS. Prove the row's statement (the work); the ties are given (YtafecnlaodgmkaaGreatDoorTie.lean); close each card by the builder's one call (the guide's Derived/Test/ToyasCard.lean, 'card_holds'). Laid BY PROGRAM, IN A SANDBOX (cutbox-door.mjs). By AI agents, Wed Nov 11 2026. No macro, syntax, notation, axiom, sorry.
-/
import Derived.Test.YtafecnlaodgmkaaGreatDoorRows
import GoSem.ClaimSeven
namespace Go.Proofs.YtafecnlaodgmkaaGreatDoor
namespace Rows

/-- THE TIED CARD OF 'analemmalaw18.CrowdMost'. -/
def crowdMostCard : Claim7 := { stood := { row := crowdMostRow, standIns := [], harness := (true, "42a6de088e15493547a0d754fdbb1ab94ff8c70c91bd78a179b0b2b77bd4355b"), looks := false }, kinds := [], alts := [], laidByText := true, laidKinds := [.data, .data, .data, .data, .data, .data], laidTests := true, laidLooks := .later }
def CrowdMostCardSaid : Prop := Claim7.holds Tryz.pinned (.plain (OpenSpec.ofChange crowdMostSpec)) crowdMostCard

/-- THE TIED CARD OF 'analemmalaw18.CrowdZones'. -/
def crowdZonesCard : Claim7 := { stood := { row := crowdZonesRow, standIns := [], harness := (true, "42a6de088e15493547a0d754fdbb1ab94ff8c70c91bd78a179b0b2b77bd4355b"), looks := false }, kinds := [], alts := [], laidByText := true, laidKinds := [.data, .data, .data, .data, .data, .data], laidTests := true, laidLooks := .later }
def CrowdZonesCardSaid : Prop := Claim7.holds Tryz.pinned (.plain (OpenSpec.ofChange crowdZonesSpec)) crowdZonesCard

/-- THE TIED CARD OF 'analemmalaw18.CrowdAts'. -/
def crowdAtsCard : Claim7 := { stood := { row := crowdAtsRow, standIns := [], harness := (true, "42a6de088e15493547a0d754fdbb1ab94ff8c70c91bd78a179b0b2b77bd4355b"), looks := false }, kinds := [], alts := [], laidByText := true, laidKinds := [.data, .data, .data, .data, .data, .data], laidTests := true, laidLooks := .later }
def CrowdAtsCardSaid : Prop := Claim7.holds Tryz.pinned (.plain (OpenSpec.ofChange crowdAtsSpec)) crowdAtsCard

/-- THE TIED CARD OF 'analemmalaw18.CrowdOrder'. -/
def crowdOrderCard : Claim7 := { stood := { row := crowdOrderRow, standIns := [], harness := (true, "42a6de088e15493547a0d754fdbb1ab94ff8c70c91bd78a179b0b2b77bd4355b"), looks := false }, kinds := [], alts := [], laidByText := true, laidKinds := [.data, .data, .data, .data, .data, .data], laidTests := true, laidLooks := .later }
def CrowdOrderCardSaid : Prop := Claim7.holds Tryz.pinned (.plain (OpenSpec.ofChange crowdOrderSpec)) crowdOrderCard

/-- THE SECOND FORM's CARD OF 'analemmalaw18.CrowdMost'. -/
def crowdMostUptoCard : Claim7 := { stood := { row := crowdMostUptoRow, standIns := [], harness := (true, "42a6de088e15493547a0d754fdbb1ab94ff8c70c91bd78a179b0b2b77bd4355b"), looks := false }, kinds := [], alts := [], laidByText := true, laidKinds := [.data, .data, .data, .data, .data, .data], laidTests := true, laidLooks := .later }
def CrowdMostUptoCardSaid : Prop := Claim7.holds Tryz.pinned (.plain (OpenSpec.upto crowdMostSpec)) crowdMostUptoCard

/-- THE SECOND FORM's CARD OF 'analemmalaw18.CrowdZones'. -/
def crowdZonesUptoCard : Claim7 := { stood := { row := crowdZonesUptoRow, standIns := [], harness := (true, "42a6de088e15493547a0d754fdbb1ab94ff8c70c91bd78a179b0b2b77bd4355b"), looks := false }, kinds := [], alts := [], laidByText := true, laidKinds := [.data, .data, .data, .data, .data, .data], laidTests := true, laidLooks := .later }
def CrowdZonesUptoCardSaid : Prop := Claim7.holds Tryz.pinned (.plain (OpenSpec.upto crowdZonesSpec)) crowdZonesUptoCard

/-- THE SECOND FORM's CARD OF 'analemmalaw18.CrowdAts'. -/
def crowdAtsUptoCard : Claim7 := { stood := { row := crowdAtsUptoRow, standIns := [], harness := (true, "42a6de088e15493547a0d754fdbb1ab94ff8c70c91bd78a179b0b2b77bd4355b"), looks := false }, kinds := [], alts := [], laidByText := true, laidKinds := [.data, .data, .data, .data, .data, .data], laidTests := true, laidLooks := .later }
def CrowdAtsUptoCardSaid : Prop := Claim7.holds Tryz.pinned (.plain (OpenSpec.upto crowdAtsSpec)) crowdAtsUptoCard

/-- THE SECOND FORM's CARD OF 'analemmalaw18.CrowdOrder'. -/
def crowdOrderUptoCard : Claim7 := { stood := { row := crowdOrderUptoRow, standIns := [], harness := (true, "42a6de088e15493547a0d754fdbb1ab94ff8c70c91bd78a179b0b2b77bd4355b"), looks := false }, kinds := [], alts := [], laidByText := true, laidKinds := [.data, .data, .data, .data, .data, .data], laidTests := true, laidLooks := .later }
def CrowdOrderUptoCardSaid : Prop := Claim7.holds Tryz.pinned (.plain (OpenSpec.upto crowdOrderSpec)) crowdOrderUptoCard
end Rows
end Go.Proofs.YtafecnlaodgmkaaGreatDoor
