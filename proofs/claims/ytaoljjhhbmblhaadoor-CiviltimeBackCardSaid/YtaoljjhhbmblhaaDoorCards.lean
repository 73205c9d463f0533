/-
  DERIVED. GIVEN WITH THE SEED: THE CARDS: each row of YtaoljjhhbmblhaaDoorRows.lean that lists a variable, with what it lists TIED to the program's text (the seventh form; the later family's looks); each row that meets fmt, with fmt's text TOLD by the authors' own Lean function (tested against real Go, not proved from fmt's source: count such statements apart). THE CARD IS WHAT COUNTS. Prove the row's statement (the work); the ties are given (YtaoljjhhbmblhaaDoorTie.lean); close each card by the builder's one call (the guide's Derived/Test/ToyasCard.lean, 'card_holds'). Laid BY PROGRAM, IN A SANDBOX (cutbox-door.mjs). By AI agents, Wed Nov 11 2026. No macro, syntax, notation, axiom, sorry.
-/
import Derived.Test.YtaoljjhhbmblhaaDoorRows
import GoSem.ClaimSeven
namespace Go.Proofs.YtaoljjhhbmblhaaDoor
namespace Rows

/-- THE TIED CARD OF 'analemmalaw09.CiviltimeSecs'. -/
def civiltimeSecsCard : Claim7 := { stood := { row := civiltimeSecsRow, standIns := [], harness := (true, "fa96844c80fdefc08630cf572fd2bb5e724d5ff3532bd94698431ea1efa84f1e"), looks := false }, kinds := [], alts := [], laidByText := true, laidKinds := [.data, .data], laidTests := true, laidLooks := .later }
def CiviltimeSecsCardSaid : Prop := Claim7.holds Tryd.pinned (.plain (OpenSpec.ofChange civiltimeSecsSpec)) civiltimeSecsCard

/-- THE TIED CARD OF 'analemmalaw09.CiviltimeSums'. -/
def civiltimeSumsCard : Claim7 := { stood := { row := civiltimeSumsRow, standIns := [], harness := (true, "fa96844c80fdefc08630cf572fd2bb5e724d5ff3532bd94698431ea1efa84f1e"), looks := false }, kinds := [], alts := [], laidByText := true, laidKinds := [.data, .data], laidTests := true, laidLooks := .later }
def CiviltimeSumsCardSaid : Prop := Claim7.holds Tryd.pinned (.plain (OpenSpec.ofChange civiltimeSumsSpec)) civiltimeSumsCard

/-- THE TIED CARD OF 'analemmalaw09.CiviltimeBack'. -/
def civiltimeBackCard : Claim7 := { stood := { row := civiltimeBackRow, standIns := [], harness := (true, "fa96844c80fdefc08630cf572fd2bb5e724d5ff3532bd94698431ea1efa84f1e"), looks := false }, kinds := [], alts := [], laidByText := true, laidKinds := [.data, .data], laidTests := true, laidLooks := .later }
def CiviltimeBackCardSaid : Prop := Claim7.holds Tryd.pinned (.plain (OpenSpec.ofChange civiltimeBackSpec)) civiltimeBackCard

/-- THE TIED CARD OF 'analemmalaw09.CiviltimeWays'. -/
def civiltimeWaysCard : Claim7 := { stood := { row := civiltimeWaysRow, standIns := [], harness := (true, "fa96844c80fdefc08630cf572fd2bb5e724d5ff3532bd94698431ea1efa84f1e"), looks := false }, kinds := [], alts := [], laidByText := true, laidKinds := [.data, .data], laidTests := true, laidLooks := .later }
def CiviltimeWaysCardSaid : Prop := Claim7.holds Tryd.pinned (.plain (OpenSpec.ofChange civiltimeWaysSpec)) civiltimeWaysCard

/-- THE SECOND FORM's CARD OF 'analemmalaw09.CiviltimeSecs'. -/
def civiltimeSecsUptoCard : Claim7 := { stood := { row := civiltimeSecsUptoRow, standIns := [], harness := (true, "fa96844c80fdefc08630cf572fd2bb5e724d5ff3532bd94698431ea1efa84f1e"), looks := false }, kinds := [], alts := [], laidByText := true, laidKinds := [.data, .data], laidTests := true, laidLooks := .later }
def CiviltimeSecsUptoCardSaid : Prop := Claim7.holds Tryd.pinned (.plain (OpenSpec.upto civiltimeSecsSpec)) civiltimeSecsUptoCard

/-- THE SECOND FORM's CARD OF 'analemmalaw09.CiviltimeSums'. -/
def civiltimeSumsUptoCard : Claim7 := { stood := { row := civiltimeSumsUptoRow, standIns := [], harness := (true, "fa96844c80fdefc08630cf572fd2bb5e724d5ff3532bd94698431ea1efa84f1e"), looks := false }, kinds := [], alts := [], laidByText := true, laidKinds := [.data, .data], laidTests := true, laidLooks := .later }
def CiviltimeSumsUptoCardSaid : Prop := Claim7.holds Tryd.pinned (.plain (OpenSpec.upto civiltimeSumsSpec)) civiltimeSumsUptoCard

/-- THE SECOND FORM's CARD OF 'analemmalaw09.CiviltimeBack'. -/
def civiltimeBackUptoCard : Claim7 := { stood := { row := civiltimeBackUptoRow, standIns := [], harness := (true, "fa96844c80fdefc08630cf572fd2bb5e724d5ff3532bd94698431ea1efa84f1e"), looks := false }, kinds := [], alts := [], laidByText := true, laidKinds := [.data, .data], laidTests := true, laidLooks := .later }
def CiviltimeBackUptoCardSaid : Prop := Claim7.holds Tryd.pinned (.plain (OpenSpec.upto civiltimeBackSpec)) civiltimeBackUptoCard

/-- THE SECOND FORM's CARD OF 'analemmalaw09.CiviltimeWays'. -/
def civiltimeWaysUptoCard : Claim7 := { stood := { row := civiltimeWaysUptoRow, standIns := [], harness := (true, "fa96844c80fdefc08630cf572fd2bb5e724d5ff3532bd94698431ea1efa84f1e"), looks := false }, kinds := [], alts := [], laidByText := true, laidKinds := [.data, .data], laidTests := true, laidLooks := .later }
def CiviltimeWaysUptoCardSaid : Prop := Claim7.holds Tryd.pinned (.plain (OpenSpec.upto civiltimeWaysSpec)) civiltimeWaysUptoCard
end Rows
end Go.Proofs.YtaoljjhhbmblhaaDoor
