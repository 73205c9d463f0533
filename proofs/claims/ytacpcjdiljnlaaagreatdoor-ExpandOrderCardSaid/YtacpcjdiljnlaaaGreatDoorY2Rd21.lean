/- Several texts in one: Rd2. -/
import Derived.Test.YtacpcjdiljnlaaaGreatDoorY2Lex1
import Derived.Test.YtacpcjdiljnlaaaGreatDoorY2Kx1
namespace Go.Proofs.YtacpcjdiljnlaaaGreatDoor
set_option linter.unusedVariables false
open Go.ChangeShapes Go.WideShapes Go.ChangeAt Go.RowKit
theorem rd2_keep {w w' : World} {A B : Option Addr} {xs ys : List Value} (h : Hid (KX w ∧ Rd w A xs ∧ Rd w B ys)) (hb : Below w.heap.size w w') : KX w' ∧ Rd w' A xs ∧ Rd w' B ys := ⟨kx_keep (Lib.hid h.out.1) hb, h.out.2.1.below hb (Nat.le_refl _), h.out.2.2.below hb (Nat.le_refl _)⟩
end Go.Proofs.YtacpcjdiljnlaaaGreatDoor
