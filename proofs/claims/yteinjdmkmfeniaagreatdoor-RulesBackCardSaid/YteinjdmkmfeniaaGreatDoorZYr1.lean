/- Several texts in one: YrA. -/
import Derived.Test.YteinjdmkmfeniaaGreatDoorZRowS1
import Derived.Test.YteinjdmkmfeniaaGreatDoorZCiv1
namespace Go.Proofs.YteinjdmkmfeniaaGreatDoor
set_option linter.unusedVariables false
set_option linter.unusedSimpArgs false
open Go.ChangeShapes Go.WideShapes Go.ChangeAt Go.RowKit
def okW (w : Int) : Bool := decide (1 ≤ w) && decide (w ≤ 7)
def okN (n : Int) : Bool := decide (1 ≤ n) && decide (n ≤ 31)
@[irreducible] def mayD (k n w : Int) : Bool := if k = 0 then okN n && decide (w = 0) else if k = 1 then okW w && decide (n = 0) else if k = 2 ∨ k = 3 then okW w && okN n else false
end Go.Proofs.YteinjdmkmfeniaaGreatDoor
