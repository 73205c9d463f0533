/- Several texts in one: RefF. -/
import Derived.Test.YthanlgdbnhcilaaZPkg1
import Derived.WalkKit
import Derived.ProofKit
import Derived.OpenShut
import Derived.Handy
import Derived.Outline
import Derived.Lib.Hide
import Derived.Deep.RegionHeld3
import Derived.Test.YthanlgdbnhcilaaRows
import Derived.Laws.Rows
import Derived.Deep.WholeRow
namespace Go.Proofs.Ythanlgdbnhcilaa
set_option linter.unusedVariables false
open Go.ChangeShapes Go.WideShapes Go.ChangeAt Go.RowKit
def neg (h : Nat) : Bool := decide (9223372036854775808 ≤ h)
end Go.Proofs.Ythanlgdbnhcilaa
