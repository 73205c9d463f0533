/- Contracts of package wide: of an int, as an int, sum, difference, negative. -/
import Derived.Test.YtpkbcnofieinaaaDoorRefG
import Derived.WalkKit
import Derived.ProofKit
import Derived.OpenShut
import Derived.Handy
import Derived.Outline
import Derived.Lib.Hide
import Derived.Deep.RegionHeld3
import Derived.Shelf.Spec.BitsCarry
import Derived.Test.YtpkbcnofieinaaaDoorLotP
namespace Go.Proofs.YtpkbcnofieinaaaDoor
set_option linter.unusedVariables false
open Go.ChangeShapes Go.WideShapes Go.ChangeAt Go.RowKit

theorem sgn_bd (l : Nat) : -9223372036854775808 ≤ sgn l ∧ sgn l < 9223372036854775808 := by unfold sgn; rw [IntKind.wrap_i64]; omega
end Go.Proofs.YtpkbcnofieinaaaDoor
