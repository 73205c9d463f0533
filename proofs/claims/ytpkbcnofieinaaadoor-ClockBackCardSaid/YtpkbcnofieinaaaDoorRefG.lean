/- Contracts of the plain answers of layer 1: the negative, as an int, the signed order. -/
import Derived.Test.YtpkbcnofieinaaaDoorRefE
import Derived.Test.YtpkbcnofieinaaaDoorRefF
import Derived.WalkKit
import Derived.ProofKit
import Derived.OpenShut
import Derived.Handy
import Derived.Outline
import Derived.Lib.Hide
import Derived.Deep.RegionHeld3
import Derived.Test.YtpkbcnofieinaaaDoorLotP
namespace Go.Proofs.YtpkbcnofieinaaaDoor
set_option linter.unusedVariables false
open Go.ChangeShapes Go.WideShapes Go.ChangeAt Go.RowKit

def sgn (l : Nat) : Int := IntKind.i64.wrap l
def intOk (h l : Nat) : Bool := ofH (sgn l) == h
end Go.Proofs.YtpkbcnofieinaaaDoor
