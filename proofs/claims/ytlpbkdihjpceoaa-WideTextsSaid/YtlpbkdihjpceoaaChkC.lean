/- Contracts of package checked's division. -/
import Derived.Test.YtlpbkdihjpceoaaChkB
namespace Go.Proofs.Ytlpbkdihjpceoaa
set_option linter.unusedVariables false
set_option linter.unusedSimpArgs false
open Go.ChangeShapes Go.WideShapes Go.ChangeAt Go.RowKit

/-- the quotient, rounded down; the rest. -/
def fq (n c : Int) : Int := if 0 < c then n / c else (-n) / (-c)
def fr (n c : Int) : Int := n - c * fq n c

def sg (c : Int) (r : Nat) : Int := if c < 0 then -(r : Int) else (r : Int)
theorem sg_neg {c : Int} {r : Nat} (h : c < 0) : sg c r = -(r : Int) := if_pos h
theorem sg_pos {c : Int} {r : Nat} (h : ¬ c < 0) : sg c r = (r : Int) := if_neg h
theorem wneg (r : Nat) (h : r < 9223372036854775808) : wrap64 (-wrap64 (r : Int)) = -(r : Int) := by unfold wrap64; omega
theorem wpos (r : Nat) (h : r < 9223372036854775808) : wrap64 (r : Int) = (r : Int) := by unfold wrap64; omega
end Go.Proofs.Ytlpbkdihjpceoaa
