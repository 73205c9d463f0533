/- The walk of the law WideInts. -/
import Derived.Test.YtlpbkdihjpceoaaAwake
import Derived.Test.YtlpbkdihjpceoaaPkgA
namespace Go.Proofs.Ytlpbkdihjpceoaa
set_option linter.unusedVariables false
open Go.ChangeShapes Go.WideShapes Go.ChangeAt Go.RowKit

theorem u64_nat {a : Int} (w : (Lit.int .u64 a).wf = true) : ∃ n : Nat, a = (n : Int) ∧ U n := by
  have h := bounds_u64 w
  exact ⟨a.toNat, by omega, by unfold U; omega⟩
theorem int_bd {a : Int} (w : (Lit.int .i64 a).wf = true) : -9223372036854775808 ≤ a ∧ a < 9223372036854775808 := by
  have h := bounds_i64 w
  omega
theorem sgn_of (n : Int) (b : -9223372036854775808 ≤ n ∧ n < 9223372036854775808) : sgn (ofL n) = n := by unfold sgn ofL; rw [IntKind.wrap_i64]; omega
theorem intOk_of (n : Int) (b : -9223372036854775808 ≤ n ∧ n < 9223372036854775808) : intOk (ofH n) (ofL n) = true := by unfold intOk; rw [sgn_of n b]; simp

end Go.Proofs.Ytlpbkdihjpceoaa
