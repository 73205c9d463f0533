/- The walk of the law WideMuls. -/
import Derived.Test.YtlpbkdihjpceoaaLawInts
import Derived.Test.YtlpbkdihjpceoaaPkgD
import Derived.Test.YtlpbkdihjpceoaaRefN
namespace Go.Proofs.Ytlpbkdihjpceoaa
set_option linter.unusedVariables false
open Go.ChangeShapes Go.WideShapes Go.ChangeAt Go.RowKit

/-- what both Divs answer. -/
structure DivR (h l b : Nat) where
  q1 : Nat
  q2 : Nat
  r : Nat
  e : Int
theorem div_both (h l b : Nat) (u : U h) (v : U l) (ub : U b) : ∃ (q1 q2 r : Nat) (e : Int),
    (∀ w, Calls Try.prog 31 #[.agg #[.int .u64 h, .int .u64 l], .int .u64 b] w fun x w' => x = .returned (.tuple #[.agg #[.int .u64 q1, .int .u64 q2], .int .u64 r, .int .i64 e]) ∧ Below w.heap.size w w') ∧
    (∀ w, Calls Try.prog 65 #[.agg #[.int .u64 h, .int .u64 l], .int .u64 b] w fun x w' => x = .returned (.tuple #[.agg #[.int .u64 q1, .int .u64 q2], .int .u64 r, .int .i64 e]) ∧ Below w.heap.size w w') := by
  by_cases hb : 0 < b
  · exact ⟨_, _, _, _, fun w => div_any h l b u v ub hb w, fun w => refDiv_any h l b u v ub hb w⟩
  · obtain rfl : b = 0 := by omega
    exact ⟨0, 0, 0, 5, fun w => div_zero h l w, fun w => refDiv_zero h l w⟩

end Go.Proofs.Ytlpbkdihjpceoaa
