/- Contracts of package checked's sums, and of the plain answers of layer 2. -/
import Derived.Test.YtlpbkdihjpceoaaZCalls
import Derived.Test.YtlpbkdihjpceoaaLawBack
namespace Go.Proofs.Ytlpbkdihjpceoaa
set_option linter.unusedVariables false
open Go.ChangeShapes Go.WideShapes Go.ChangeAt Go.RowKit

theorem row_other {w : World} {b k : Nat} {o : Option Obj} (hne : b ≠ k) (h : w.heap[b]? = o) (p q : Value) : ((w.setCell ⟨k, 0, none⟩ p).setCell ⟨k, 1, none⟩ q).heap[b]? = o := by
  rw [Below.heap_setCell _ _ _ _ (by show b ≠ k; exact hne), Below.heap_setCell _ _ _ _ (by show b ≠ k; exact hne)]; exact h
end Go.Proofs.Ytlpbkdihjpceoaa
