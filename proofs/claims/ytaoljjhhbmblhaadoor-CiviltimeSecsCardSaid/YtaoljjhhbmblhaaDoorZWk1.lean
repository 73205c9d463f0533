/- Several texts in one: WkA. -/
import Derived.Test.YtaoljjhhbmblhaaDoorZCiv1
namespace Go.Proofs.YtaoljjhhbmblhaaDoor
set_option linter.unusedVariables false
set_option linter.unusedSimpArgs false
open Go.ChangeShapes Go.WideShapes Go.ChangeAt Go.RowKit
def IsDate (n Y M D E : Int) : Prop :=
  ((n < -4371587 ∨ 2932896 < n) ∧ Y = 0 ∧ M = 0 ∧ D = 0 ∧ E = 8) ∨ (mayB Y M D = true ∧ -9999 ≤ Y ∧ Y ≤ 9999 ∧ dnI Y M D = n ∧ E = 0)
end Go.Proofs.YtaoljjhhbmblhaaDoor
