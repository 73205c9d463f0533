/- Contract of the plain answer's Parse, whole. -/
import Derived.Test.YtlpbkdihjpceoaaRefT
import Derived.Test.YtlpbkdihjpceoaaRefU
namespace Go.Proofs.Ytlpbkdihjpceoaa
set_option linter.unusedVariables false
set_option linter.unusedSimpArgs false
open Go.ChangeShapes Go.WideShapes Go.ChangeAt Go.RowKit

theorem refParse_any (s : ByteArray) (w : World) :
    Calls Try.prog 11 #[.string s] w fun e w' => e = .returned (.tuple #[.agg #[.int .u64 (hi (pNum s.data.toList)), .int .u64 (lo (pNum s.data.toList))], .int .i64 (pErr s.data.toList)]) ∧ Below w.heap.size w w' := by
  by_cases h1 : 64 < s.size
  · exact refParse_long s h1 w
  · by_cases h2 : badForm s.data.toList = false ∧ (body s.data.toList).length ≤ 39
    · exact refParse_good s (by omega) h2.1 h2.2 w
    · exact refParse_bad s (by omega) h2 w
end Go.Proofs.Ytlpbkdihjpceoaa
