/- Contract of the plain answer's Parse, its first cases. -/
import Derived.Test.YtlpbkdihjpceoaaTextFacts
import Derived.Test.YtlpbkdihjpceoaaRefN
import Derived.Test.YtlpbkdihjpceoaaRefG
namespace Go.Proofs.Ytlpbkdihjpceoaa
set_option linter.unusedVariables false
open Go.ChangeShapes Go.WideShapes Go.ChangeAt Go.RowKit

theorem refParse_long (s : ByteArray) (hs : 64 < s.size) (w : World) :
    Calls Try.prog 11 #[.string s] w fun e w' => e = .returned (.tuple #[.agg #[.int .u64 (hi (pNum s.data.toList)), .int .u64 (lo (pNum s.data.toList))], .int .i64 (pErr s.data.toList)]) ∧ Below w.heap.size w w' := by
  have E1 : Hid (pErr s.data.toList = 1) := by show _ = _; unfold pErr; rw [if_pos (by rw [← Lib.size_eq]; exact hs)]
  have E2 : Hid (pNum s.data.toList = 0) := by show _ = _; unfold pNum; rw [if_neg (by rw [E1.out]; decide)]
  go_enter Try.func11, Try.ntmps11
  go_wp2
  refine bodyPost_ret (v := .tuple #[.agg #[.int .u64 0, .int .u64 0], .int .i64 1]) (by simp [results, Try.results11, go_sem]) rfl ⟨by rw [E1.out, E2.out, hi_zero, lo_zero]; rfl, ?_⟩
  go_grown
end Go.Proofs.Ytlpbkdihjpceoaa
