/- Two numbers that are the same, compared: one operation of a plan. -/
import Derived.Test.YtkmhebfahfaokaaPlan
import Derived.Test.YtkmhebfahfaokaaRefF
namespace Go.Proofs.Ytkmhebfahfaokaa
open Go Go.ChangeShapes Go.WideShapes Go.ChangeAt Go.RowKit
set_option linter.unusedVariables false

theorem eql_wide {o : Oper} {e : Operand → Value} {A B : Operand} {x y : Nat} (ho : o.op = .binOp .eql 24 A B 24)
    (h1 : e A = .agg #[.int .u64 x, .int .u64 y]) (h2 : e B = .agg #[.int .u64 x, .int .u64 y]) (w : World) :
    (execOp e o).run Try.prog w = .ok (.value (.bool true)) w := by
  have h : (execOp e { o with op := .binOp .eql 24 A B 24 }).run Try.prog w = .ok (.value (.bool true)) w := by
    go_simp
  rw [← ho] at h
  exact h
end Go.Proofs.Ytkmhebfahfaokaa
