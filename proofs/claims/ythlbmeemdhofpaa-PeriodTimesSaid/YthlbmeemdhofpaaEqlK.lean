/- Two structs of some ints that are the same, compared: one operation of a plan. -/
import Derived.Test.YthlbmeemdhofpaaLotP
import Derived.Test.YthlbmeemdhofpaaRefF
namespace Go.Proofs.Ythlbmeemdhofpaa
open Go Go.ChangeShapes Go.WideShapes Go.ChangeAt Go.RowKit
set_option linter.unusedVariables false

set_option maxRecDepth 10000 in
theorem eql_period {o : Oper} {e : Operand → Value} {A B : Operand} {x0 x1 x2 : Int} (ho : o.op = .binOp .eql 23 A B 23)
    (h1 : e A = .agg #[.int .i64 x0, .int .i64 x1, .int .i64 x2]) (h2 : e B = .agg #[.int .i64 x0, .int .i64 x1, .int .i64 x2]) (w : World) :
    (execOp e o).run Try.prog w = .ok (.value (.bool true)) w := by
  have h : (execOp e { o with op := .binOp .eql 23 A B 23 }).run Try.prog w = .ok (.value (.bool true)) w := by
    go_simp
  rw [← ho] at h
  exact h
set_option maxRecDepth 10000 in
theorem neq_period {o : Oper} {e : Operand → Value} {A B : Operand} {x0 x1 x2 : Int} (ho : o.op = .binOp .neq 23 A B 23)
    (h1 : e A = .agg #[.int .i64 x0, .int .i64 x1, .int .i64 x2]) (h2 : e B = .agg #[.int .i64 x0, .int .i64 x1, .int .i64 x2]) (w : World) :
    (execOp e o).run Try.prog w = .ok (.value (.bool false)) w := by
  have h : (execOp e { o with op := .binOp .neq 23 A B 23 }).run Try.prog w = .ok (.value (.bool false)) w := by
    go_simp
  rw [← ho] at h
  exact h
end Go.Proofs.Ythlbmeemdhofpaa
