/- Two structs that are the same, compared: one operation of a plan. -/
import Derived.Test.YtpkbcnofieinaaaDoorLotP
import Derived.Test.YtpkbcnofieinaaaDoorRefF
namespace Go.Proofs.YtpkbcnofieinaaaDoor
open Go Go.ChangeShapes Go.WideShapes Go.ChangeAt Go.RowKit
set_option linter.unusedVariables false

theorem eql_dur {o : Oper} {e : Operand → Value} {A B : Operand} {x y : Int} (ho : o.op = .binOp .eql 42 A B 42)
    (h1 : e A = .agg #[.int .i64 x, .int .i64 y]) (h2 : e B = .agg #[.int .i64 x, .int .i64 y]) (w : World) :
    (execOp e o).run Tryd.prog w = .ok (.value (.bool true)) w := by
  have h : (execOp e { o with op := .binOp .eql 42 A B 42 }).run Tryd.prog w = .ok (.value (.bool true)) w := by
    go_simp
  rw [← ho] at h
  exact h
theorem neq_dur {o : Oper} {e : Operand → Value} {A B : Operand} {x y : Int} (ho : o.op = .binOp .neq 42 A B 42)
    (h1 : e A = .agg #[.int .i64 x, .int .i64 y]) (h2 : e B = .agg #[.int .i64 x, .int .i64 y]) (w : World) :
    (execOp e o).run Tryd.prog w = .ok (.value (.bool false)) w := by
  have h : (execOp e { o with op := .binOp .neq 42 A B 42 }).run Tryd.prog w = .ok (.value (.bool false)) w := by
    go_simp
  rw [← ho] at h
  exact h
end Go.Proofs.YtpkbcnofieinaaaDoor
