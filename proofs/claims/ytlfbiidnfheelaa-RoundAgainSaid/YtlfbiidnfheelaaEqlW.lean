/- Two structs that are the same, compared: one operation of a plan. -/
import Derived.Test.YtlfbiidnfheelaaLotP
import Derived.Test.YtlfbiidnfheelaaRefF
namespace Go.Proofs.Ytlfbiidnfheelaa
open Go Go.ChangeShapes Go.WideShapes Go.ChangeAt Go.RowKit
set_option linter.unusedVariables false

theorem eql_wide {o : Oper} {e : Operand → Value} {A B : Operand} {x y : Nat} (ho : o.op = .binOp .eql 24 A B 24)
    (h1 : e A = .agg #[.int .u64 x, .int .u64 y]) (h2 : e B = .agg #[.int .u64 x, .int .u64 y]) (w : World) :
    (execOp e o).run Try.prog w = .ok (.value (.bool true)) w := by
  have h : (execOp e { o with op := .binOp .eql 24 A B 24 }).run Try.prog w = .ok (.value (.bool true)) w := by
    go_simp
  rw [← ho] at h
  exact h
theorem eql_inst {o : Oper} {e : Operand → Value} {A B : Operand} {x y : Int} (ho : o.op = .binOp .eql 33 A B 33)
    (h1 : e A = .agg #[.int .i64 x, .int .i64 y]) (h2 : e B = .agg #[.int .i64 x, .int .i64 y]) (w : World) :
    (execOp e o).run Try.prog w = .ok (.value (.bool true)) w := by
  have h : (execOp e { o with op := .binOp .eql 33 A B 33 }).run Try.prog w = .ok (.value (.bool true)) w := by
    go_simp
  rw [← ho] at h
  exact h
theorem eql_dur {o : Oper} {e : Operand → Value} {A B : Operand} {x y : Int} (ho : o.op = .binOp .eql 34 A B 34)
    (h1 : e A = .agg #[.int .i64 x, .int .i64 y]) (h2 : e B = .agg #[.int .i64 x, .int .i64 y]) (w : World) :
    (execOp e o).run Try.prog w = .ok (.value (.bool true)) w := by
  have h : (execOp e { o with op := .binOp .eql 34 A B 34 }).run Try.prog w = .ok (.value (.bool true)) w := by
    go_simp
  rw [← ho] at h
  exact h
theorem neq_wide {o : Oper} {e : Operand → Value} {A B : Operand} {x y : Nat} (ho : o.op = .binOp .neq 24 A B 24)
    (h1 : e A = .agg #[.int .u64 x, .int .u64 y]) (h2 : e B = .agg #[.int .u64 x, .int .u64 y]) (w : World) :
    (execOp e o).run Try.prog w = .ok (.value (.bool false)) w := by
  have h : (execOp e { o with op := .binOp .neq 24 A B 24 }).run Try.prog w = .ok (.value (.bool false)) w := by
    go_simp
  rw [← ho] at h
  exact h
theorem neq_inst {o : Oper} {e : Operand → Value} {A B : Operand} {x y : Int} (ho : o.op = .binOp .neq 33 A B 33)
    (h1 : e A = .agg #[.int .i64 x, .int .i64 y]) (h2 : e B = .agg #[.int .i64 x, .int .i64 y]) (w : World) :
    (execOp e o).run Try.prog w = .ok (.value (.bool false)) w := by
  have h : (execOp e { o with op := .binOp .neq 33 A B 33 }).run Try.prog w = .ok (.value (.bool false)) w := by
    go_simp
  rw [← ho] at h
  exact h
theorem neq_dur {o : Oper} {e : Operand → Value} {A B : Operand} {x y : Int} (ho : o.op = .binOp .neq 34 A B 34)
    (h1 : e A = .agg #[.int .i64 x, .int .i64 y]) (h2 : e B = .agg #[.int .i64 x, .int .i64 y]) (w : World) :
    (execOp e o).run Try.prog w = .ok (.value (.bool false)) w := by
  have h : (execOp e { o with op := .binOp .neq 34 A B 34 }).run Try.prog w = .ok (.value (.bool false)) w := by
    go_simp
  rw [← ho] at h
  exact h
end Go.Proofs.Ytlfbiidnfheelaa
