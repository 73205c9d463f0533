/- Contracts of package checked's product, and of the plain answer's. -/
import Derived.Test.YtlpbkdihjpceoaaChkA
namespace Go.Proofs.Ytlpbkdihjpceoaa
set_option linter.unusedVariables false
set_option linter.unusedSimpArgs false
open Go.ChangeShapes Go.WideShapes Go.ChangeAt Go.RowKit

theorem natAbs_U {n : Int} (b : in64 n) : U n.natAbs := by unfold in64 at b; unfold U; omega
theorem rAmt_any (n : Int) (b : in64 n) (w : World) : Calls Try.prog 68 #[.int .i64 n] w fun e w' => e = .returned (.int .u64 n.natAbs) ∧ Below w.heap.size w w' := by
  obtain ⟨m, Em⟩ : ∃ m, Hid (m = n.natAbs) := ⟨_, rfl⟩
  rw [← Em.out]
  by_cases h : n < 0
  · obtain ⟨x, Ex⟩ : ∃ x, Hid (x = ofL n) := ⟨_, rfl⟩
    have f1 : IntKind.u64.wrap n = (x : Int) := by rw [Ex.out]; exact wrap_ofL n
    have f2 : IntKind.u64.wrap (-(x : Int)) = (m : Int) := by
      rw [Ex.out, Em.out, IntKind.wrap_u64]; unfold ofL; unfold in64 at b; omega
    clear b
    go_enter Try.func68, Try.ntmps68
    go_wp2
    go_ret
    exact ⟨rfl, Below.refl _ _⟩
  · have f1 : IntKind.u64.wrap n = (m : Int) := by
      rw [Em.out, IntKind.wrap_u64]; unfold in64 at b; omega
    clear b
    go_enter Try.func68, Try.ntmps68
    go_wp2
    go_ret
    exact ⟨rfl, Below.refl _ _⟩
theorem abs_mul_U {a b : Int} (ba : in64 a) (bb : in64 b) : in128 (a * b) := by
  have h1 : a.natAbs * b.natAbs ≤ 9223372036854775808 * 9223372036854775808 := by
    unfold in64 at ba bb
    exact Nat.mul_le_mul (by omega) (by omega)
  have h2 : (a * b).natAbs = a.natAbs * b.natAbs := Int.natAbs_mul a b
  unfold in128
  omega
theorem mul_same {a b : Int} (h : decide (a < 0) = decide (b < 0)) : ((a.natAbs * b.natAbs : Nat) : Int) = a * b := by
  have h2 : (a * b).natAbs = a.natAbs * b.natAbs := Int.natAbs_mul a b
  rw [← h2]
  have h3 : 0 ≤ a * b := by
    rw [decide_eq_decide] at h
    by_cases h1 : a < 0
    · exact Int.mul_nonneg_of_nonpos_of_nonpos (by omega) (by omega)
    · exact Int.mul_nonneg (by omega) (by omega)
  omega
theorem mul_diff {a b : Int} (h : decide (a < 0) = !decide (b < 0)) : -((a.natAbs * b.natAbs : Nat) : Int) = a * b := by
  have h2 : (a * b).natAbs = a.natAbs * b.natAbs := Int.natAbs_mul a b
  rw [← h2]
  have h3 : a * b ≤ 0 := by
    by_cases h1 : a < 0 <;> by_cases h4 : b < 0
    · rw [decide_eq_true h1, decide_eq_true h4] at h; cases h
    · exact Int.mul_nonpos_of_nonpos_of_nonneg (by omega) (by omega)
    · exact Int.mul_nonpos_of_nonneg_of_nonpos (by omega) (by omega)
    · rw [decide_eq_false h1, decide_eq_false h4] at h; cases h
  omega
theorem zsame (a b : Int) (ba : in64 a) (bb : in64 b) (h : decide (a < 0) = decide (b < 0)) (w : World) : Calls Try.prog 43 #[.int .u64 a.natAbs, .int .u64 b.natAbs] w fun e w' => e = .returned (.agg #[.int .u64 (zh (a * b)), .int .u64 (zl (a * b))]) ∧ Below w.heap.size w w' := by
  have x := zMul_any a.natAbs b.natAbs (natAbs_U ba) (natAbs_U bb) w
  rw [mul_same h] at x
  exact x
theorem rsame (a b : Int) (ba : in64 a) (bb : in64 b) (h : decide (a < 0) = decide (b < 0)) (w : World) : Calls Try.prog 37 #[.int .u64 a.natAbs, .int .u64 b.natAbs] w fun e w' => e = .returned (.agg #[.int .u64 (zh (a * b)), .int .u64 (zl (a * b))]) ∧ Below w.heap.size w w' := by
  have x := rMul_any a.natAbs b.natAbs (natAbs_U ba) (natAbs_U bb) w
  rw [mul_same h] at x
  exact x
end Go.Proofs.Ytlpbkdihjpceoaa
