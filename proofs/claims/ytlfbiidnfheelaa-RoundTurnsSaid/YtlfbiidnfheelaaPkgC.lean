/- Contracts of package wide: product, quotient and rest, the two orders. -/
import Derived.Test.YtlfbiidnfheelaaPkgA
import Derived.Test.YtlfbiidnfheelaaPkgB
import Derived.Test.YtlfbiidnfheelaaRefP
import Derived.WalkKit
import Derived.ProofKit
import Derived.OpenShut
import Derived.Handy
import Derived.Outline
import Derived.Lib.Hide
import Derived.Deep.RegionHeld3
import Derived.Test.YtlfbiidnfheelaaLotP
namespace Go.Proofs.Ytlfbiidnfheelaa
set_option linter.unusedVariables false
open Go.ChangeShapes Go.WideShapes Go.ChangeAt Go.RowKit

theorem mul_any (a b : Nat) (ha : U a) (hb : U b) (w : World) :
    Calls Try.prog 69 #[.int .u64 a, .int .u64 b] w fun e w' => e = .returned (.agg #[.int .u64 (hi (a * b)), .int .u64 (lo (a * b))]) ∧ Below w.heap.size w w' := by
  have hc := Try.bits_Mul64 a b ha hb
  have e1 : a * b / 18446744073709551616 = hi (a * b) := by
    have h1 : a * b < 18446744073709551616 * 18446744073709551616 := Nat.mul_lt_mul'' ha hb
    have h2 : a * b / 18446744073709551616 < 18446744073709551616 := Nat.div_lt_of_lt_mul h1
    unfold hi; rw [Nat.mod_eq_of_lt h2]
  have e2 : a * b % 18446744073709551616 = lo (a * b) := by unfold lo; rfl
  simp only [e1, e2] at hc
  have HC := Lib.hid hc
  clear hc e1 e2
  generalize a * b = n at *
  go_enter Try.func69, Try.ntmps69
  refine wp_shut ?_
  go_wp2_with fail
  refine (HC.out _).mono ?_
  rintro e w' ⟨rfl, rfl⟩
  go_wp2
  refine shut_ret (v := .agg #[.int .u64 (hi n), .int .u64 (lo n)]) (by simp [results, Try.results69, go_sem]) rfl ⟨rfl, ?_⟩
  go_grown

theorem div_zero (h l : Nat) (w : World) : Calls Try.prog 66 #[.agg #[.int .u64 h, .int .u64 l], .int .u64 0] w fun e w' => e = .returned (.tuple #[.agg #[.int .u64 0, .int .u64 0], .int .u64 0, .int .i64 5]) ∧ Below w.heap.size w w' := by
  go_enter Try.func66, Try.ntmps66
  refine wp_shut ?_
  go_wp2
  refine shut_ret (v := .tuple #[.agg #[.int .u64 0, .int .u64 0], .int .u64 0, .int .i64 5]) (by simp [results, Try.results66, go_sem]) rfl ⟨rfl, ?_⟩
  go_grown

/-- both of Div64's ways. -/
theorem div64 (h l y : Nat) (hh : U h) (hl : U l) (hy : h < y) (hy2 : U y) (w : World) :
    Calls Try.prog 80 #[.int .u64 h, .int .u64 l, .int .u64 y] w fun e w' => e = .returned (.tuple #[.int .u64 (num h l / y : Nat), .int .u64 (num h l % y : Nat)]) ∧ Below w.heap.size w w' := by
  by_cases h0 : 0 < h
  · exact div64_any h l y hh hl hy hy2 h0 w
  · obtain rfl : h = 0 := by omega
    rw [num_zero]
    exact div64_zero l y hl hy w
theorem div_parts (h l b : Nat) (hh : U h) (hl : U l) (hb : U b) (hb0 : 0 < b) : hi (num h l / b) = h / b ∧ lo (num h l / b) = num (h % b) l / b ∧ num h l % b = num (h % b) l % b := by
  have e : num h l = b * (h / b * 18446744073709551616) + num (h % b) l := by
    unfold num
    have := Nat.div_add_mod h b
    have h2 : b * (h / b * 18446744073709551616) = b * (h / b) * 18446744073709551616 := by rw [Nat.mul_assoc]
    rw [h2, ← Nat.add_assoc, ← Nat.add_mul, this]
  have h3 : num (h % b) l / b < 18446744073709551616 := by
    rw [Nat.div_lt_iff_lt_mul hb0]
    have := Nat.mod_lt h hb0
    have h4 : (h % b + 1) * 18446744073709551616 ≤ b * 18446744073709551616 := Nat.mul_le_mul_right _ this
    unfold num; unfold U at hl
    rw [Nat.add_mul, Nat.one_mul] at h4
    rw [Nat.mul_comm 18446744073709551616 b]
    omega
  have h5 : h / b < 18446744073709551616 := Nat.lt_of_le_of_lt (Nat.div_le_self _ _) hh
  have e2 : num h l / b = h / b * 18446744073709551616 + num (h % b) l / b := by rw [e, Nat.mul_add_div hb0]
  refine ⟨?_, ?_, ?_⟩
  · rw [e2]; clear e e2; generalize h / b = t at *; generalize num (h % b) l / b = x at *; unfold hi; omega
  · rw [e2]; clear e e2; generalize h / b = t at *; generalize num (h % b) l / b = x at *; unfold lo; omega
  · rw [e, Nat.mul_add_mod]

end Go.Proofs.Ytlfbiidnfheelaa
