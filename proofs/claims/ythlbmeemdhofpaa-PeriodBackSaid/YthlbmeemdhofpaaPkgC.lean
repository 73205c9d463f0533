/- Contracts of package wide: product, quotient and rest, the two orders. -/
import Derived.Test.YthlbmeemdhofpaaPkgA
import Derived.Test.YthlbmeemdhofpaaRefG
import Derived.Test.YthlbmeemdhofpaaShelf
import Derived.Test.YthlbmeemdhofpaaLotP
import Derived.Shelf.Bits.Mul64
import Derived.WalkKit
import Derived.ProofKit
import Derived.OpenShut
import Derived.Handy
import Derived.Outline
import Derived.Lib.Hide
import Derived.Deep.QuietTactic
import Derived.BigQuiet
import Derived.Lib.SmallJoins
import Derived.Test.YthlbmeemdhofpaaRefP
import Derived.Deep.RegionHeld3
namespace Go.Proofs.Ythlbmeemdhofpaa
set_option linter.unusedVariables false
open Go.ChangeShapes Go.WideShapes Go.ChangeAt Go.RowKit

theorem mul_any (a b : Nat) (ha : U a) (hb : U b) (w : World) :
    Calls Try.prog 36 #[.int .u64 a, .int .u64 b] w fun e w' => e = .returned (.agg #[.int .u64 (hi (a * b)), .int .u64 (lo (a * b))]) ∧ Below w.heap.size w w' := by
  have hc := Try.bits_Mul64 a b ha hb
  have e1 : a * b / 18446744073709551616 = hi (a * b) := by
    have h1 : a * b < 18446744073709551616 * 18446744073709551616 := Nat.mul_lt_mul'' ha hb
    have h2 : a * b / 18446744073709551616 < 18446744073709551616 := Nat.div_lt_of_lt_mul h1
    unfold hi; rw [Nat.mod_eq_of_lt h2]
  have e2 : a * b % 18446744073709551616 = lo (a * b) := by unfold lo; rfl
  simp only [e1, e2] at hc
  have HC := Lib.hid hc
  clear hc e1 e2
  generalize a * b = n at *
  go_enter Try.func36, Try.ntmps36
  refine wp_shut ?_
  go_wp2_with fail
  refine (HC.out _).mono ?_
  rintro e w' ⟨rfl, rfl⟩
  go_wp2
  refine shut_ret (v := .agg #[.int .u64 (hi n), .int .u64 (lo n)]) (by simp [results, Try.results36, go_sem]) rfl ⟨rfl, ?_⟩
  go_grown

theorem div_parts (h l b : Nat) (hh : U h) (hl : U l) (hb : U b) (hb0 : 0 < b) : hi (num h l / b) = h / b ∧ lo (num h l / b) = num (h % b) l / b ∧ num h l % b = num (h % b) l % b := by
  have e : num h l = b * (h / b * 18446744073709551616) + num (h % b) l := by
    unfold num
    have := Nat.div_add_mod h b
    have h2 : b * (h / b * 18446744073709551616) = b * (h / b) * 18446744073709551616 := by rw [Nat.mul_assoc]
    rw [h2, ← Nat.add_assoc, ← Nat.add_mul, this]
  have h3 : num (h % b) l / b < 18446744073709551616 := by
    rw [Nat.div_lt_iff_lt_mul hb0]
    have := Nat.mod_lt h hb0
    have h4 : (h % b + 1) * 18446744073709551616 ≤ b * 18446744073709551616 := Nat.mul_le_mul_right _ this
    unfold num; unfold U at hl
    rw [Nat.add_mul, Nat.one_mul] at h4
    rw [Nat.mul_comm 18446744073709551616 b]
    omega
  have h5 : h / b < 18446744073709551616 := Nat.lt_of_le_of_lt (Nat.div_le_self _ _) hh
  have e2 : num h l / b = h / b * 18446744073709551616 + num (h % b) l / b := by rw [e, Nat.mul_add_div hb0]
  refine ⟨?_, ?_, ?_⟩
  · rw [e2]; clear e e2; generalize h / b = t at *; generalize num (h % b) l / b = x at *; unfold hi; omega
  · rw [e2]; clear e e2; generalize h / b = t at *; generalize num (h % b) l / b = x at *; unfold lo; omega
  · rw [e, Nat.mul_add_mod]

end Go.Proofs.Ythlbmeemdhofpaa
