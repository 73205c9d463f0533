/- Contracts of package instant: seconds and nanoseconds as a number. -/
import Derived.Test.YthlbmeemdhofpaaLotQ
import Derived.Outline
import Derived.Deep.Cut
import Derived.Deep.RegionHeld3
import Derived.OwnWalk
import Derived.Test.YthlbmeemdhofpaaLotP
namespace Go.Proofs.Ythlbmeemdhofpaa
set_option linter.unusedVariables false
set_option linter.unusedSimpArgs false
open Go.ChangeShapes Go.WideShapes Go.ChangeAt Go.RowKit

/-- seconds and nanoseconds, as nanoseconds. -/
def nanos (s n : Int) : Int := s * 1000000000 + n
theorem mix_hi (Q c b : Int) (h : 0 ≤ b) (h2 : b < 18446744073709551616) : (Q * 340282366920938463463374607431768211456 + c * 18446744073709551616 + b) % 340282366920938463463374607431768211456 = (c % 18446744073709551616) * 18446744073709551616 + b := by omega
theorem mix_parts (N : Int) (c b : Int) (h : 0 ≤ b) (h2 : b < 18446744073709551616) (e : N % 340282366920938463463374607431768211456 = (c % 18446744073709551616) * 18446744073709551616 + b) : (zh N : Int) = c % 18446744073709551616 ∧ (zl N : Int) = b := by
  have h3 := Int.emod_nonneg c (show (18446744073709551616 : Int) ≠ 0 by decide)
  have h4 := Int.emod_lt_of_pos c (show (0 : Int) < 18446744073709551616 by decide)
  generalize c % 18446744073709551616 = d at *
  unfold zh zl hi lo zw
  rw [e]
  clear e
  constructor <;> omega
theorem total_parts (s : Int) : ∃ k : Nat, IntKind.u64.wrap ((zh s : Int) * 1000000000) = (k : Int) ∧ IntKind.u64.wrap ((zh ((zl s * 1000000000 : Nat) : Int) : Int) + (k : Int)) = (zh (s * 1000000000) : Int) ∧ zl ((zl s * 1000000000 : Nat) : Int) = zl (s * 1000000000) := by
  refine ⟨(zh s * 1000000000) % 18446744073709551616, ?_, ?_, ?_⟩
  · rw [IntKind.wrap_u64]; omega
  all_goals
    have u := zl_U s
    unfold U at u
    have e1 : ((zl s * 1000000000 : Nat) : Int) = (zl s : Int) * 1000000000 := by omega
    obtain ⟨Q, e2⟩ : ∃ Q : Int, s = Q * 340282366920938463463374607431768211456 + (zh s : Int) * 18446744073709551616 + (zl s : Int) := by
      have h := num_z s
      unfold num zw at h
      exact ⟨s / 340282366920938463463374607431768211456, by omega⟩
    obtain ⟨b1, b0, e3, h1, h2, h5, h6⟩ : ∃ b1 b0 : Int, (zl s : Int) * 1000000000 = b1 * 18446744073709551616 + b0 ∧ 0 ≤ b0 ∧ b0 < 18446744073709551616 ∧ 0 ≤ b1 ∧ b1 < 1000000000 := ⟨(zl s : Int) * 1000000000 / 18446744073709551616, (zl s : Int) * 1000000000 % 18446744073709551616, by omega, by omega, by omega, by omega, by omega⟩
    have e4 : s * 1000000000 = (Q * 1000000000) * 340282366920938463463374607431768211456 + ((zh s : Int) * 1000000000 + b1) * 18446744073709551616 + b0 := by
      rw [Int.add_mul, Int.mul_assoc (zh s : Int)]
      have e5 : s * 1000000000 = (Q * 340282366920938463463374607431768211456 + (zh s : Int) * 18446744073709551616 + (zl s : Int)) * 1000000000 := by rw [← e2]
      rw [e5, Int.add_mul, Int.add_mul, e3]
      clear e1 e2 e3 e5
      omega
    have m1 := mix_hi (Q * 1000000000) ((zh s : Int) * 1000000000 + b1) b0 h1 h2
    rw [← e4] at m1
    obtain ⟨p1, p2⟩ := mix_parts _ _ _ h1 h2 m1
    have m2 := mix_hi 0 b1 b0 h1 h2
    rw [Int.zero_mul, Int.zero_add, ← e3, ← e1] at m2
    obtain ⟨q1, q2⟩ := mix_parts _ _ _ h1 h2 m2
    first
    | (rw [IntKind.wrap_u64, q1, p1]; clear m1 m2 e4 p1 p2 q1 q2 e1 e3 e2; omega)
    | (have := p2.trans q2.symm; omega)
end Go.Proofs.Ythlbmeemdhofpaa
