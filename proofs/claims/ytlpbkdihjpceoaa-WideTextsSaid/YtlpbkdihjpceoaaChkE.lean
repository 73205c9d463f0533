/- Contracts of package checked's MulDiv, FloorDiv, FloorMod. -/
import Derived.Test.YtlpbkdihjpceoaaChkD
import Derived.OwnWalk
namespace Go.Proofs.Ytlpbkdihjpceoaa
set_option linter.unusedVariables false
set_option linter.unusedSimpArgs false
open Go.ChangeShapes Go.WideShapes Go.ChangeAt Go.RowKit

theorem fq_in {n c : Int} (hc : c ≠ 0) (h : n.natAbs ≤ 85070591730234615865843651857942052864) : in128 (fq n c) := by
  unfold fq in128
  have h1 : ∀ m d : Int, 0 < d → m.natAbs ≤ 85070591730234615865843651857942052864 → -170141183460469231731687303715884105728 ≤ m / d ∧ m / d < 170141183460469231731687303715884105728 := fun m d hd hm => by
    constructor
    · refine Int.le_trans ?_ ((Int.le_ediv_iff_mul_le hd).2 (show (-85070591730234615865843651857942052864) * d ≤ m by omega))
      omega
    · refine Int.ediv_lt_of_lt_mul hd ?_
      omega
  by_cases h2 : 0 < c
  · rw [if_pos h2]; exact h1 n c h2 h
  · rw [if_neg h2]; exact h1 (-n) (-c) (by omega) (by omega)
theorem fr_bd {n c : Int} (hc : c ≠ 0) : (0 < c → 0 ≤ fr n c ∧ fr n c < c) ∧ (c < 0 → c < fr n c ∧ fr n c ≤ 0) := by
  unfold fr fq
  constructor
  · intro h
    rw [if_pos h]
    have h1 := Int.emod_nonneg n hc
    have h2 := Int.emod_lt_of_pos n h
    have h3 := Int.emod_def n c
    omega
  · intro h
    rw [if_neg (by omega)]
    have h1 := Int.emod_nonneg (-n) (show -c ≠ 0 by omega)
    have h2 := Int.emod_lt_of_pos (-n) (show 0 < -c by omega)
    have h3 := Int.emod_def (-n) (-c)
    rw [Int.neg_mul] at h3
    omega
def oV (q r : Int) : Int := if -9223372036854775808 ≤ q ∧ q < 9223372036854775808 then r else 0
/-- the answers by a divisor that may be 0. -/
def dV (n c : Int) : Int := if c = 0 then 0 else iV (fq n c)
def dR (n c : Int) : Int := if c = 0 then 0 else oV (fq n c) (fr n c)
def dM (n c : Int) : Int := if c = 0 then 0 else fr n c
def dE (n c : Int) : Int := if c = 0 then 5 else iE (fq n c)
def dF (c : Int) : Int := if c = 0 then 5 else 0
end Go.Proofs.Ytlpbkdihjpceoaa
