/- Layer 10: numbers of the laws: negatives, a balanced period balanced again, sums taken away again. -/
import Derived.Test.YthlbmeemdhofpaaPerB
namespace Go.Proofs.Ythlbmeemdhofpaa
set_option linter.unusedVariables false
set_option linter.unusedSimpArgs false
open Go.ChangeShapes Go.WideShapes Go.ChangeAt Go.RowKit

theorem ckP_neg (y m d : Int) : ckP (-y) (-m) (-d) = ckP y m d := by
  by_cases h : (-1000000 ≤ y ∧ y ≤ 1000000) ∧ (-1000000 ≤ m ∧ m ≤ 1000000) ∧ (-1000000 ≤ d ∧ d ≤ 1000000)
  · rw [ckP_zero h.1 h.2.1 h.2.2, ckP_zero (by omega) (by omega) (by omega)]
  · rw [ckP_out h, ckP_out (by omega)]
theorem mpE_neg (y m d : Int) : mpE y m d (-1) = ckP y m d := by
  unfold mpE
  rw [show y * -1 = -y by omega, show m * -1 = -m by omega, show d * -1 = -d by omega, ckP_neg]
  rcases ckP_two y m d with ⟨e, _⟩ | ⟨e, _⟩ <;> rw [e]
  · rfl
  · rfl
/-- the plain answer of a negative. -/
theorem rpNeg_any (y m d : Int) (w : World) : Calls Try.prog 11 #[.agg #[.int .i64 y, .int .i64 m, .int .i64 d], .int .i64 (-1)] w fun e w' =>
    e = .returned (.tuple #[.agg #[.int .i64 (fdP (ckP y m d) (-y)), .int .i64 (fdP (ckP y m d) (-m)), .int .i64 (fdP (ckP y m d) (-d))], .int .i64 (ckP y m d)]) ∧ Below w.heap.size w w' := by
  have X := rpMul_any y m d (-1) (by unfold in64; decide) w
  rw [mpE_neg, show y * -1 = -y by omega, show m * -1 = -m by omega, show d * -1 = -d by omega] at X
  exact X
theorem blE_two (y m d : Int) : blE y m d = 0 ∨ blE y m d = 8 := by
  unfold blE
  split
  · rcases ckP_two ((12 * y + m).tdiv 12) ((12 * y + m).tmod 12) d with ⟨e, _⟩ | ⟨e, _⟩
    · exact Or.inl e
    · exact Or.inr e
  · exact Or.inr rfl
/-- what a balanced period is. -/
theorem bl_parts (y m : Int) : 12 * (12 * y + m).tdiv 12 + (12 * y + m).tmod 12 = 12 * y + m ∧ -12 < (12 * y + m).tmod 12 ∧ (12 * y + m).tmod 12 < 12 ∧
    ((0 ≤ (12 * y + m).tdiv 12 ∧ 0 ≤ (12 * y + m).tmod 12) ∨ ((12 * y + m).tdiv 12 ≤ 0 ∧ (12 * y + m).tmod 12 ≤ 0)) := by
  have t5 := Int.tmod_add_mul_tdiv (12 * y + m) 12
  have l := Int.lt_tmod_of_pos (12 * y + m) (show (0 : Int) < 12 by decide)
  have u := Int.tmod_lt_of_pos (12 * y + m) (show (0 : Int) < 12 by decide)
  refine ⟨by omega, l, u, ?_⟩
  by_cases h : 0 ≤ 12 * y + m
  · exact Or.inl ⟨Int.tdiv_nonneg h (by decide), Int.tmod_nonneg _ h⟩
  · have a : 0 ≤ (-(12 * y + m)).tdiv 12 := Int.tdiv_nonneg (by omega) (by decide)
    have b : 0 ≤ (-(12 * y + m)).tmod 12 := Int.tmod_nonneg _ (by omega)
    rw [Int.neg_tdiv] at a
    rw [Int.neg_tmod] at b
    exact Or.inr ⟨by omega, by omega⟩
theorem of_blE {y m d : Int} (h : blE y m d = 0) : ckP y m d = 0 ∧ ckP ((12 * y + m).tdiv 12) ((12 * y + m).tmod 12) d = 0 := by
  unfold blE at h
  split at h
  · rename_i hc; exact ⟨hc, h⟩
  · omega
theorem bl_again {y m d : Int} (h : blE y m d = 0) : blE ((12 * y + m).tdiv 12) ((12 * y + m).tmod 12) d = 0 := by
  obtain ⟨h1, h2⟩ := of_blE h
  unfold blE
  rw [if_pos h2, (bl_parts y m).1]
  exact h2
theorem spE_back {y m d y' m' d' : Int} (h : spE y m d y' m' d' = 0) : ckP y' m' d' = 0 ∧ spE (y + y') (m + m') (d + d') (-y') (-m') (-d') = 0 := by
  unfold spE at h
  split at h
  · rename_i hc
    refine ⟨hc.2, ?_⟩
    rw [spE_ok h (by rw [ckP_neg]; exact hc.2), show y + y' + -y' = y by omega, show m + m' + -m' = m by omega, show d + d' + -d' = d by omega]
    exact hc.1
  · omega
end Go.Proofs.Ythlbmeemdhofpaa
