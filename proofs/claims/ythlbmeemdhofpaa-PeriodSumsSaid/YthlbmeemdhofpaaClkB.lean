/- The plain answers of layer 8: a time later. -/
import Derived.Test.YthlbmeemdhofpaaClkA
namespace Go.Proofs.Ythlbmeemdhofpaa
set_option linter.unusedVariables false
set_option linter.unusedSimpArgs false
open Go.ChangeShapes Go.WideShapes Go.ChangeAt Go.RowKit

/-- seconds behind midnight of the first day, of a time and a duration. -/
def adK (S n d k : Int) : Int := S + d + (n + k) / 1000000000
theorem tdiv_parts (x c : Int) (hc : 0 < c) : (x.tmod c < 0 → x % c = x.tmod c + c ∧ x / c = x.tdiv c - 1) ∧ (¬ x.tmod c < 0 → x % c = x.tmod c ∧ x / c = x.tdiv c) ∧ -c < x.tmod c ∧ x.tmod c < c := by
  have h1 := Int.lt_tmod_of_pos x hc
  have h2 := Int.tmod_lt_of_pos x hc
  have h3 := Int.tmod_add_mul_tdiv x c
  have h4 := Int.emod_add_mul_ediv x c
  have h5 := Int.emod_nonneg x (show c ≠ 0 by omega)
  have h6 := Int.emod_lt_of_pos x hc
  refine ⟨fun h => ?_, fun h => ?_, by omega, h2⟩
  · have e : c * (x / c - (x.tdiv c - 1)) = x.tmod c + c - x % c := by rw [Int.mul_sub, Int.mul_sub]; omega
    have e0 : x / c - (x.tdiv c - 1) = 0 := by
      rcases Int.lt_trichotomy (x / c - (x.tdiv c - 1)) 0 with k | k | k
      · have := Int.mul_le_mul_of_nonneg_left (show x / c - (x.tdiv c - 1) ≤ -1 by omega) (show 0 ≤ c by omega)
        omega
      · exact k
      · have := Int.mul_le_mul_of_nonneg_left (show 1 ≤ x / c - (x.tdiv c - 1) by omega) (show 0 ≤ c by omega)
        omega
    rw [e0] at e
    omega
  · have e : c * (x / c - x.tdiv c) = x.tmod c - x % c := by rw [Int.mul_sub]; omega
    have e0 : x / c - x.tdiv c = 0 := by
      rcases Int.lt_trichotomy (x / c - x.tdiv c) 0 with k | k | k
      · have := Int.mul_le_mul_of_nonneg_left (show x / c - x.tdiv c ≤ -1 by omega) (show 0 ≤ c by omega)
        omega
      · exact k
      · have := Int.mul_le_mul_of_nonneg_left (show 1 ≤ x / c - x.tdiv c by omega) (show 0 ≤ c by omega)
        omega
    rw [e0] at e
    omega
theorem ckD_bd {s n : Int} (h : ckD s n = 0) : 0 ≤ n ∧ n < 1000000000 ∧ -1099511627776 ≤ s ∧ s ≤ 1099511627776 := by
  cases hw : wmB n
  · rw [ckD_wm hw] at h; omega
  · have := of_wmB hw
    by_cases k : s < -1099511627776 ∨ 1099511627776 < s ∨ (s = 1099511627776 ∧ 0 < n)
    · rw [ckD_out hw k] at h; omega
    · omega
theorem fsI_none {x y : Int} (h : fsI x y = 0) : x = 0 ∧ y = 0 := by
  unfold fsI at h
  split at h
  · exact ⟨by assumption, h⟩
  · split at h
    · omega
    · split at h <;> omega
def sgnn (r : Int) : Prop := r < 0
def sgnp (r : Int) : Prop := ¬ r < 0
def ofrn (r : Int) : Int := r + 86400
def ofrp (r : Int) : Int := r
def ofqn (q : Int) : Int := q - 1
def ofqp (q : Int) : Int := q
/-- the seconds behind midnight of the first day at which it is, of two that may be. -/
def atK (h m s n d k : Int) : Int := scK h m s + d + (n + k) / 1000000000
end Go.Proofs.Ythlbmeemdhofpaa
