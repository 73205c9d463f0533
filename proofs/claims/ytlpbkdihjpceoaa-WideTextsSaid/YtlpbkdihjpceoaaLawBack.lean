/- The walk of the law WideBack. -/
import Derived.Test.YtlpbkdihjpceoaaLawMuls
namespace Go.Proofs.Ytlpbkdihjpceoaa
set_option linter.unusedVariables false
open Go.ChangeShapes Go.WideShapes Go.ChangeAt Go.RowKit

theorem row_at {w : World} {k k' : Nat} {o : Option Obj} (e : k = k') (h : w.heap[k]? = o) : w.heap[k']? = o := e ▸ h
theorem row_by {w w' : World} {k : Nat} {o : Option Obj} (e : w' = w) (h : w.heap[k]? = o) : w'.heap[k]? = o := e ▸ h
theorem below_by {n : Nat} {w v v' : World} (e : v' = v) (h : Below n w v) : Below n w v' := e ▸ h
theorem big_no {n : Nat} (h : n < 340282366920938463463374607431768211456) : big n = false := by unfold big; exact decide_eq_false (by omega)
theorem back_math (h l b : Nat) (u : U h) (v : U l) (ub : U b) (h0 : 0 < b) : ∃ q1 q2 r m1 m2 k x1 x2 : Nat, U q1 ∧ U q2 ∧ U r ∧ U m1 ∧ U m2 ∧ U k ∧ U x1 ∧ U x2 ∧ r < b ∧
    hi (num h l / b) = q1 ∧ lo (num h l / b) = q2 ∧ num h l % b = r ∧ hi (q2 * b) = m1 ∧ lo (q2 * b) = m2 ∧ hi (q1 * b) = 0 ∧ lo (q1 * b) = k ∧
    hi (num m1 m2 + num k 0) = x1 ∧ lo (num m1 m2 + num k 0) = x2 ∧ big (num m1 m2 + num k 0) = false ∧ hi (num x1 x2 + num 0 r) = h ∧ lo (num x1 x2 + num 0 r) = l ∧ big (num x1 x2 + num 0 r) = false := by
  have hN := num_lt u v
  have hdm := Nat.div_add_mod (num h l) b
  have hr := Nat.mod_lt (num h l) h0
  have hq : num h l / b ≤ num h l := Nat.div_le_self _ _
  have hqn : num (hi (num h l / b)) (lo (num h l / b)) = num h l / b := num_hl_of (by omega)
  have hb2 : b < 18446744073709551616 := ub
  generalize num h l / b = Q at *
  have hq1 : num (hi Q) (lo Q) = hi Q * 18446744073709551616 + lo Q := by unfold num; rfl
  have hmul : b * Q = hi Q * b * 18446744073709551616 + lo Q * b := by
    have e : b * Q = b * (hi Q * 18446744073709551616 + lo Q) := by rw [← hq1, hqn]
    rw [e, Nat.mul_add, Nat.mul_comm b (lo _), Nat.mul_comm b, Nat.mul_right_comm]
  have hl1 : lo Q * b < 340282366920938463463374607431768211456 := by
    have h1 : lo Q * b ≤ 18446744073709551615 * b := Nat.mul_le_mul_right _ (by have := (lo_U Q).lt; omega)
    have h2 : 18446744073709551615 * b ≤ 18446744073709551615 * 18446744073709551615 := Nat.mul_le_mul_left _ (by omega)
    omega
  have hh1 : hi Q * b < 18446744073709551616 := by omega
  have e3 : hi (hi Q * b) = 0 := by
    generalize hi Q * b = t at *
    unfold hi; omega
  have e4 : lo (hi Q * b) = hi Q * b := by
    generalize hi Q * b = t at *
    unfold lo; omega
  have em : num (hi (lo Q * b)) (lo (lo Q * b)) = lo Q * b := num_hl_of hl1
  have ek : num (lo (hi Q * b)) 0 = hi Q * b * 18446744073709551616 := by rw [e4]; unfold num; omega
  have es : num (hi (lo Q * b)) (lo (lo Q * b)) + num (lo (hi Q * b)) 0 = b * Q := by rw [em, ek, hmul, Nat.add_comm]
  have ex : num (hi (b * Q)) (lo (b * Q)) = b * Q := num_hl_of (by omega)
  have ey : num (hi (b * Q)) (lo (b * Q)) + num 0 (num h l % b) = num h l := by rw [ex, num_zero]; exact hdm
  refine ⟨hi Q, lo Q, num h l % b, hi (lo Q * b), lo (lo Q * b), lo (hi Q * b), hi (b * Q), lo (b * Q), hi_U _, lo_U _, ?_, hi_U _, lo_U _, lo_U _, hi_U _, lo_U _, hr, rfl, rfl, rfl, rfl, rfl, e3, rfl, ?_, ?_, ?_, ?_, ?_, ?_⟩
  · unfold U; omega
  · rw [es]
  · rw [es]
  · rw [es]; exact big_no (by omega)
  · rw [ey]; exact hi_num u v
  · rw [ey]; exact lo_num v
  · rw [ey]; exact big_no hN

theorem there_math (h l c d : Nat) (u : U h) (v : U l) (uc : U c) (ud : U d) : hi (num (hi (num h l + num c d)) (lo (num h l + num c d)) + 340282366920938463463374607431768211456 - num c d) = h ∧
    lo (num (hi (num h l + num c d)) (lo (num h l + num c d)) + 340282366920938463463374607431768211456 - num c d) = l := by
  have h1 := num_lt u v
  have h2 := num_lt uc ud
  rw [num_hl]
  have e : ((num h l + num c d) % 340282366920938463463374607431768211456 + 340282366920938463463374607431768211456 - num c d) % 340282366920938463463374607431768211456 = num h l := by omega
  rw [← hi_mod, ← lo_mod, e]
  exact ⟨hi_num u v, lo_num v⟩

end Go.Proofs.Ytlpbkdihjpceoaa
