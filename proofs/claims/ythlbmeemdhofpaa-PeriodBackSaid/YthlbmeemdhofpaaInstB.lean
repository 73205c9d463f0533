/- Contracts of package instant and of the plain answers of layer 3: checks, the order, the first error. -/
import Derived.Test.YthlbmeemdhofpaaInstA
import Derived.LoopN
namespace Go.Proofs.Ythlbmeemdhofpaa
set_option linter.unusedVariables false
set_option linter.unusedSimpArgs false
open Go.ChangeShapes Go.WideShapes Go.ChangeAt Go.RowKit

@[irreducible] def wmB (n : Int) : Bool := decide (0 ≤ n) && decide (n < 1000000000)
theorem wmB_true {n : Int} (h1 : 0 ≤ n) (h2 : n < 1000000000) : wmB n = true := by unfold wmB; rw [decide_eq_true h1, decide_eq_true h2]; rfl
theorem wmB_low {n : Int} (h1 : n < 0) : wmB n = false := by unfold wmB; rw [decide_eq_false (by omega)]; rfl
theorem wmB_high {n : Int} (h1 : 1000000000 ≤ n) : wmB n = false := by unfold wmB; rw [decide_eq_false (show ¬ n < 1000000000 by omega), Bool.and_false]
theorem of_wmB {n : Int} (h : wmB n = true) : 0 ≤ n ∧ n < 1000000000 := by unfold wmB at h; rw [Bool.and_eq_true, decide_eq_true_eq, decide_eq_true_eq] at h; exact h
@[irreducible] def ckI (s n : Int) : Int := if wmB n = true then (if s < -377705116800 ∨ 253402300799 < s then 8 else 0) else 5
theorem ckI_wm {s n : Int} (h : wmB n = false) : ckI s n = 5 := by unfold ckI; rw [if_neg (by rw [h]; decide)]
theorem ckI_out {s n : Int} (h : wmB n = true) (h2 : s < -377705116800 ∨ 253402300799 < s) : ckI s n = 8 := by unfold ckI; rw [if_pos h, if_pos h2]
theorem ckI_ok {s n : Int} (h : wmB n = true) (h2 : ¬ (s < -377705116800 ∨ 253402300799 < s)) : ckI s n = 0 := by unfold ckI; rw [if_pos h, if_neg h2]
theorem ckI_three (s n : Int) : ckI s n = 0 ∨ ckI s n = 5 ∨ ckI s n = 8 := by unfold ckI; split <;> (try split) <;> simp
theorem of_ckI {s n : Int} (h : ckI s n = 0) : wmB n = true ∧ -377705116800 ≤ s ∧ s ≤ 253402300799 := by
  unfold ckI at h
  by_cases h1 : wmB n = true
  · rw [if_pos h1] at h
    by_cases h2 : s < -377705116800 ∨ 253402300799 < s
    · rw [if_pos h2] at h; omega
    · exact ⟨h1, by omega, by omega⟩
  · rw [if_neg h1] at h; omega
theorem below1 (w : World) (o : Obj) : Below w.heap.size w (w.alloc o) := (Below.refl _ _).alloc (Nat.le_refl _) _
/-- of a duration. -/
@[irreducible] def ckD (s n : Int) : Int := if wmB n = true then (if s < -1099511627776 ∨ 1099511627776 < s ∨ (s = 1099511627776 ∧ 0 < n) then 8 else 0) else 5
theorem ckD_wm {s n : Int} (h : wmB n = false) : ckD s n = 5 := by unfold ckD; rw [if_neg (by rw [h]; decide)]
theorem ckD_out {s n : Int} (h : wmB n = true) (h2 : s < -1099511627776 ∨ 1099511627776 < s ∨ (s = 1099511627776 ∧ 0 < n)) : ckD s n = 8 := by unfold ckD; rw [if_pos h, if_pos h2]
theorem ckD_ok {s n : Int} (h : wmB n = true) (h2 : ¬ (s < -1099511627776 ∨ 1099511627776 < s ∨ (s = 1099511627776 ∧ 0 < n))) : ckD s n = 0 := by unfold ckD; rw [if_pos h, if_neg h2]
theorem ckD_three (s n : Int) : ckD s n = 0 ∨ ckD s n = 5 ∨ ckD s n = 8 := by unfold ckD; split <;> (try split) <;> simp
theorem of_ckD {s n : Int} (h : ckD s n = 0) : wmB n = true ∧ -1099511627776 ≤ s ∧ s ≤ 1099511627776 := by
  unfold ckD at h
  by_cases h1 : wmB n = true
  · rw [if_pos h1] at h
    by_cases h2 : s < -1099511627776 ∨ 1099511627776 < s ∨ (s = 1099511627776 ∧ 0 < n)
    · rw [if_pos h2] at h; omega
    · exact ⟨h1, by omega, by omega⟩
  · rw [if_neg h1] at h; omega
theorem of_ckD8 {s n : Int} (h : ckD s n = 8) : wmB n = true ∧ (s < -1099511627776 ∨ 1099511627776 < s ∨ (s = 1099511627776 ∧ 0 < n)) := by
  unfold ckD at h
  by_cases h1 : wmB n = true
  · rw [if_pos h1] at h
    by_cases h2 : s < -1099511627776 ∨ 1099511627776 < s ∨ (s = 1099511627776 ∧ 0 < n)
    · exact ⟨h1, h2⟩
    · rw [if_neg h2] at h; omega
  · rw [if_neg h1] at h; omega
/-- the order, by seconds and then by nanoseconds. -/
def ordI (a b : Int) : Int := if a < b then -1 else if b < a then 1 else 0
def ord2 (a b c d : Int) : Int := if a = c then ordI b d else ordI a c
/-- the lesser error; 0 is none. -/
@[irreducible] def fsI (x y : Int) : Int := if x = 0 then y else if y = 0 then x else if y < x then y else x
end Go.Proofs.Ythlbmeemdhofpaa
