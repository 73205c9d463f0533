/- The plain answers of layer 6: leap years, the months' days, weekdays. -/
import Derived.Test.YthlbmeemdhofpaaRefA
import Derived.WalkKit
import Derived.ProofKit
import Derived.Handy
import Derived.Outline
import Derived.Lib.Hide
import Derived.OwnWalk
namespace Go.Proofs.Ythlbmeemdhofpaa
set_option linter.unusedVariables false
set_option linter.unusedSimpArgs false
open Go.ChangeShapes Go.WideShapes Go.ChangeAt Go.RowKit

@[irreducible] def lpB (y : Int) : Bool := decide (y % 4 = 0) && (!decide (y % 100 = 0) || decide (y % 400 = 0))
@[irreducible] def mdI (y m : Int) : Int :=
  if m = 1 ∨ m = 3 ∨ m = 5 ∨ m = 7 ∨ m = 8 ∨ m = 10 ∨ m = 12 then 31 else if m = 4 ∨ m = 6 ∨ m = 9 ∨ m = 11 then 30 else if m = 2 then (if lpB y = true then 29 else 28) else 0
@[irreducible] def ydI (y : Int) : Int := if lpB y = true then 366 else 365
theorem tmod_zero (y k : Int) : (y.tmod k = 0) ↔ (y % k = 0) := by
  rw [← Int.dvd_iff_emod_eq_zero, ← Int.dvd_iff_tmod_eq_zero]
theorem lpB_tmod (y : Int) : lpB y = ((y.tmod 4 == 0) && (!(y.tmod 100 == 0) || (y.tmod 400 == 0))) := by
  have h (k : Int) : (y.tmod k == 0) = decide (y % k = 0) := by
    have := tmod_zero y k
    rw [Bool.eq_iff_iff, beq_iff_eq, decide_eq_true_eq]; exact this
  unfold lpB
  rw [h, h, h]
theorem lpB_iff (y : Int) : lpB y = true ↔ (y % 4 = 0 ∧ (y % 100 ≠ 0 ∨ y % 400 = 0)) := by
  unfold lpB; simp
theorem ydI_eq (y : Int) : (lpB y = true ∧ ydI y = 366) ∨ (lpB y = false ∧ ydI y = 365) := by
  unfold ydI
  cases h : lpB y
  · exact Or.inr ⟨rfl, if_neg (by decide)⟩
  · exact Or.inl ⟨rfl, if_pos rfl⟩
theorem mdI_1 (y : Int) : mdI y 1 = 31 := by unfold mdI; rfl
theorem mdI_2 (y : Int) : mdI y 3 = 31 := by unfold mdI; rfl
theorem mdI_3 (y : Int) : mdI y 5 = 31 := by unfold mdI; rfl
theorem mdI_4 (y : Int) : mdI y 7 = 31 := by unfold mdI; rfl
theorem mdI_5 (y : Int) : mdI y 8 = 31 := by unfold mdI; rfl
theorem mdI_6 (y : Int) : mdI y 10 = 31 := by unfold mdI; rfl
theorem mdI_7 (y : Int) : mdI y 12 = 31 := by unfold mdI; rfl
theorem mdI_8 (y : Int) : mdI y 4 = 30 := by unfold mdI; rfl
theorem mdI_9 (y : Int) : mdI y 6 = 30 := by unfold mdI; rfl
theorem mdI_a (y : Int) : mdI y 9 = 30 := by unfold mdI; rfl
theorem mdI_b (y : Int) : mdI y 11 = 30 := by unfold mdI; rfl
theorem mdI_feb (y : Int) : mdI y 2 = if lpB y = true then 29 else 28 := by unfold mdI; rfl
theorem mdI_none (y m : Int) (h : m < 1 ∨ 12 < m) : mdI y m = 0 := by unfold mdI; rw [if_neg (by omega), if_neg (by omega), if_neg (by omega)]
theorem month_cases (m : Int) : (m < 1 ∨ 12 < m) ∨ m = 1 ∨ m = 2 ∨ m = 3 ∨ m = 4 ∨ m = 5 ∨ m = 6 ∨ m = 7 ∨ m = 8 ∨ m = 9 ∨ m = 10 ∨ m = 11 ∨ m = 12 := by omega
theorem mdI_le (y m : Int) : 0 ≤ mdI y m ∧ mdI y m ≤ 31 := by 
  unfold mdI
  repeat' split
  all_goals omega
/-- the weekday of a day's number. -/
@[irreducible] def wdI (d : Int) : Int := (d + 3) % 7 + 1
theorem wd_parts (d : Int) : (d.tmod 7 < 0 → wdI d = (d.tmod 7 + 7 + 3) % 7 + 1) ∧ (¬ d.tmod 7 < 0 → wdI d = (d.tmod 7 + 3) % 7 + 1) ∧ -7 < d.tmod 7 ∧ d.tmod 7 < 7 := by
  have h := Int.tmod_add_mul_tdiv d 7
  have h1 := Int.lt_tmod_of_pos d (show (0 : Int) < 7 by decide)
  have h2 := Int.tmod_lt_of_pos d (show (0 : Int) < 7 by decide)
  generalize d.tmod 7 = r at *
  generalize d.tdiv 7 = q at *
  unfold wdI
  refine ⟨fun _ => by omega, fun _ => by omega, by omega, h2⟩
end Go.Proofs.Ythlbmeemdhofpaa
