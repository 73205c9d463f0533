/- The plain answers of layer 6: leap years, the months' days, weekdays. -/
import Derived.Test.YtoghogpcgdcboaaDoorRefA
import Derived.WalkKit
import Derived.ProofKit
import Derived.Handy
import Derived.Outline
import Derived.Lib.Hide
import Derived.OwnWalk
namespace Go.Proofs.YtoghogpcgdcboaaDoor
set_option linter.unusedVariables false
set_option linter.unusedSimpArgs false
open Go.ChangeShapes Go.WideShapes Go.ChangeAt Go.RowKit

@[irreducible] def lpB (y : Int) : Bool := decide (y % 4 = 0) && (!decide (y % 100 = 0) || decide (y % 400 = 0))
@[irreducible] def mdI (y m : Int) : Int :=
  if m = 1 ∨ m = 3 ∨ m = 5 ∨ m = 7 ∨ m = 8 ∨ m = 10 ∨ m = 12 then 31 else if m = 4 ∨ m = 6 ∨ m = 9 ∨ m = 11 then 30 else if m = 2 then (if lpB y = true then 29 else 28) else 0
@[irreducible] def ydI (y : Int) : Int := if lpB y = true then 366 else 365
theorem tmod_zero (y k : Int) : (y.tmod k = 0) ↔ (y % k = 0) := by
  rw [← Int.dvd_iff_emod_eq_zero, ← Int.dvd_iff_tmod_eq_zero]
theorem lpB_tmod (y : Int) : lpB y = ((y.tmod 4 == 0) && (!(y.tmod 100 == 0) || (y.tmod 400 == 0))) := by
  have h (k : Int) : (y.tmod k == 0) = decide (y % k = 0) := by
    have := tmod_zero y k
    rw [Bool.eq_iff_iff, beq_iff_eq, decide_eq_true_eq]; exact this
  unfold lpB
  rw [h, h, h]
theorem lpB_iff (y : Int) : lpB y = true ↔ (y % 4 = 0 ∧ (y % 100 ≠ 0 ∨ y % 400 = 0)) := by
  unfold lpB; simp
theorem ydI_eq (y : Int) : (lpB y = true ∧ ydI y = 366) ∨ (lpB y = false ∧ ydI y = 365) := by
  unfold ydI
  cases h : lpB y
  · exact Or.inr ⟨rfl, if_neg (by decide)⟩
  · exact Or.inl ⟨rfl, if_pos rfl⟩
set_option maxHeartbeats 1600000 in
theorem rLeap_p (y : Int) (w : World) : Calls Tryd.prog 39 #[.int .i64 y] w fun e w' => e = .returned (.bool (lpB y)) ∧ w = w' := by
  have E := Lib.hid (lpB_tmod y)
  generalize lpB y = l at *
  generalize h4 : y.tmod 4 = r4 at *
  generalize h100 : y.tmod 100 = r100 at *
  generalize h400 : y.tmod 400 = r400 at *
  go_enter Tryd.func39, Tryd.ntmps39
  go_wp2
  all_goals (go_ret; exact ⟨by rw [E.out]; simp [*], rfl⟩)
theorem mdI_1 (y : Int) : mdI y 1 = 31 := by unfold mdI; rfl
theorem mdI_2 (y : Int) : mdI y 3 = 31 := by unfold mdI; rfl
theorem mdI_3 (y : Int) : mdI y 5 = 31 := by unfold mdI; rfl
theorem mdI_4 (y : Int) : mdI y 7 = 31 := by unfold mdI; rfl
theorem mdI_5 (y : Int) : mdI y 8 = 31 := by unfold mdI; rfl
theorem mdI_6 (y : Int) : mdI y 10 = 31 := by unfold mdI; rfl
theorem mdI_7 (y : Int) : mdI y 12 = 31 := by unfold mdI; rfl
theorem mdI_8 (y : Int) : mdI y 4 = 30 := by unfold mdI; rfl
theorem mdI_9 (y : Int) : mdI y 6 = 30 := by unfold mdI; rfl
theorem mdI_a (y : Int) : mdI y 9 = 30 := by unfold mdI; rfl
theorem mdI_b (y : Int) : mdI y 11 = 30 := by unfold mdI; rfl
theorem mdI_feb (y : Int) : mdI y 2 = if lpB y = true then 29 else 28 := by unfold mdI; rfl
theorem mdI_none (y m : Int) (h : m < 1 ∨ 12 < m) : mdI y m = 0 := by unfold mdI; rw [if_neg (by omega), if_neg (by omega), if_neg (by omega)]
theorem month_cases (m : Int) : (m < 1 ∨ 12 < m) ∨ m = 1 ∨ m = 2 ∨ m = 3 ∨ m = 4 ∨ m = 5 ∨ m = 6 ∨ m = 7 ∨ m = 8 ∨ m = 9 ∨ m = 10 ∨ m = 11 ∨ m = 12 := by omega
theorem mdI_le (y m : Int) : 0 ≤ mdI y m ∧ mdI y m ≤ 31 := by 
  unfold mdI
  repeat' split
  all_goals omega
set_option maxHeartbeats 1600000 in
theorem rMonthDays_p (y m : Int) (w : World) : Calls Tryd.prog 31 #[.int .i64 y, .int .i64 m] w fun e w' => e = .returned (.int .i64 (mdI y m)) ∧ w = w' := by
  have X1 := rLeap_p y
  rcases month_cases m with h | h | h | h | h | h | h | h | h | h | h | h | h
  · have E := Lib.hid (mdI_none y m h)
    have n1 : ¬ m = 1 := by omega
    have n2 : ¬ m = 2 := by omega
    have n3 : ¬ m = 3 := by omega
    have n4 : ¬ m = 4 := by omega
    have n5 : ¬ m = 5 := by omega
    have n6 : ¬ m = 6 := by omega
    have n7 : ¬ m = 7 := by omega
    have n8 : ¬ m = 8 := by omega
    have n9 : ¬ m = 9 := by omega
    have n10 : ¬ m = 10 := by omega
    have n11 : ¬ m = 11 := by omega
    have n12 : ¬ m = 12 := by omega
    clear h X1
    go_enter Tryd.func31, Tryd.ntmps31
    go_wp2
    go_ret
    exact ⟨by rw [E.out]; try rfl, rfl⟩
  case' inr.inr.inl =>
    subst h
    have E := Lib.hid (mdI_feb y)
    cases hl : lpB y
    all_goals
      rw [hl] at X1
      have H1 := Lib.hid X1
      have HL := Lib.hid hl
      clear X1 hl
      go_enter Tryd.func31, Tryd.ntmps31
      go_wp2_with fail
      refine (H1.out _).mono ?_
      rintro e w1 ⟨rfl, rfl⟩
      go_wp2
      go_ret
      exact ⟨by rw [E.out, HL.out]; try rfl, rfl⟩
  all_goals
    clear X1
    subst h
    go_enter Tryd.func31, Tryd.ntmps31
    go_wp2
    go_ret
    first
    | exact ⟨by rw [mdI_1]; rfl, rfl⟩ | exact ⟨by rw [mdI_2]; rfl, rfl⟩ | exact ⟨by rw [mdI_3]; rfl, rfl⟩ | exact ⟨by rw [mdI_4]; rfl, rfl⟩ | exact ⟨by rw [mdI_5]; rfl, rfl⟩ | exact ⟨by rw [mdI_6]; rfl, rfl⟩
    | exact ⟨by rw [mdI_7]; rfl, rfl⟩ | exact ⟨by rw [mdI_8]; rfl, rfl⟩ | exact ⟨by rw [mdI_9]; rfl, rfl⟩ | exact ⟨by rw [mdI_a]; rfl, rfl⟩ | exact ⟨by rw [mdI_b]; rfl, rfl⟩
set_option maxHeartbeats 1600000 in
theorem rYearDays_p (y : Int) (w : World) : Calls Tryd.prog 30 #[.int .i64 y] w fun e w' => e = .returned (.int .i64 (ydI y)) ∧ w = w' := by
  have X1 := rLeap_p y
  rcases ydI_eq y with ⟨h1, h2⟩ | ⟨h1, h2⟩
  all_goals
    rw [h1] at X1
    have H1 := Lib.hid X1
    have E := Lib.hid h2
    clear X1 h1 h2
    go_enter Tryd.func30, Tryd.ntmps30
    go_wp2_with fail
    refine (H1.out _).mono ?_
    rintro e w1 ⟨rfl, rfl⟩
    go_wp2
    go_ret
    exact ⟨by rw [E.out]; try rfl, rfl⟩
/-- the weekday of a day's number. -/
@[irreducible] def wdI (d : Int) : Int := (d + 3) % 7 + 1
theorem wd_parts (d : Int) : (d.tmod 7 < 0 → wdI d = (d.tmod 7 + 7 + 3) % 7 + 1) ∧ (¬ d.tmod 7 < 0 → wdI d = (d.tmod 7 + 3) % 7 + 1) ∧ -7 < d.tmod 7 ∧ d.tmod 7 < 7 := by
  have h := Int.tmod_add_mul_tdiv d 7
  have h1 := Int.lt_tmod_of_pos d (show (0 : Int) < 7 by decide)
  have h2 := Int.tmod_lt_of_pos d (show (0 : Int) < 7 by decide)
  generalize d.tmod 7 = r at *
  generalize d.tdiv 7 = q at *
  unfold wdI
  refine ⟨fun _ => by omega, fun _ => by omega, by omega, h2⟩
set_option maxHeartbeats 1600000 in
theorem rWeekday_p (d : Int) (w : World) : Calls Tryd.prog 26 #[.int .i64 d] w fun e w' => e = .returned (.int .i64 (wdI d)) ∧ w = w' := by
  obtain ⟨h1, h2, h3, h4⟩ := wd_parts d
  generalize hr : d.tmod 7 = r at *
  by_cases hn : r < 0
  · have E := Lib.hid (h1 hn)
    clear h1 h2
    have hp : 0 ≤ r + 7 := by omega
    go_enter Tryd.func26, Tryd.ntmps26
    go_wp2
    go_ret
    exact ⟨by rw [E.out]; try rfl, rfl⟩
  · have E := Lib.hid (h2 hn)
    clear h1 h2
    have hp : 0 ≤ r := by omega
    go_enter Tryd.func26, Tryd.ntmps26
    go_wp2
    go_ret
    exact ⟨by rw [E.out]; try rfl, rfl⟩
end Go.Proofs.YtoghogpcgdcboaaDoor
