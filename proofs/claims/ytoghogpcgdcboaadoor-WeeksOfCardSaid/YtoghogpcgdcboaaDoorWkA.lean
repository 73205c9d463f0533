/- Layer 7 by numbers: a year's first Monday, its weeks, a date's week. No program. -/
import Derived.Test.YtoghogpcgdcboaaDoorCivE
namespace Go.Proofs.YtoghogpcgdcboaaDoor
set_option linter.unusedVariables false
set_option linter.unusedSimpArgs false
open Go.ChangeShapes Go.WideShapes Go.ChangeAt Go.RowKit

/-- a year of 2000 to 2399 with the same days. -/
@[irreducible] def likeI (y : Int) : Int := 2000 + y % 400
/-- the number of the Monday of week 1. -/
@[irreducible] def oneI (y : Int) : Int := yst y + 3 - (yst y + 6) % 7
/-- the weeks of a year. -/
@[irreducible] def wksI (y : Int) : Int := (oneI (y + 1) - oneI y) / 7
theorem like_bd (y : Int) : 2000 ≤ likeI y ∧ likeI y ≤ 2399 := by unfold likeI; omega
theorem like_eq (y : Int) : ∃ k : Int, y = likeI y + 400 * k ∧ (y - likeI y).tdiv 400 = k := by
  refine ⟨y / 400 - 5, by unfold likeI; omega, ?_⟩
  have e : y - likeI y = 400 * (y / 400 - 5) := by unfold likeI; omega
  rw [e, Int.mul_tdiv_cancel_left _ (by decide)]
theorem yst_cycle (y k : Int) : yst (y + 400 * k) = yst y + 146097 * k := by unfold yst; omega
theorem one_cycle (y k : Int) : oneI (y + 400 * k) = oneI y + 146097 * k := by
  unfold oneI; rw [yst_cycle]; omega
theorem wks_cycle (y k : Int) : wksI (y + 400 * k) = wksI y := by
  unfold wksI
  rw [show y + 400 * k + 1 = (y + 1) + 400 * k by omega, one_cycle, one_cycle]
  congr 1; omega
theorem one_near (y : Int) : yst y - 3 ≤ oneI y ∧ oneI y ≤ yst y + 3 ∧ (oneI y + 3) % 7 = 0 := by unfold oneI; omega
theorem one_next (y : Int) : oneI (y + 1) = oneI y + 7 * wksI y ∧ (wksI y = 52 ∨ wksI y = 53) := by
  have s := yst_succ y
  have b := ydI_bd y
  have h1 := one_near y
  have h2 := one_near (y + 1)
  unfold wksI
  omega
theorem one_wd (n : Int) : n - wdI n + 1 = n - (n + 3) % 7 := by unfold wdI; omega
theorem one_num (y : Int) : dnI y 1 4 = yst y + 3 := by
  have e : cmN y (1 - 1 : Int).toNat = 0 := rfl
  unfold dnI
  rw [e]; omega
theorem one_eq (y : Int) : dnI y 1 4 - wdI (dnI y 1 4) + 1 = oneI y := by
  rw [one_num, one_wd]; unfold oneI; omega
theorem lp_cycle (y k : Int) : lpB (y + 400 * k) = lpB y := by
  have h1 := lpB_iff (y + 400 * k)
  have h2 := lpB_iff y
  cases ha : lpB y <;> cases hb : lpB (y + 400 * k) <;> rw [ha] at h2 <;> rw [hb] at h1 <;> first | rfl | (exfalso; simp at h1 h2; omega)
theorem md_cycle (y k m : Int) : mdI (y + 400 * k) m = mdI y m := by unfold mdI; rw [lp_cycle]
theorem cm_cycle (y k : Int) (j : Nat) : cmN (y + 400 * k) j = cmN y j := by
  induction j with
  | zero => rfl
  | succ j ih => rw [cm_succ, cm_succ, ih, md_cycle]
theorem dn_cycle (y k m d : Int) : dnI (y + 400 * k) m d = dnI y m d + 146097 * k := by
  unfold dnI; rw [yst_cycle, cm_cycle]; omega
theorem wd_cycle (n k : Int) : wdI (n + 146097 * k) = wdI n := by unfold wdI; omega
/-- a date's week: its year, its number; of a number n in the year y. -/
@[irreducible] def woY (y n : Int) : Int := if oneI (y + 1) ≤ n then y + 1 else if oneI y ≤ n then y else y - 1
@[irreducible] def woW (y n : Int) : Int := (n - oneI (woY y n)) / 7 + 1
theorem woY_up {y n : Int} (h : oneI (y + 1) ≤ n) : woY y n = y + 1 := by unfold woY; exact if_pos h
theorem woY_mid {y n : Int} (h : ¬ oneI (y + 1) ≤ n) (h2 : oneI y ≤ n) : woY y n = y := by unfold woY; rw [if_neg h]; exact if_pos h2
theorem woY_low {y n : Int} (h : ¬ oneI (y + 1) ≤ n) (h2 : ¬ oneI y ≤ n) : woY y n = y - 1 := by unfold woY; rw [if_neg h]; exact if_neg h2
theorem woY_cycle (y k n : Int) : woY (y + 400 * k) (n + 146097 * k) = woY y n + 400 * k := by
  have e1 : oneI (y + 400 * k + 1) = oneI (y + 1) + 146097 * k := by rw [show y + 400 * k + 1 = (y + 1) + 400 * k by omega, one_cycle]
  have e2 := one_cycle y k
  unfold woY
  rw [e1, e2]
  repeat' split
  all_goals omega
theorem woW_cycle (y k n : Int) : woW (y + 400 * k) (n + 146097 * k) = woW y n := by
  unfold woW
  rw [woY_cycle, one_cycle]
  congr 2; omega
/-- of a number in the year y: its week lies in its week's year. -/
theorem wo_in {y n : Int} (h1 : yst y ≤ n) (h2 : n < yst (y + 1)) : oneI (woY y n) ≤ n ∧ n < oneI (woY y n + 1) ∧ y - 1 ≤ woY y n ∧ woY y n ≤ y + 1 := by
  have a1 := one_near y
  have a2 := one_near (y + 1)
  have a3 := one_near (y + 2)
  have a4 := one_near (y - 1)
  have s1 := yst_succ y
  have s2 := yst_succ (y + 1)
  have s3 := yst_succ (y - 1)
  have b1 := ydI_bd y
  have b2 := ydI_bd (y + 1)
  have b3 := ydI_bd (y - 1)
  rw [show y + 1 + 1 = y + 2 by omega] at s2
  rw [show y - 1 + 1 = y by omega] at s3
  by_cases k1 : oneI (y + 1) ≤ n
  · rw [woY_up k1, show y + 1 + 1 = y + 2 by omega]; omega
  · by_cases k2 : oneI y ≤ n
    · rw [woY_mid k1 k2]; omega
    · rw [woY_low k1 k2, show y - 1 + 1 = y by omega]; omega
theorem wo_week {y n : Int} (h1 : yst y ≤ n) (h2 : n < yst (y + 1)) :
    1 ≤ woW y n ∧ woW y n ≤ wksI (woY y n) ∧ oneI (woY y n) + 7 * (woW y n - 1) + wdI n - 1 = n ∧ 1 ≤ wdI n ∧ wdI n ≤ 7 := by
  have h := wo_in h1 h2
  have h3 := one_next (woY y n)
  have h4 := one_near (woY y n)
  have e : woW y n = (n - oneI (woY y n)) / 7 + 1 := by unfold woW; rfl
  generalize woY y n = Y at *
  generalize woW y n = W at *
  unfold wdI
  omega
/-- what a number's date is. -/
def IsDate (n Y M D E : Int) : Prop :=
  ((n < -4371587 ∨ 2932896 < n) ∧ Y = 0 ∧ M = 0 ∧ D = 0 ∧ E = 8) ∨ (mayB Y M D = true ∧ -9999 ≤ Y ∧ Y ≤ 9999 ∧ dnI Y M D = n ∧ E = 0)
theorem isDate_ex (n : Int) : ∃ Y M D E, IsDate n Y M D E := by
  by_cases h : n < -4371587 ∨ 2932896 < n
  · exact ⟨0, 0, 0, 8, Or.inl ⟨h, rfl, rfl, rfl, rfl⟩⟩
  · obtain ⟨y, m, d, hm, y1, y2, e⟩ := date_ex n (by omega) (by omega)
    exact ⟨y, m, d, 0, Or.inr ⟨hm, y1, y2, e, rfl⟩⟩
theorem rDateOf_is {n Y M D E : Int} (h : IsDate n Y M D E) (w : World) : Calls Tryd.prog 16 #[.int .i64 n] w fun e w' => e = .returned (.tuple #[.agg #[.int .i64 Y, .int .i64 M, .int .i64 D], .int .i64 E]) ∧ Below w.heap.size w w' := by
  rcases h with ⟨h, rfl, rfl, rfl, rfl⟩ | ⟨hm, y1, y2, rfl, rfl⟩
  · exact rDateOf_out n h w
  · exact rDateOf_any Y M D hm y1 y2 w
end Go.Proofs.YtoghogpcgdcboaaDoor
