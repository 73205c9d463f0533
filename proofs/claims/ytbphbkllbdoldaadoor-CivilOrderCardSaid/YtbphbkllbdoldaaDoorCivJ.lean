/- Layer 6: the program's answers beside the plain ones; the examples. -/
import Derived.Test.YtbphbkllbdoldaaDoorCivF
import Derived.Test.YtbphbkllbdoldaaDoorCivI
namespace Go.Proofs.YtbphbkllbdoldaaDoor
set_option linter.unusedVariables false
set_option linter.unusedSimpArgs false
open Go.ChangeShapes Go.WideShapes Go.ChangeAt Go.RowKit

theorem dateOf_both (n : Int) : ∃ Y M D E : Int,
    (∀ w, MD w → Calls Tryd.prog 19 #[.int .i64 n] w fun e w' => e = .returned (.tuple #[.agg #[.int .i64 Y, .int .i64 M, .int .i64 D], .int .i64 E]) ∧ Below w.heap.size w w') ∧
    (∀ w, Calls Tryd.prog 20 #[.int .i64 n] w fun e w' => e = .returned (.tuple #[.agg #[.int .i64 Y, .int .i64 M, .int .i64 D], .int .i64 E]) ∧ Below w.heap.size w w') := by
  by_cases h : n < -4371587 ∨ 2932896 < n
  · exact ⟨0, 0, 0, 8, fun w _ => pDateOf_out n h w, fun w => rDateOf_out n h w⟩
  · obtain ⟨y, m, d, hm, y1, y2, rfl⟩ := date_ex n (by omega) (by omega)
    exact ⟨y, m, d, 0, fun w hM => pDateOf_any y m d hm y1 y2 w hM, fun w => rDateOf_any y m d hm y1 y2 w⟩
theorem ofOrd_both (y n : Int) (b1 : -9223372036854775808 ≤ n) (b2 : n < 9223372036854775808) : ∃ Y M D E : Int,
    (∀ w, MD w → Calls Tryd.prog 21 #[.int .i64 y, .int .i64 n] w fun e w' => e = .returned (.tuple #[.agg #[.int .i64 Y, .int .i64 M, .int .i64 D], .int .i64 E]) ∧ Below w.heap.size w w') ∧
    (∀ w, Calls Tryd.prog 22 #[.int .i64 y, .int .i64 n] w fun e w' => e = .returned (.tuple #[.agg #[.int .i64 Y, .int .i64 M, .int .i64 D], .int .i64 E]) ∧ Below w.heap.size w w') := by
  by_cases h : n < 1 ∨ ydI y < n
  · exact ⟨0, 0, 0, 7, fun w hM => pOfOrdinal_day y n b1 b2 h w hM, fun w => rOfOrdinal_day y n h w⟩
  · have h1 : 1 ≤ n := by omega
    have h2 : n ≤ ydI y := by omega
    by_cases hy : y < -9999 ∨ 9999 < y
    · exact ⟨0, 0, 0, 8, fun w hM => pOfOrdinal_year y n b1 b2 h1 h2 hy w hM, fun w => rOfOrdinal_year y n h1 h2 hy w⟩
    · obtain ⟨m, d, hm, hd⟩ := ord_date h1 h2
      exact ⟨y, m, d, 0, fun w hM => pOfOrdinal_any y n m d b1 b2 (by omega) (by omega) hm hd w hM, fun w => rOfOrdinal_any y n m d h1 h2 (by omega) (by omega) hm hd w⟩
theorem ex_days : dyV 2000 3 1 = 11017 ∧ ckC 2000 3 1 = 0 ∧ dyV 2023 2 29 = 0 ∧ ckC 2023 2 29 = 7 ∧ dyV 10000 1 1 = 0 ∧ ckC 10000 1 1 = 8 ∧ dyV 10000 13 1 = 0 ∧ ckC 10000 13 1 = 7 ∧ wdI 11017 = 3 ∧ mayB 2024 12 31 = true ∧ dnI 2024 12 31 = yst 2024 + 366 - 1 := by decide +kernel
set_option maxHeartbeats 3200000 in
set_option maxRecDepth 100000 in
theorem awake6_any (w : World) (hM : MD w) : Calls Tryd.prog 12 #[] w fun e w' => e = .returned (.bool true) ∧ Below w.heap.size w w' := by
  obtain ⟨e1, e2, e3, e4, e5, e6, e7, e8, e9, e10, e11⟩ := ex_days
  have X1 := pDays_any 2000 3 1
  have X2 := pDays_any 2023 2 29
  have X3 := pDays_any 10000 1 1
  have X4 := pDays_any 10000 13 1
  rw [e1, e2] at X1
  rw [e3, e4] at X2
  rw [e5, e6] at X3
  rw [e7, e8] at X4
  have X6 := fun w => grow_of (pWeekday_p 11017 w)
  rw [e9] at X6
  have H1 := Lib.hid X1
  have H2 := Lib.hid X2
  have H3 := Lib.hid X3
  have H4 := Lib.hid X4
  have H5 := Lib.hid (pOfOrdinal_any 2024 366 12 31 (by decide) (by decide) (by decide) (by decide) e10 e11)
  have H6 := Lib.hid X6
  clear X1 X2 X3 X4 X6 e1 e2 e3 e4 e5 e6 e7 e8 e9 e10 e11
  replace hM := Lib.hid hM
  go_enter Tryd.func12, Tryd.ntmps12
  go_wp2_with fail
  
  refine (H1.out _ (by first | exact md_keep hM (Below.refl w.heap.size w) | exact md_keep hM ((Below.refl w.heap.size w).alloc (Nat.le_refl _) _) | exact md_keep hM (((Below.refl w.heap.size w).alloc (Nat.le_refl _) _).alloc (by simp <;> omega) _) | exact md_keep hM ((((Below.refl w.heap.size w).alloc (Nat.le_refl _) _).alloc (by simp <;> omega) _).alloc (by simp <;> omega) _))).mono ?_
  rintro e V1 ⟨rfl, hb1⟩
  have B1 : Hid (Below w.heap.size w V1) := by first | exact Lib.hid ((Below.refl w.heap.size w).trans (hb1.mono (by first | assumption | (simp <;> omega) | (simp; done)))) | exact Lib.hid (((Below.refl w.heap.size w).alloc (Nat.le_refl _) _).trans (hb1.mono (by first | assumption | (simp <;> omega) | (simp; done)))) | exact Lib.hid ((((Below.refl w.heap.size w).alloc (Nat.le_refl _) _).alloc (by simp <;> omega) _).trans (hb1.mono (by first | assumption | (simp <;> omega) | (simp; done)))) | exact Lib.hid (((((Below.refl w.heap.size w).alloc (Nat.le_refl _) _).alloc (by simp <;> omega) _).alloc (by simp <;> omega) _).trans (hb1.mono (by first | assumption | (simp <;> omega) | (simp; done))))
  clear hb1
  go_simp
  go_wp2_with fail
  refine (H2.out _ (by first | exact md_keep hM (B1.out) | exact md_keep hM ((B1.out).alloc (B1.out.size) _) | exact md_keep hM (((B1.out).alloc (B1.out.size) _).alloc (by have := B1.out.size; simp <;> omega) _) | exact md_keep hM ((((B1.out).alloc (B1.out.size) _).alloc (by have := B1.out.size; simp <;> omega) _).alloc (by have := B1.out.size; simp <;> omega) _))).mono ?_
  rintro e V2 ⟨rfl, hb2⟩
  have B2 : Hid (Below w.heap.size w V2) := by first | exact Lib.hid ((B1.out).trans (hb2.mono (by have := B1.out.size; first | assumption | (simp <;> omega) | (simp; done)))) | exact Lib.hid (((B1.out).alloc (B1.out.size) _).trans (hb2.mono (by have := B1.out.size; first | assumption | (simp <;> omega) | (simp; done)))) | exact Lib.hid ((((B1.out).alloc (B1.out.size) _).alloc (by have := B1.out.size; simp <;> omega) _).trans (hb2.mono (by have := B1.out.size; first | assumption | (simp <;> omega) | (simp; done)))) | exact Lib.hid (((((B1.out).alloc (B1.out.size) _).alloc (by have := B1.out.size; simp <;> omega) _).alloc (by have := B1.out.size; simp <;> omega) _).trans (hb2.mono (by have := B1.out.size; first | assumption | (simp <;> omega) | (simp; done))))
  clear hb2
  go_simp
  go_wp2_with fail
  refine (H3.out _ (by first | exact md_keep hM (B2.out) | exact md_keep hM ((B2.out).alloc (B2.out.size) _) | exact md_keep hM (((B2.out).alloc (B2.out.size) _).alloc (by have := B2.out.size; simp <;> omega) _) | exact md_keep hM ((((B2.out).alloc (B2.out.size) _).alloc (by have := B2.out.size; simp <;> omega) _).alloc (by have := B2.out.size; simp <;> omega) _))).mono ?_
  rintro e V3 ⟨rfl, hb3⟩
  have B3 : Hid (Below w.heap.size w V3) := by first | exact Lib.hid ((B2.out).trans (hb3.mono (by have := B2.out.size; first | assumption | (simp <;> omega) | (simp; done)))) | exact Lib.hid (((B2.out).alloc (B2.out.size) _).trans (hb3.mono (by have := B2.out.size; first | assumption | (simp <;> omega) | (simp; done)))) | exact Lib.hid ((((B2.out).alloc (B2.out.size) _).alloc (by have := B2.out.size; simp <;> omega) _).trans (hb3.mono (by have := B2.out.size; first | assumption | (simp <;> omega) | (simp; done)))) | exact Lib.hid (((((B2.out).alloc (B2.out.size) _).alloc (by have := B2.out.size; simp <;> omega) _).alloc (by have := B2.out.size; simp <;> omega) _).trans (hb3.mono (by have := B2.out.size; first | assumption | (simp <;> omega) | (simp; done))))
  clear hb3
  go_simp
  go_wp2_with fail
  refine (H4.out _ (by first | exact md_keep hM (B3.out) | exact md_keep hM ((B3.out).alloc (B3.out.size) _) | exact md_keep hM (((B3.out).alloc (B3.out.size) _).alloc (by have := B3.out.size; simp <;> omega) _) | exact md_keep hM ((((B3.out).alloc (B3.out.size) _).alloc (by have := B3.out.size; simp <;> omega) _).alloc (by have := B3.out.size; simp <;> omega) _))).mono ?_
  rintro e V4 ⟨rfl, hb4⟩
  have B4 : Hid (Below w.heap.size w V4) := by first | exact Lib.hid ((B3.out).trans (hb4.mono (by have := B3.out.size; first | assumption | (simp <;> omega) | (simp; done)))) | exact Lib.hid (((B3.out).alloc (B3.out.size) _).trans (hb4.mono (by have := B3.out.size; first | assumption | (simp <;> omega) | (simp; done)))) | exact Lib.hid ((((B3.out).alloc (B3.out.size) _).alloc (by have := B3.out.size; simp <;> omega) _).trans (hb4.mono (by have := B3.out.size; first | assumption | (simp <;> omega) | (simp; done)))) | exact Lib.hid (((((B3.out).alloc (B3.out.size) _).alloc (by have := B3.out.size; simp <;> omega) _).alloc (by have := B3.out.size; simp <;> omega) _).trans (hb4.mono (by have := B3.out.size; first | assumption | (simp <;> omega) | (simp; done))))
  clear hb4
  go_simp
  go_wp2_with fail
  refine (H5.out _ (by first | exact md_keep hM (B4.out) | exact md_keep hM ((B4.out).alloc (B4.out.size) _) | exact md_keep hM (((B4.out).alloc (B4.out.size) _).alloc (by have := B4.out.size; simp <;> omega) _) | exact md_keep hM ((((B4.out).alloc (B4.out.size) _).alloc (by have := B4.out.size; simp <;> omega) _).alloc (by have := B4.out.size; simp <;> omega) _))).mono ?_
  rintro e V5 ⟨rfl, hb5⟩
  have B5 : Hid (Below w.heap.size w V5) := by first | exact Lib.hid ((B4.out).trans (hb5.mono (by have := B4.out.size; first | assumption | (simp <;> omega) | (simp; done)))) | exact Lib.hid (((B4.out).alloc (B4.out.size) _).trans (hb5.mono (by have := B4.out.size; first | assumption | (simp <;> omega) | (simp; done)))) | exact Lib.hid ((((B4.out).alloc (B4.out.size) _).alloc (by have := B4.out.size; simp <;> omega) _).trans (hb5.mono (by have := B4.out.size; first | assumption | (simp <;> omega) | (simp; done)))) | exact Lib.hid (((((B4.out).alloc (B4.out.size) _).alloc (by have := B4.out.size; simp <;> omega) _).alloc (by have := B4.out.size; simp <;> omega) _).trans (hb5.mono (by have := B4.out.size; first | assumption | (simp <;> omega) | (simp; done))))
  clear hb5
  go_simp
  go_wp2_with fail
  refine (H6.out _).mono ?_
  rintro e V6 ⟨rfl, hb6⟩
  have B6 := Lib.hid (((B5.out).alloc (B5.out.size) _).trans (hb6.mono (by have := B5.out.size; first | assumption | (simp <;> omega) | (simp; done))))
  have X1 := Lib.hid (row_call hb6 (heap_alloc_new _ _))
  clear hb6
  have X1_0 : V6.cell? ⟨V5.heap.size, 0, none⟩ = some (.int .i64 2024) := cell_of_row _ _ _ _ _ _ X1.out
  have X1_1 : V6.cell? ⟨V5.heap.size, 1, none⟩ = some (.int .i64 12) := cell_of_row _ _ _ _ _ _ X1.out
  have X1_2 : V6.cell? ⟨V5.heap.size, 2, none⟩ = some (.int .i64 31) := cell_of_row _ _ _ _ _ _ X1.out
  have zX1 := lt_of_heap X1.out
  go_simp
  go_wp2
  go_ret
  exact ⟨rfl, by first | exact B6.out | exact B6.out.alloc B6.out.size _⟩
theorem wd_next (n : Int) : wdI (n + 1) = wdI n % 7 + 1 ∧ 1 ≤ wdI n ∧ wdI n ≤ 7 := by unfold wdI; omega
theorem ord3_lt {y m d y' m' d' : Int} (h : dLt y m d y' m' d') : ord3 y m d y' m' d' = -1 ∧ ord3 y' m' d' y m d = 1 := by
  unfold dLt at h
  unfold ord3
  constructor
  all_goals
    repeat' split
    all_goals omega
theorem ord3_three (y m d y' m' d' : Int) : dLt y m d y' m' d' ∨ dLt y' m' d' y m d ∨ (y = y' ∧ m = m' ∧ d = d') := by unfold dLt; omega
theorem ord3_self (y m d : Int) : ord3 y m d y m d = 0 := by unfold ord3; repeat' split
                                                             all_goals omega
end Go.Proofs.YtbphbkllbdoldaaDoor
