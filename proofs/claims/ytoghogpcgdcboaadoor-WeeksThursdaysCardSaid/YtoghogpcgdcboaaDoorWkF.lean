/- Layer 7: the program's answers beside the plain ones; the examples; the walks of the laws. -/
import Derived.Test.YtoghogpcgdcboaaDoorWkE
namespace Go.Proofs.YtoghogpcgdcboaaDoor
set_option linter.unusedVariables false
set_option linter.unusedSimpArgs false
open Go.ChangeShapes Go.WideShapes Go.ChangeAt Go.RowKit

theorem wof_both (y m d : Int) : ∃ a b c e : Int,
    (∀ w, MD w → Calls Tryd.prog 8 #[.agg #[.int .i64 y, .int .i64 m, .int .i64 d]] w fun r w' => r = .returned (.tuple #[.int .i64 a, .int .i64 b, .int .i64 c, .int .i64 e]) ∧ Below w.heap.size w w') ∧
    (∀ w, Calls Tryd.prog 9 #[.agg #[.int .i64 y, .int .i64 m, .int .i64 d]] w fun r w' => r = .returned (.tuple #[.int .i64 a, .int .i64 b, .int .i64 c, .int .i64 e]) ∧ Below w.heap.size w w') := by
  by_cases hc : ckC y m d = 0
  · exact ⟨_, _, _, _, fun w hM => pWOf_any y m d hc w hM, fun w => rWOf_any y m d hc w⟩
  · exact ⟨_, _, _, _, fun w hM => pWOf_no y m d hc w hM, fun w => rWOf_no y m d hc w⟩
theorem one_ends : oneI (-9999) = -4371587 ∧ 2932896 < oneI 10000 := by decide +kernel
theorem wdate_both (y k j : Int) : ∃ Y M D E : Int,
    (∀ w, MD w → Calls Tryd.prog 11 #[.int .i64 y, .int .i64 k, .int .i64 j] w fun e w' => e = .returned (.tuple #[.agg #[.int .i64 Y, .int .i64 M, .int .i64 D], .int .i64 E]) ∧ Below w.heap.size w w') ∧
    (∀ w, Calls Tryd.prog 12 #[.int .i64 y, .int .i64 k, .int .i64 j] w fun e w' => e = .returned (.tuple #[.agg #[.int .i64 Y, .int .i64 M, .int .i64 D], .int .i64 E]) ∧ Below w.heap.size w w') := by
  by_cases h : wkNo y k j
  · exact ⟨0, 0, 0, 7, fun w hM => pWDate_no y k j h w hM, fun w => rWDate_no y k j h w⟩
  · by_cases hy : y < -10000 ∨ 10000 < y
    · exact ⟨0, 0, 0, 8, fun w hM => pWDate_out y k j h (by omega) w hM, fun w => rWDate_out y k j h hy w⟩
    · obtain ⟨Y, M, D, E, hd⟩ := isDate_ex (oneI y + 7 * (k - 1) + j - 1)
      by_cases hy2 : y < -9999 ∨ 9999 < y
      · refine ⟨0, 0, 0, 8, fun w hM => pWDate_out y k j h hy2 w hM, fun w => rWDate_any y k j h (by omega) (by omega) (Or.inl ⟨?_, rfl, rfl, rfl, rfl⟩) w⟩
        obtain ⟨_, _, q1, q2, q3, q4, q5⟩ := wk_ord h
        obtain ⟨e1, e2⟩ := one_ends
        rcases hy2 with hy2 | hy2
        · obtain rfl : y = -10000 := by omega
          have n1 := (one_next (-10000)).1
          rw [show (-10000 : Int) + 1 = -9999 from rfl, e1] at n1
          left; omega
        · obtain rfl : y = 10000 := by omega
          right; omega
      · exact ⟨Y, M, D, E, fun w hM => pWDate_any y k j h (by omega) (by omega) hd w hM, fun w => rWDate_any y k j h (by omega) (by omega) hd w⟩
theorem ex_weeks : woY 2021 (dnI 2021 1 3) = 2020 ∧ woW 2021 (dnI 2021 1 3) = 53 ∧ wdI (dnI 2021 1 3) = 7 ∧ ckC 2021 1 3 = 0 ∧ wksI 2020 = 53 ∧ wksI 2021 = 52 ∧ mayB 2021 1 3 = true ∧ dnI 2021 1 3 = oneI 2020 + 7 * (53 - 1) + 7 - 1 := by decide +kernel
set_option maxHeartbeats 3200000 in
set_option maxRecDepth 100000 in
theorem awake7_any (w : World) (hM : MD w) : Calls Tryd.prog 10 #[] w fun e w' => e = .returned (.bool true) ∧ Below w.heap.size w w' := by
  obtain ⟨e1, e2, e3, e4, e5, e6, e7, e8⟩ := ex_weeks
  have X1 := pWOf_any 2021 1 3 e4
  rw [e1, e2, e3] at X1
  have H1 := Lib.hid X1
  have H2 := Lib.hid (pWDate_any 2020 53 7 (by unfold wkNo; rw [e5]; decide) (by decide) (by decide) (Or.inr ⟨e7, by decide, by decide, e8, rfl⟩))
  have H3 := Lib.hid (pWDate_no 2021 53 1 (by unfold wkNo; rw [e6]; decide))
  have X4 := pWeeks_any 2020
  rw [e5] at X4
  have H4 := Lib.hid X4
  clear X1 X4 e1 e2 e3 e4 e5 e6 e7 e8
  replace hM := Lib.hid hM
  go_enter Tryd.func10, Tryd.ntmps10
  go_wp2_with fail
  
  refine (H1.out _ (by first | exact md_keep hM (Below.refl w.heap.size w) | exact md_keep hM ((Below.refl w.heap.size w).alloc (Nat.le_refl _) _) | exact md_keep hM (((Below.refl w.heap.size w).alloc (Nat.le_refl _) _).alloc (by simp <;> omega) _) | exact md_keep hM ((((Below.refl w.heap.size w).alloc (Nat.le_refl _) _).alloc (by simp <;> omega) _).alloc (by simp <;> omega) _))).mono ?_
  rintro e V1 ⟨rfl, hb1⟩
  have B1 : Hid (Below w.heap.size w V1) := by first | exact Lib.hid ((Below.refl w.heap.size w).trans (hb1.mono (by first | assumption | (simp <;> omega) | (simp; done)))) | exact Lib.hid (((Below.refl w.heap.size w).alloc (Nat.le_refl _) _).trans (hb1.mono (by first | assumption | (simp <;> omega) | (simp; done)))) | exact Lib.hid ((((Below.refl w.heap.size w).alloc (Nat.le_refl _) _).alloc (by simp <;> omega) _).trans (hb1.mono (by first | assumption | (simp <;> omega) | (simp; done)))) | exact Lib.hid (((((Below.refl w.heap.size w).alloc (Nat.le_refl _) _).alloc (by simp <;> omega) _).alloc (by simp <;> omega) _).trans (hb1.mono (by first | assumption | (simp <;> omega) | (simp; done))))
  clear hb1
  go_simp
  go_wp2_with fail
  refine (H2.out _ (by first | exact md_keep hM (B1.out) | exact md_keep hM ((B1.out).alloc (B1.out.size) _) | exact md_keep hM (((B1.out).alloc (B1.out.size) _).alloc (by have := B1.out.size; simp <;> omega) _) | exact md_keep hM ((((B1.out).alloc (B1.out.size) _).alloc (by have := B1.out.size; simp <;> omega) _).alloc (by have := B1.out.size; simp <;> omega) _))).mono ?_
  rintro e V2 ⟨rfl, hb2⟩
  have B2 : Hid (Below w.heap.size w V2) := by first | exact Lib.hid ((B1.out).trans (hb2.mono (by have := B1.out.size; first | assumption | (simp <;> omega) | (simp; done)))) | exact Lib.hid (((B1.out).alloc (B1.out.size) _).trans (hb2.mono (by have := B1.out.size; first | assumption | (simp <;> omega) | (simp; done)))) | exact Lib.hid ((((B1.out).alloc (B1.out.size) _).alloc (by have := B1.out.size; simp <;> omega) _).trans (hb2.mono (by have := B1.out.size; first | assumption | (simp <;> omega) | (simp; done)))) | exact Lib.hid (((((B1.out).alloc (B1.out.size) _).alloc (by have := B1.out.size; simp <;> omega) _).alloc (by have := B1.out.size; simp <;> omega) _).trans (hb2.mono (by have := B1.out.size; first | assumption | (simp <;> omega) | (simp; done))))
  clear hb2
  go_simp
  go_wp2_with fail
  refine (H3.out _ (by first | exact md_keep hM ((B2.out).alloc (B2.out.size) _))).mono ?_
  rintro e V3 ⟨rfl, hb3⟩
  have B3 := Lib.hid (((B2.out).alloc (B2.out.size) _).trans (hb3.mono (by have := B2.out.size; first | assumption | (simp <;> omega) | (simp; done))))
  have X1 := Lib.hid (row_call hb3 (heap_alloc_new _ _))
  clear hb3
  have X1_0 : V3.cell? ⟨V2.heap.size, 0, none⟩ = some (.int .i64 2021) := cell_of_row _ _ _ _ _ _ X1.out
  have X1_1 : V3.cell? ⟨V2.heap.size, 1, none⟩ = some (.int .i64 1) := cell_of_row _ _ _ _ _ _ X1.out
  have X1_2 : V3.cell? ⟨V2.heap.size, 2, none⟩ = some (.int .i64 3) := cell_of_row _ _ _ _ _ _ X1.out
  have zX1 := lt_of_heap X1.out
  go_simp
  go_wp2_with fail
  refine (H4.out _ (by first | exact md_keep hM ((B3.out).alloc (B3.out.size) _))).mono ?_
  rintro e V4 ⟨rfl, hb4⟩
  clear X1_0 X1_1 X1_2 zX1
  have nX1Y1 := Lib.hid (lt_of_heap X1.out)
  have B4 := Lib.hid (((B3.out).alloc (B3.out.size) _).trans (hb4.mono (by have := B3.out.size; first | assumption | (simp <;> omega) | (simp; done))))
  replace X1 := Lib.hid (row_call hb4 (row_alloc X1.out _))
  have Y1 := Lib.hid (row_call hb4 (heap_alloc_new _ _))
  clear hb4
  have X1_0 : V4.cell? ⟨V2.heap.size, 0, none⟩ = some (.int .i64 2021) := cell_of_row _ _ _ _ _ _ X1.out
  have X1_1 : V4.cell? ⟨V2.heap.size, 1, none⟩ = some (.int .i64 1) := cell_of_row _ _ _ _ _ _ X1.out
  have X1_2 : V4.cell? ⟨V2.heap.size, 2, none⟩ = some (.int .i64 3) := cell_of_row _ _ _ _ _ _ X1.out
  have Y1_0 : V4.cell? ⟨V3.heap.size, 0, none⟩ = some (.int .i64 0) := cell_of_row _ _ _ _ _ _ Y1.out
  have Y1_1 : V4.cell? ⟨V3.heap.size, 1, none⟩ = some (.int .i64 0) := cell_of_row _ _ _ _ _ _ Y1.out
  have Y1_2 : V4.cell? ⟨V3.heap.size, 2, none⟩ = some (.int .i64 0) := cell_of_row _ _ _ _ _ _ Y1.out
  have zX1 := lt_of_heap X1.out
  have zY1 := lt_of_heap Y1.out
  go_simp
  go_wp2
  go_ret
  exact ⟨rfl, by first | exact B4.out | exact B4.out.alloc B4.out.size _⟩
set_option maxHeartbeats 3200000 in
set_option maxRecDepth 100000 in
theorem weeksOf_walk (y m d : Int) (w : World) (hM : MD w) : Calls Tryd.prog 3 #[.agg #[.int .i64 y, .int .i64 m, .int .i64 d]] w fun e w' => e = .returned (.bool true) ∧ Below w.heap.size w w' := by
  obtain ⟨a, b, c, E, X1, X2⟩ := wof_both y m d
  have H1 := Lib.hid X1
  have H2 := Lib.hid X2
  have H7 := Lib.hid awake7_any
  clear X1 X2
  replace hM := Lib.hid hM
  go_enter Tryd.func3, Tryd.ntmps3
  go_wp2_with fail
  
  refine (H1.out _ (by first | exact md_keep hM ((Below.refl w.heap.size w).alloc (Nat.le_refl _) _))).mono ?_
  rintro e V1 ⟨rfl, hb1⟩
  have B1 := Lib.hid (((Below.refl w.heap.size w).alloc (Nat.le_refl _) _).trans (hb1.mono (by first | assumption | (simp <;> omega) | (simp; done))))
  have A1 := Lib.hid (row_call hb1 (heap_alloc_new _ _))
  clear hb1
  have A1_0 : V1.cell? ⟨w.heap.size, 0, none⟩ = some (.int .i64 y) := cell_of_row _ _ _ _ _ _ A1.out
  have A1_1 : V1.cell? ⟨w.heap.size, 1, none⟩ = some (.int .i64 m) := cell_of_row _ _ _ _ _ _ A1.out
  have A1_2 : V1.cell? ⟨w.heap.size, 2, none⟩ = some (.int .i64 d) := cell_of_row _ _ _ _ _ _ A1.out
  have zA1 := lt_of_heap A1.out
  go_simp
  go_wp2_with fail
  refine (H2.out _).mono ?_
  rintro e V2 ⟨rfl, hb2⟩
  clear A1_0 A1_1 A1_2 zA1
  have B2 : Hid (Below w.heap.size w V2) := by first | exact Lib.hid ((B1.out).trans (hb2.mono (by have := B1.out.size; first | assumption | (simp <;> omega) | (simp; done)))) | exact Lib.hid (((B1.out).alloc (B1.out.size) _).trans (hb2.mono (by have := B1.out.size; first | assumption | (simp <;> omega) | (simp; done)))) | exact Lib.hid ((((B1.out).alloc (B1.out.size) _).alloc (by have := B1.out.size; simp <;> omega) _).trans (hb2.mono (by have := B1.out.size; first | assumption | (simp <;> omega) | (simp; done)))) | exact Lib.hid (((((B1.out).alloc (B1.out.size) _).alloc (by have := B1.out.size; simp <;> omega) _).alloc (by have := B1.out.size; simp <;> omega) _).trans (hb2.mono (by have := B1.out.size; first | assumption | (simp <;> omega) | (simp; done))))
  first | replace A1 := Lib.hid (row_call hb2 A1.out) | replace A1 := Lib.hid (row_call hb2 (row_alloc A1.out _)) | replace A1 := Lib.hid (row_call hb2 (row_alloc (row_alloc A1.out _) _)) | replace A1 := Lib.hid (row_call hb2 (row_alloc (row_alloc (row_alloc A1.out _) _) _))
  clear hb2
  have A1_0 : V2.cell? ⟨w.heap.size, 0, none⟩ = some (.int .i64 y) := cell_of_row _ _ _ _ _ _ A1.out
  have A1_1 : V2.cell? ⟨w.heap.size, 1, none⟩ = some (.int .i64 m) := cell_of_row _ _ _ _ _ _ A1.out
  have A1_2 : V2.cell? ⟨w.heap.size, 2, none⟩ = some (.int .i64 d) := cell_of_row _ _ _ _ _ _ A1.out
  have zA1 := lt_of_heap A1.out
  go_simp
  go_wp2_with fail
  refine (H7.out _ (by first | exact md_keep hM (B2.out) | exact md_keep hM ((B2.out).alloc (B2.out.size) _) | exact md_keep hM (((B2.out).alloc (B2.out.size) _).alloc (by have := B2.out.size; simp <;> omega) _) | exact md_keep hM ((((B2.out).alloc (B2.out.size) _).alloc (by have := B2.out.size; simp <;> omega) _).alloc (by have := B2.out.size; simp <;> omega) _))).mono ?_
  rintro e V3 ⟨rfl, hb3⟩
  clear A1_0 A1_1 A1_2 zA1
  have B3 : Hid (Below w.heap.size w V3) := by first | exact Lib.hid ((B2.out).trans (hb3.mono (by have := B2.out.size; first | assumption | (simp <;> omega) | (simp; done)))) | exact Lib.hid (((B2.out).alloc (B2.out.size) _).trans (hb3.mono (by have := B2.out.size; first | assumption | (simp <;> omega) | (simp; done)))) | exact Lib.hid ((((B2.out).alloc (B2.out.size) _).alloc (by have := B2.out.size; simp <;> omega) _).trans (hb3.mono (by have := B2.out.size; first | assumption | (simp <;> omega) | (simp; done)))) | exact Lib.hid (((((B2.out).alloc (B2.out.size) _).alloc (by have := B2.out.size; simp <;> omega) _).alloc (by have := B2.out.size; simp <;> omega) _).trans (hb3.mono (by have := B2.out.size; first | assumption | (simp <;> omega) | (simp; done))))
  first | replace A1 := Lib.hid (row_call hb3 A1.out) | replace A1 := Lib.hid (row_call hb3 (row_alloc A1.out _)) | replace A1 := Lib.hid (row_call hb3 (row_alloc (row_alloc A1.out _) _)) | replace A1 := Lib.hid (row_call hb3 (row_alloc (row_alloc (row_alloc A1.out _) _) _))
  clear hb3
  have A1_0 : V3.cell? ⟨w.heap.size, 0, none⟩ = some (.int .i64 y) := cell_of_row _ _ _ _ _ _ A1.out
  have A1_1 : V3.cell? ⟨w.heap.size, 1, none⟩ = some (.int .i64 m) := cell_of_row _ _ _ _ _ _ A1.out
  have A1_2 : V3.cell? ⟨w.heap.size, 2, none⟩ = some (.int .i64 d) := cell_of_row _ _ _ _ _ _ A1.out
  have zA1 := lt_of_heap A1.out
  go_simp
  go_wp2
  go_ret
  exact ⟨rfl, by first | exact B3.out | exact B3.out.alloc B3.out.size _⟩
set_option maxHeartbeats 3200000 in
set_option maxRecDepth 100000 in
theorem weeksDates_walk (y k j : Int) (w : World) (hM : MD w) : Calls Tryd.prog 4 #[.int .i64 y, .int .i64 k, .int .i64 j] w fun e w' => e = .returned (.bool true) ∧ Below w.heap.size w w' := by
  obtain ⟨Y, M, D, E, X1, X2⟩ := wdate_both y k j
  have H1 := Lib.hid X1
  have H2 := Lib.hid X2
  have H3 := Lib.hid (pWeeks_any y)
  have H4 := Lib.hid (rWeeks_any y)
  have H7 := Lib.hid awake7_any
  clear X1 X2
  generalize wksI y = WW at *
  replace hM := Lib.hid hM
  go_enter Tryd.func4, Tryd.ntmps4
  go_wp2_with fail
  
  refine (H1.out _ (by first | exact md_keep hM (Below.refl w.heap.size w) | exact md_keep hM ((Below.refl w.heap.size w).alloc (Nat.le_refl _) _) | exact md_keep hM (((Below.refl w.heap.size w).alloc (Nat.le_refl _) _).alloc (by simp <;> omega) _) | exact md_keep hM ((((Below.refl w.heap.size w).alloc (Nat.le_refl _) _).alloc (by simp <;> omega) _).alloc (by simp <;> omega) _))).mono ?_
  rintro e V1 ⟨rfl, hb1⟩
  have B1 : Hid (Below w.heap.size w V1) := by first | exact Lib.hid ((Below.refl w.heap.size w).trans (hb1.mono (by first | assumption | (simp <;> omega) | (simp; done)))) | exact Lib.hid (((Below.refl w.heap.size w).alloc (Nat.le_refl _) _).trans (hb1.mono (by first | assumption | (simp <;> omega) | (simp; done)))) | exact Lib.hid ((((Below.refl w.heap.size w).alloc (Nat.le_refl _) _).alloc (by simp <;> omega) _).trans (hb1.mono (by first | assumption | (simp <;> omega) | (simp; done)))) | exact Lib.hid (((((Below.refl w.heap.size w).alloc (Nat.le_refl _) _).alloc (by simp <;> omega) _).alloc (by simp <;> omega) _).trans (hb1.mono (by first | assumption | (simp <;> omega) | (simp; done))))
  clear hb1
  go_simp
  go_wp2_with fail
  refine (H2.out _).mono ?_
  rintro e V2 ⟨rfl, hb2⟩
  have B2 := Lib.hid (((B1.out).alloc (B1.out.size) _).trans (hb2.mono (by have := B1.out.size; first | assumption | (simp <;> omega) | (simp; done))))
  have X1 := Lib.hid (row_call hb2 (heap_alloc_new _ _))
  clear hb2
  have X1_0 : V2.cell? ⟨V1.heap.size, 0, none⟩ = some (.int .i64 Y) := cell_of_row _ _ _ _ _ _ X1.out
  have X1_1 : V2.cell? ⟨V1.heap.size, 1, none⟩ = some (.int .i64 M) := cell_of_row _ _ _ _ _ _ X1.out
  have X1_2 : V2.cell? ⟨V1.heap.size, 2, none⟩ = some (.int .i64 D) := cell_of_row _ _ _ _ _ _ X1.out
  have zX1 := lt_of_heap X1.out
  go_simp
  go_wp2_with fail
  refine (H3.out _ (by first | exact md_keep hM ((B2.out).alloc (B2.out.size) _))).mono ?_
  rintro e V3 ⟨rfl, hb3⟩
  clear X1_0 X1_1 X1_2 zX1
  have nX1Y1 := Lib.hid (lt_of_heap X1.out)
  have B3 := Lib.hid (((B2.out).alloc (B2.out.size) _).trans (hb3.mono (by have := B2.out.size; first | assumption | (simp <;> omega) | (simp; done))))
  replace X1 := Lib.hid (row_call hb3 (row_alloc X1.out _))
  have Y1 := Lib.hid (row_call hb3 (heap_alloc_new _ _))
  clear hb3
  have X1_0 : V3.cell? ⟨V1.heap.size, 0, none⟩ = some (.int .i64 Y) := cell_of_row _ _ _ _ _ _ X1.out
  have X1_1 : V3.cell? ⟨V1.heap.size, 1, none⟩ = some (.int .i64 M) := cell_of_row _ _ _ _ _ _ X1.out
  have X1_2 : V3.cell? ⟨V1.heap.size, 2, none⟩ = some (.int .i64 D) := cell_of_row _ _ _ _ _ _ X1.out
  have Y1_0 : V3.cell? ⟨V2.heap.size, 0, none⟩ = some (.int .i64 Y) := cell_of_row _ _ _ _ _ _ Y1.out
  have Y1_1 : V3.cell? ⟨V2.heap.size, 1, none⟩ = some (.int .i64 M) := cell_of_row _ _ _ _ _ _ Y1.out
  have Y1_2 : V3.cell? ⟨V2.heap.size, 2, none⟩ = some (.int .i64 D) := cell_of_row _ _ _ _ _ _ Y1.out
  have zX1 := lt_of_heap X1.out
  have zY1 := lt_of_heap Y1.out
  go_simp
  go_wp2_with fail
  refine (H4.out _).mono ?_
  rintro e V4 ⟨rfl, hb4⟩
  clear X1_0 X1_1 X1_2 zX1 Y1_0 Y1_1 Y1_2 zY1
  have B4 : Hid (Below w.heap.size w V4) := by first | exact Lib.hid ((B3.out).trans (hb4.mono (by have := B3.out.size; first | assumption | (simp <;> omega) | (simp; done)))) | exact Lib.hid (((B3.out).alloc (B3.out.size) _).trans (hb4.mono (by have := B3.out.size; first | assumption | (simp <;> omega) | (simp; done)))) | exact Lib.hid ((((B3.out).alloc (B3.out.size) _).alloc (by have := B3.out.size; simp <;> omega) _).trans (hb4.mono (by have := B3.out.size; first | assumption | (simp <;> omega) | (simp; done)))) | exact Lib.hid (((((B3.out).alloc (B3.out.size) _).alloc (by have := B3.out.size; simp <;> omega) _).alloc (by have := B3.out.size; simp <;> omega) _).trans (hb4.mono (by have := B3.out.size; first | assumption | (simp <;> omega) | (simp; done))))
  first | replace X1 := Lib.hid (row_call hb4 X1.out) | replace X1 := Lib.hid (row_call hb4 (row_alloc X1.out _)) | replace X1 := Lib.hid (row_call hb4 (row_alloc (row_alloc X1.out _) _)) | replace X1 := Lib.hid (row_call hb4 (row_alloc (row_alloc (row_alloc X1.out _) _) _))
  first | replace Y1 := Lib.hid (row_call hb4 Y1.out) | replace Y1 := Lib.hid (row_call hb4 (row_alloc Y1.out _)) | replace Y1 := Lib.hid (row_call hb4 (row_alloc (row_alloc Y1.out _) _)) | replace Y1 := Lib.hid (row_call hb4 (row_alloc (row_alloc (row_alloc Y1.out _) _) _))
  clear hb4
  have X1_0 : V4.cell? ⟨V1.heap.size, 0, none⟩ = some (.int .i64 Y) := cell_of_row _ _ _ _ _ _ X1.out
  have X1_1 : V4.cell? ⟨V1.heap.size, 1, none⟩ = some (.int .i64 M) := cell_of_row _ _ _ _ _ _ X1.out
  have X1_2 : V4.cell? ⟨V1.heap.size, 2, none⟩ = some (.int .i64 D) := cell_of_row _ _ _ _ _ _ X1.out
  have Y1_0 : V4.cell? ⟨V2.heap.size, 0, none⟩ = some (.int .i64 Y) := cell_of_row _ _ _ _ _ _ Y1.out
  have Y1_1 : V4.cell? ⟨V2.heap.size, 1, none⟩ = some (.int .i64 M) := cell_of_row _ _ _ _ _ _ Y1.out
  have Y1_2 : V4.cell? ⟨V2.heap.size, 2, none⟩ = some (.int .i64 D) := cell_of_row _ _ _ _ _ _ Y1.out
  have zX1 := lt_of_heap X1.out
  have zY1 := lt_of_heap Y1.out
  go_simp
  go_wp2_with fail
  refine (H7.out _ (by first | exact md_keep hM (B4.out) | exact md_keep hM ((B4.out).alloc (B4.out.size) _) | exact md_keep hM (((B4.out).alloc (B4.out.size) _).alloc (by have := B4.out.size; simp <;> omega) _) | exact md_keep hM ((((B4.out).alloc (B4.out.size) _).alloc (by have := B4.out.size; simp <;> omega) _).alloc (by have := B4.out.size; simp <;> omega) _))).mono ?_
  rintro e V5 ⟨rfl, hb5⟩
  clear X1_0 X1_1 X1_2 zX1 Y1_0 Y1_1 Y1_2 zY1
  have B5 : Hid (Below w.heap.size w V5) := by first | exact Lib.hid ((B4.out).trans (hb5.mono (by have := B4.out.size; first | assumption | (simp <;> omega) | (simp; done)))) | exact Lib.hid (((B4.out).alloc (B4.out.size) _).trans (hb5.mono (by have := B4.out.size; first | assumption | (simp <;> omega) | (simp; done)))) | exact Lib.hid ((((B4.out).alloc (B4.out.size) _).alloc (by have := B4.out.size; simp <;> omega) _).trans (hb5.mono (by have := B4.out.size; first | assumption | (simp <;> omega) | (simp; done)))) | exact Lib.hid (((((B4.out).alloc (B4.out.size) _).alloc (by have := B4.out.size; simp <;> omega) _).alloc (by have := B4.out.size; simp <;> omega) _).trans (hb5.mono (by have := B4.out.size; first | assumption | (simp <;> omega) | (simp; done))))
  first | replace X1 := Lib.hid (row_call hb5 X1.out) | replace X1 := Lib.hid (row_call hb5 (row_alloc X1.out _)) | replace X1 := Lib.hid (row_call hb5 (row_alloc (row_alloc X1.out _) _)) | replace X1 := Lib.hid (row_call hb5 (row_alloc (row_alloc (row_alloc X1.out _) _) _))
  first | replace Y1 := Lib.hid (row_call hb5 Y1.out) | replace Y1 := Lib.hid (row_call hb5 (row_alloc Y1.out _)) | replace Y1 := Lib.hid (row_call hb5 (row_alloc (row_alloc Y1.out _) _)) | replace Y1 := Lib.hid (row_call hb5 (row_alloc (row_alloc (row_alloc Y1.out _) _) _))
  clear hb5
  have X1_0 : V5.cell? ⟨V1.heap.size, 0, none⟩ = some (.int .i64 Y) := cell_of_row _ _ _ _ _ _ X1.out
  have X1_1 : V5.cell? ⟨V1.heap.size, 1, none⟩ = some (.int .i64 M) := cell_of_row _ _ _ _ _ _ X1.out
  have X1_2 : V5.cell? ⟨V1.heap.size, 2, none⟩ = some (.int .i64 D) := cell_of_row _ _ _ _ _ _ X1.out
  have Y1_0 : V5.cell? ⟨V2.heap.size, 0, none⟩ = some (.int .i64 Y) := cell_of_row _ _ _ _ _ _ Y1.out
  have Y1_1 : V5.cell? ⟨V2.heap.size, 1, none⟩ = some (.int .i64 M) := cell_of_row _ _ _ _ _ _ Y1.out
  have Y1_2 : V5.cell? ⟨V2.heap.size, 2, none⟩ = some (.int .i64 D) := cell_of_row _ _ _ _ _ _ Y1.out
  have zX1 := lt_of_heap X1.out
  have zY1 := lt_of_heap Y1.out
  go_simp
  go_wp2
  go_ret
  exact ⟨rfl, by first | exact B5.out | exact B5.out.alloc B5.out.size _⟩
set_option maxHeartbeats 3200000 in
set_option maxRecDepth 100000 in
theorem weeksBack_walk (y m d : Int) (w : World) (hM : MD w) : Calls Tryd.prog 5 #[.agg #[.int .i64 y, .int .i64 m, .int .i64 d]] w fun e w' => e = .returned (.bool true) ∧ Below w.heap.size w w' := by
  have H7 := Lib.hid awake7_any
  by_cases hc : ckC y m d = 0
  · have X1 := pWOf_any y m d hc
    obtain ⟨hm, y1, y2⟩ := of_ckC hc
    obtain ⟨m', d', k1, k2, k3, k4⟩ := thu_date hm y1 y2
    obtain ⟨i1, i2, i3⟩ := dn_in hm
    have i4 := yst_succ y
    have p := mayB_yes hm
    obtain ⟨g1, g2, g3, g4, g5⟩ := wo_week (y := y) (n := dnI y m d) (by omega) (by omega)
    have hno : ¬ wkNo (woY y (dnI y m d)) (woW y (dnI y m d)) (wdI (dnI y m d)) := by unfold wkNo; omega
    have H2 := Lib.hid (pWDate_any _ _ _ hno k2 k3 (Or.inr ⟨hm, y1, y2, g3.symm, rfl⟩))
    have H3 := Lib.hid (pWeeks_any (woY y (dnI y m d)))
    have H1 := Lib.hid X1
    clear X1 hc hm i1 i2 i3 i4 p hno k1 k4 g3
    generalize woW y (dnI y m d) = WW at *
    generalize woY y (dnI y m d) = YY at *
    generalize wdI (dnI y m d) = K at *
    generalize wksI YY = WS at *
    replace hM := Lib.hid hM
    go_enter Tryd.func5, Tryd.ntmps5
    go_wp2_with fail
    
    refine (H1.out _ (by first | exact md_keep hM ((Below.refl w.heap.size w).alloc (Nat.le_refl _) _))).mono ?_
    rintro e V1 ⟨rfl, hb1⟩
    have B1 := Lib.hid (((Below.refl w.heap.size w).alloc (Nat.le_refl _) _).trans (hb1.mono (by first | assumption | (simp <;> omega) | (simp; done))))
    have A1 := Lib.hid (row_call hb1 (heap_alloc_new _ _))
    clear hb1
    have A1_0 : V1.cell? ⟨w.heap.size, 0, none⟩ = some (.int .i64 y) := cell_of_row _ _ _ _ _ _ A1.out
    have A1_1 : V1.cell? ⟨w.heap.size, 1, none⟩ = some (.int .i64 m) := cell_of_row _ _ _ _ _ _ A1.out
    have A1_2 : V1.cell? ⟨w.heap.size, 2, none⟩ = some (.int .i64 d) := cell_of_row _ _ _ _ _ _ A1.out
    have zA1 := lt_of_heap A1.out
    go_simp
    go_wp2_with fail
    refine (H2.out _ (by first | exact md_keep hM (B1.out) | exact md_keep hM ((B1.out).alloc (B1.out.size) _) | exact md_keep hM (((B1.out).alloc (B1.out.size) _).alloc (by have := B1.out.size; simp <;> omega) _) | exact md_keep hM ((((B1.out).alloc (B1.out.size) _).alloc (by have := B1.out.size; simp <;> omega) _).alloc (by have := B1.out.size; simp <;> omega) _))).mono ?_
    rintro e V2 ⟨rfl, hb2⟩
    clear A1_0 A1_1 A1_2 zA1
    have B2 : Hid (Below w.heap.size w V2) := by first | exact Lib.hid ((B1.out).trans (hb2.mono (by have := B1.out.size; first | assumption | (simp <;> omega) | (simp; done)))) | exact Lib.hid (((B1.out).alloc (B1.out.size) _).trans (hb2.mono (by have := B1.out.size; first | assumption | (simp <;> omega) | (simp; done)))) | exact Lib.hid ((((B1.out).alloc (B1.out.size) _).alloc (by have := B1.out.size; simp <;> omega) _).trans (hb2.mono (by have := B1.out.size; first | assumption | (simp <;> omega) | (simp; done)))) | exact Lib.hid (((((B1.out).alloc (B1.out.size) _).alloc (by have := B1.out.size; simp <;> omega) _).alloc (by have := B1.out.size; simp <;> omega) _).trans (hb2.mono (by have := B1.out.size; first | assumption | (simp <;> omega) | (simp; done))))
    first | replace A1 := Lib.hid (row_call hb2 A1.out) | replace A1 := Lib.hid (row_call hb2 (row_alloc A1.out _)) | replace A1 := Lib.hid (row_call hb2 (row_alloc (row_alloc A1.out _) _)) | replace A1 := Lib.hid (row_call hb2 (row_alloc (row_alloc (row_alloc A1.out _) _) _))
    clear hb2
    have A1_0 : V2.cell? ⟨w.heap.size, 0, none⟩ = some (.int .i64 y) := cell_of_row _ _ _ _ _ _ A1.out
    have A1_1 : V2.cell? ⟨w.heap.size, 1, none⟩ = some (.int .i64 m) := cell_of_row _ _ _ _ _ _ A1.out
    have A1_2 : V2.cell? ⟨w.heap.size, 2, none⟩ = some (.int .i64 d) := cell_of_row _ _ _ _ _ _ A1.out
    have zA1 := lt_of_heap A1.out
    go_simp
    go_wp2_with fail
    refine (H3.out _ (by first | exact md_keep hM ((B2.out).alloc (B2.out.size) _))).mono ?_
    rintro e V3 ⟨rfl, hb3⟩
    clear A1_0 A1_1 A1_2 zA1
    have nA1X1 := Lib.hid (lt_of_heap A1.out)
    have B3 := Lib.hid (((B2.out).alloc (B2.out.size) _).trans (hb3.mono (by have := B2.out.size; first | assumption | (simp <;> omega) | (simp; done))))
    replace A1 := Lib.hid (row_call hb3 (row_alloc A1.out _))
    have X1 := Lib.hid (row_call hb3 (heap_alloc_new _ _))
    clear hb3
    have A1_0 : V3.cell? ⟨w.heap.size, 0, none⟩ = some (.int .i64 y) := cell_of_row _ _ _ _ _ _ A1.out
    have A1_1 : V3.cell? ⟨w.heap.size, 1, none⟩ = some (.int .i64 m) := cell_of_row _ _ _ _ _ _ A1.out
    have A1_2 : V3.cell? ⟨w.heap.size, 2, none⟩ = some (.int .i64 d) := cell_of_row _ _ _ _ _ _ A1.out
    have X1_0 : V3.cell? ⟨V2.heap.size, 0, none⟩ = some (.int .i64 y) := cell_of_row _ _ _ _ _ _ X1.out
    have X1_1 : V3.cell? ⟨V2.heap.size, 1, none⟩ = some (.int .i64 m) := cell_of_row _ _ _ _ _ _ X1.out
    have X1_2 : V3.cell? ⟨V2.heap.size, 2, none⟩ = some (.int .i64 d) := cell_of_row _ _ _ _ _ _ X1.out
    have zA1 := lt_of_heap A1.out
    have zX1 := lt_of_heap X1.out
    go_simp
    go_wp2_with fail
    refine (H7.out _ (by first | exact md_keep hM (B3.out) | exact md_keep hM ((B3.out).alloc (B3.out.size) _) | exact md_keep hM (((B3.out).alloc (B3.out.size) _).alloc (by have := B3.out.size; simp <;> omega) _) | exact md_keep hM ((((B3.out).alloc (B3.out.size) _).alloc (by have := B3.out.size; simp <;> omega) _).alloc (by have := B3.out.size; simp <;> omega) _))).mono ?_
    rintro e V4 ⟨rfl, hb4⟩
    clear A1_0 A1_1 A1_2 zA1 X1_0 X1_1 X1_2 zX1
    have B4 : Hid (Below w.heap.size w V4) := by first | exact Lib.hid ((B3.out).trans (hb4.mono (by have := B3.out.size; first | assumption | (simp <;> omega) | (simp; done)))) | exact Lib.hid (((B3.out).alloc (B3.out.size) _).trans (hb4.mono (by have := B3.out.size; first | assumption | (simp <;> omega) | (simp; done)))) | exact Lib.hid ((((B3.out).alloc (B3.out.size) _).alloc (by have := B3.out.size; simp <;> omega) _).trans (hb4.mono (by have := B3.out.size; first | assumption | (simp <;> omega) | (simp; done)))) | exact Lib.hid (((((B3.out).alloc (B3.out.size) _).alloc (by have := B3.out.size; simp <;> omega) _).alloc (by have := B3.out.size; simp <;> omega) _).trans (hb4.mono (by have := B3.out.size; first | assumption | (simp <;> omega) | (simp; done))))
    first | replace A1 := Lib.hid (row_call hb4 A1.out) | replace A1 := Lib.hid (row_call hb4 (row_alloc A1.out _)) | replace A1 := Lib.hid (row_call hb4 (row_alloc (row_alloc A1.out _) _)) | replace A1 := Lib.hid (row_call hb4 (row_alloc (row_alloc (row_alloc A1.out _) _) _))
    first | replace X1 := Lib.hid (row_call hb4 X1.out) | replace X1 := Lib.hid (row_call hb4 (row_alloc X1.out _)) | replace X1 := Lib.hid (row_call hb4 (row_alloc (row_alloc X1.out _) _)) | replace X1 := Lib.hid (row_call hb4 (row_alloc (row_alloc (row_alloc X1.out _) _) _))
    clear hb4
    have A1_0 : V4.cell? ⟨w.heap.size, 0, none⟩ = some (.int .i64 y) := cell_of_row _ _ _ _ _ _ A1.out
    have A1_1 : V4.cell? ⟨w.heap.size, 1, none⟩ = some (.int .i64 m) := cell_of_row _ _ _ _ _ _ A1.out
    have A1_2 : V4.cell? ⟨w.heap.size, 2, none⟩ = some (.int .i64 d) := cell_of_row _ _ _ _ _ _ A1.out
    have X1_0 : V4.cell? ⟨V2.heap.size, 0, none⟩ = some (.int .i64 y) := cell_of_row _ _ _ _ _ _ X1.out
    have X1_1 : V4.cell? ⟨V2.heap.size, 1, none⟩ = some (.int .i64 m) := cell_of_row _ _ _ _ _ _ X1.out
    have X1_2 : V4.cell? ⟨V2.heap.size, 2, none⟩ = some (.int .i64 d) := cell_of_row _ _ _ _ _ _ X1.out
    have zA1 := lt_of_heap A1.out
    have zX1 := lt_of_heap X1.out
    go_simp
    go_wp2
    go_ret
    exact ⟨rfl, by first | exact B4.out | exact B4.out.alloc B4.out.size _⟩
  · have H1 := Lib.hid (pWOf_no y m d hc)
    generalize ckC y m d = E at *
    have f1 : (E != 0) = true := by rw [bne_iff_ne]; exact hc
    replace hM := Lib.hid hM
    go_enter Tryd.func5, Tryd.ntmps5
    go_wp2_with fail
    
    refine (H1.out _ (by first | exact md_keep hM ((Below.refl w.heap.size w).alloc (Nat.le_refl _) _))).mono ?_
    rintro e V1 ⟨rfl, hb1⟩
    have B1 := Lib.hid (((Below.refl w.heap.size w).alloc (Nat.le_refl _) _).trans (hb1.mono (by first | assumption | (simp <;> omega) | (simp; done))))
    have A1 := Lib.hid (row_call hb1 (heap_alloc_new _ _))
    clear hb1
    have A1_0 : V1.cell? ⟨w.heap.size, 0, none⟩ = some (.int .i64 y) := cell_of_row _ _ _ _ _ _ A1.out
    have A1_1 : V1.cell? ⟨w.heap.size, 1, none⟩ = some (.int .i64 m) := cell_of_row _ _ _ _ _ _ A1.out
    have A1_2 : V1.cell? ⟨w.heap.size, 2, none⟩ = some (.int .i64 d) := cell_of_row _ _ _ _ _ _ A1.out
    have zA1 := lt_of_heap A1.out
    go_simp
    go_wp2_with fail
    refine (H7.out _ (by first | exact md_keep hM (B1.out) | exact md_keep hM ((B1.out).alloc (B1.out.size) _) | exact md_keep hM (((B1.out).alloc (B1.out.size) _).alloc (by have := B1.out.size; simp <;> omega) _) | exact md_keep hM ((((B1.out).alloc (B1.out.size) _).alloc (by have := B1.out.size; simp <;> omega) _).alloc (by have := B1.out.size; simp <;> omega) _))).mono ?_
    rintro e V2 ⟨rfl, hb2⟩
    clear A1_0 A1_1 A1_2 zA1
    have B2 : Hid (Below w.heap.size w V2) := by first | exact Lib.hid ((B1.out).trans (hb2.mono (by have := B1.out.size; first | assumption | (simp <;> omega) | (simp; done)))) | exact Lib.hid (((B1.out).alloc (B1.out.size) _).trans (hb2.mono (by have := B1.out.size; first | assumption | (simp <;> omega) | (simp; done)))) | exact Lib.hid ((((B1.out).alloc (B1.out.size) _).alloc (by have := B1.out.size; simp <;> omega) _).trans (hb2.mono (by have := B1.out.size; first | assumption | (simp <;> omega) | (simp; done)))) | exact Lib.hid (((((B1.out).alloc (B1.out.size) _).alloc (by have := B1.out.size; simp <;> omega) _).alloc (by have := B1.out.size; simp <;> omega) _).trans (hb2.mono (by have := B1.out.size; first | assumption | (simp <;> omega) | (simp; done))))
    first | replace A1 := Lib.hid (row_call hb2 A1.out) | replace A1 := Lib.hid (row_call hb2 (row_alloc A1.out _)) | replace A1 := Lib.hid (row_call hb2 (row_alloc (row_alloc A1.out _) _)) | replace A1 := Lib.hid (row_call hb2 (row_alloc (row_alloc (row_alloc A1.out _) _) _))
    clear hb2
    have A1_0 : V2.cell? ⟨w.heap.size, 0, none⟩ = some (.int .i64 y) := cell_of_row _ _ _ _ _ _ A1.out
    have A1_1 : V2.cell? ⟨w.heap.size, 1, none⟩ = some (.int .i64 m) := cell_of_row _ _ _ _ _ _ A1.out
    have A1_2 : V2.cell? ⟨w.heap.size, 2, none⟩ = some (.int .i64 d) := cell_of_row _ _ _ _ _ _ A1.out
    have zA1 := lt_of_heap A1.out
    go_simp
    go_wp2
    go_ret
    exact ⟨rfl, by first | exact B2.out | exact B2.out.alloc B2.out.size _⟩
set_option maxHeartbeats 3200000 in
set_option maxRecDepth 100000 in
theorem weeksThursdays_walk (y m d : Int) (w : World) (hM : MD w) : Calls Tryd.prog 6 #[.agg #[.int .i64 y, .int .i64 m, .int .i64 d]] w fun e w' => e = .returned (.bool true) ∧ Below w.heap.size w w' := by
  have H7 := Lib.hid awake7_any
  by_cases hc : ckC y m d = 0
  · have X1 := pWOf_any y m d hc
    have X2 := rDays_any y m d
    obtain ⟨hm, y1, y2⟩ := of_ckC hc
    rw [hc, (dy_ok hc).1] at X2
    obtain ⟨m', d', k1, k2, k3, k4⟩ := thu_date hm y1 y2
    obtain ⟨i1, i2, i3⟩ := dn_in hm
    have i4 := yst_succ y
    have p := mayB_yes hm
    obtain ⟨t1, t2, t3⟩ := thu_in (y := y) (n := dnI y m d) (by omega) (by omega)
    have ws := yst_succ (woY y (dnI y m d))
    have wb := ydI_bd (woY y (dnI y m d))
    have nb := yst_bd (y := y) (by omega)
    have yb := ydI_bd y
    have n1 : -1000000000 ≤ dnI y m d := by omega
    have n2 : dnI y m d ≤ 1000001000 := by omega
    have w1 : 1 ≤ wdI (dnI y m d) := by unfold wdI; omega
    have w2 : wdI (dnI y m d) ≤ 7 := by unfold wdI; omega
    have X3 := rDateOf_any _ m' d' k1 k2 k3
    have X4 := rOrdinal_any (woY y (dnI y m d)) m' d'
    have c4 := ckC_ok k1 (by omega)
    rw [c4, (dy_ok c4).2, k4] at X4
    rw [k4, show dnI y m d - wdI (dnI y m d) + 4 = dnI y m d + 4 - wdI (dnI y m d) by omega] at X3
    generalize woW y (dnI y m d) = WW at *
    generalize woY y (dnI y m d) = YY at *
    generalize wdI (dnI y m d) = K at *
    generalize dnI y m d = N at *
    generalize yst YY = S at *
    have o1 : 0 ≤ N - K + 4 - S := by omega
    have o2 : N - K + 4 - S ≤ 400 := by omega
    have E : WW = (N - K + 4 - S) / 7 + 1 := t3
    have H1 := Lib.hid X1
    have H2 := Lib.hid X2
    have H3 := Lib.hid X3
    have H4 := Lib.hid X4
    clear X1 X2 X3 X4 hc hm y1 y2 k1 k2 k3 k4 i1 i2 i3 i4 p t1 t2 t3 c4 ws wb nb yb
    generalize N - K + 4 - S = O at *
    have o3 : 0 ≤ O + 1 - 1 := by omega
    have o4 : IntKind.i64.wrap (O + 1 - 1) = O := by rw [IntKind.wrap_i64]; omega
    have o5 : O.tdiv 7 = O / 7 := Int.tdiv_eq_ediv_of_nonneg o1
    have o6 : IntKind.i64.wrap (O / 7 + 1) = WW := by rw [IntKind.wrap_i64]; omega
    have o7 : IntKind.i64.wrap (O / 7) = O / 7 := by rw [IntKind.wrap_i64]; omega
    replace E := Lib.hid E
    replace hM := Lib.hid hM
    go_enter Tryd.func6, Tryd.ntmps6
    go_wp2_with fail
    
    refine (H1.out _ (by first | exact md_keep hM ((Below.refl w.heap.size w).alloc (Nat.le_refl _) _))).mono ?_
    rintro e V1 ⟨rfl, hb1⟩
    have B1 := Lib.hid (((Below.refl w.heap.size w).alloc (Nat.le_refl _) _).trans (hb1.mono (by first | assumption | (simp <;> omega) | (simp; done))))
    have A1 := Lib.hid (row_call hb1 (heap_alloc_new _ _))
    clear hb1
    have A1_0 : V1.cell? ⟨w.heap.size, 0, none⟩ = some (.int .i64 y) := cell_of_row _ _ _ _ _ _ A1.out
    have A1_1 : V1.cell? ⟨w.heap.size, 1, none⟩ = some (.int .i64 m) := cell_of_row _ _ _ _ _ _ A1.out
    have A1_2 : V1.cell? ⟨w.heap.size, 2, none⟩ = some (.int .i64 d) := cell_of_row _ _ _ _ _ _ A1.out
    have zA1 := lt_of_heap A1.out
    go_simp
    go_wp2_with fail
    refine (H2.out _).mono ?_
    rintro e V2 ⟨rfl, hb2⟩
    clear A1_0 A1_1 A1_2 zA1
    have B2 : Hid (Below w.heap.size w V2) := by first | exact Lib.hid ((B1.out).trans (hb2.mono (by have := B1.out.size; first | assumption | (simp <;> omega) | (simp; done)))) | exact Lib.hid (((B1.out).alloc (B1.out.size) _).trans (hb2.mono (by have := B1.out.size; first | assumption | (simp <;> omega) | (simp; done)))) | exact Lib.hid ((((B1.out).alloc (B1.out.size) _).alloc (by have := B1.out.size; simp <;> omega) _).trans (hb2.mono (by have := B1.out.size; first | assumption | (simp <;> omega) | (simp; done)))) | exact Lib.hid (((((B1.out).alloc (B1.out.size) _).alloc (by have := B1.out.size; simp <;> omega) _).alloc (by have := B1.out.size; simp <;> omega) _).trans (hb2.mono (by have := B1.out.size; first | assumption | (simp <;> omega) | (simp; done))))
    first | replace A1 := Lib.hid (row_call hb2 A1.out) | replace A1 := Lib.hid (row_call hb2 (row_alloc A1.out _)) | replace A1 := Lib.hid (row_call hb2 (row_alloc (row_alloc A1.out _) _)) | replace A1 := Lib.hid (row_call hb2 (row_alloc (row_alloc (row_alloc A1.out _) _) _))
    clear hb2
    have A1_0 : V2.cell? ⟨w.heap.size, 0, none⟩ = some (.int .i64 y) := cell_of_row _ _ _ _ _ _ A1.out
    have A1_1 : V2.cell? ⟨w.heap.size, 1, none⟩ = some (.int .i64 m) := cell_of_row _ _ _ _ _ _ A1.out
    have A1_2 : V2.cell? ⟨w.heap.size, 2, none⟩ = some (.int .i64 d) := cell_of_row _ _ _ _ _ _ A1.out
    have zA1 := lt_of_heap A1.out
    go_simp
    go_wp2_with fail
    refine (H3.out _).mono ?_
    rintro e V3 ⟨rfl, hb3⟩
    clear A1_0 A1_1 A1_2 zA1
    have B3 : Hid (Below w.heap.size w V3) := by first | exact Lib.hid ((B2.out).trans (hb3.mono (by have := B2.out.size; first | assumption | (simp <;> omega) | (simp; done)))) | exact Lib.hid (((B2.out).alloc (B2.out.size) _).trans (hb3.mono (by have := B2.out.size; first | assumption | (simp <;> omega) | (simp; done)))) | exact Lib.hid ((((B2.out).alloc (B2.out.size) _).alloc (by have := B2.out.size; simp <;> omega) _).trans (hb3.mono (by have := B2.out.size; first | assumption | (simp <;> omega) | (simp; done)))) | exact Lib.hid (((((B2.out).alloc (B2.out.size) _).alloc (by have := B2.out.size; simp <;> omega) _).alloc (by have := B2.out.size; simp <;> omega) _).trans (hb3.mono (by have := B2.out.size; first | assumption | (simp <;> omega) | (simp; done))))
    first | replace A1 := Lib.hid (row_call hb3 A1.out) | replace A1 := Lib.hid (row_call hb3 (row_alloc A1.out _)) | replace A1 := Lib.hid (row_call hb3 (row_alloc (row_alloc A1.out _) _)) | replace A1 := Lib.hid (row_call hb3 (row_alloc (row_alloc (row_alloc A1.out _) _) _))
    clear hb3
    have A1_0 : V3.cell? ⟨w.heap.size, 0, none⟩ = some (.int .i64 y) := cell_of_row _ _ _ _ _ _ A1.out
    have A1_1 : V3.cell? ⟨w.heap.size, 1, none⟩ = some (.int .i64 m) := cell_of_row _ _ _ _ _ _ A1.out
    have A1_2 : V3.cell? ⟨w.heap.size, 2, none⟩ = some (.int .i64 d) := cell_of_row _ _ _ _ _ _ A1.out
    have zA1 := lt_of_heap A1.out
    go_simp
    go_wp2_with fail
    refine (H4.out _).mono ?_
    rintro e V4 ⟨rfl, hb4⟩
    clear A1_0 A1_1 A1_2 zA1
    have nA1T1 := Lib.hid (lt_of_heap A1.out)
    have B4 := Lib.hid (((B3.out).alloc (B3.out.size) _).trans (hb4.mono (by have := B3.out.size; first | assumption | (simp <;> omega) | (simp; done))))
    replace A1 := Lib.hid (row_call hb4 (row_alloc A1.out _))
    have T1 := Lib.hid (row_call hb4 (heap_alloc_new _ _))
    clear hb4
    have A1_0 : V4.cell? ⟨w.heap.size, 0, none⟩ = some (.int .i64 y) := cell_of_row _ _ _ _ _ _ A1.out
    have A1_1 : V4.cell? ⟨w.heap.size, 1, none⟩ = some (.int .i64 m) := cell_of_row _ _ _ _ _ _ A1.out
    have A1_2 : V4.cell? ⟨w.heap.size, 2, none⟩ = some (.int .i64 d) := cell_of_row _ _ _ _ _ _ A1.out
    have T1_0 : V4.cell? ⟨V3.heap.size, 0, none⟩ = some (.int .i64 YY) := cell_of_row _ _ _ _ _ _ T1.out
    have T1_1 : V4.cell? ⟨V3.heap.size, 1, none⟩ = some (.int .i64 m') := cell_of_row _ _ _ _ _ _ T1.out
    have T1_2 : V4.cell? ⟨V3.heap.size, 2, none⟩ = some (.int .i64 d') := cell_of_row _ _ _ _ _ _ T1.out
    have zA1 := lt_of_heap A1.out
    have zT1 := lt_of_heap T1.out
    go_simp
    go_wp2_with fail
    refine (H7.out _ (by first | exact md_keep hM (B4.out) | exact md_keep hM ((B4.out).alloc (B4.out.size) _) | exact md_keep hM (((B4.out).alloc (B4.out.size) _).alloc (by have := B4.out.size; simp <;> omega) _) | exact md_keep hM ((((B4.out).alloc (B4.out.size) _).alloc (by have := B4.out.size; simp <;> omega) _).alloc (by have := B4.out.size; simp <;> omega) _))).mono ?_
    rintro e V5 ⟨rfl, hb5⟩
    clear A1_0 A1_1 A1_2 zA1 T1_0 T1_1 T1_2 zT1
    have B5 : Hid (Below w.heap.size w V5) := by first | exact Lib.hid ((B4.out).trans (hb5.mono (by have := B4.out.size; first | assumption | (simp <;> omega) | (simp; done)))) | exact Lib.hid (((B4.out).alloc (B4.out.size) _).trans (hb5.mono (by have := B4.out.size; first | assumption | (simp <;> omega) | (simp; done)))) | exact Lib.hid ((((B4.out).alloc (B4.out.size) _).alloc (by have := B4.out.size; simp <;> omega) _).trans (hb5.mono (by have := B4.out.size; first | assumption | (simp <;> omega) | (simp; done)))) | exact Lib.hid (((((B4.out).alloc (B4.out.size) _).alloc (by have := B4.out.size; simp <;> omega) _).alloc (by have := B4.out.size; simp <;> omega) _).trans (hb5.mono (by have := B4.out.size; first | assumption | (simp <;> omega) | (simp; done))))
    first | replace A1 := Lib.hid (row_call hb5 A1.out) | replace A1 := Lib.hid (row_call hb5 (row_alloc A1.out _)) | replace A1 := Lib.hid (row_call hb5 (row_alloc (row_alloc A1.out _) _)) | replace A1 := Lib.hid (row_call hb5 (row_alloc (row_alloc (row_alloc A1.out _) _) _))
    first | replace T1 := Lib.hid (row_call hb5 T1.out) | replace T1 := Lib.hid (row_call hb5 (row_alloc T1.out _)) | replace T1 := Lib.hid (row_call hb5 (row_alloc (row_alloc T1.out _) _)) | replace T1 := Lib.hid (row_call hb5 (row_alloc (row_alloc (row_alloc T1.out _) _) _))
    clear hb5
    have A1_0 : V5.cell? ⟨w.heap.size, 0, none⟩ = some (.int .i64 y) := cell_of_row _ _ _ _ _ _ A1.out
    have A1_1 : V5.cell? ⟨w.heap.size, 1, none⟩ = some (.int .i64 m) := cell_of_row _ _ _ _ _ _ A1.out
    have A1_2 : V5.cell? ⟨w.heap.size, 2, none⟩ = some (.int .i64 d) := cell_of_row _ _ _ _ _ _ A1.out
    have T1_0 : V5.cell? ⟨V3.heap.size, 0, none⟩ = some (.int .i64 YY) := cell_of_row _ _ _ _ _ _ T1.out
    have T1_1 : V5.cell? ⟨V3.heap.size, 1, none⟩ = some (.int .i64 m') := cell_of_row _ _ _ _ _ _ T1.out
    have T1_2 : V5.cell? ⟨V3.heap.size, 2, none⟩ = some (.int .i64 d') := cell_of_row _ _ _ _ _ _ T1.out
    have zA1 := lt_of_heap A1.out
    have zT1 := lt_of_heap T1.out
    go_simp
    go_wp2
    go_ret
    exact ⟨rfl, by first | exact B5.out | exact B5.out.alloc B5.out.size _⟩
  · have H1 := Lib.hid (pWOf_no y m d hc)
    generalize ckC y m d = E at *
    have f1 : (E != 0) = true := by rw [bne_iff_ne]; exact hc
    replace hM := Lib.hid hM
    go_enter Tryd.func6, Tryd.ntmps6
    go_wp2_with fail
    
    refine (H1.out _ (by first | exact md_keep hM ((Below.refl w.heap.size w).alloc (Nat.le_refl _) _))).mono ?_
    rintro e V1 ⟨rfl, hb1⟩
    have B1 := Lib.hid (((Below.refl w.heap.size w).alloc (Nat.le_refl _) _).trans (hb1.mono (by first | assumption | (simp <;> omega) | (simp; done))))
    have A1 := Lib.hid (row_call hb1 (heap_alloc_new _ _))
    clear hb1
    have A1_0 : V1.cell? ⟨w.heap.size, 0, none⟩ = some (.int .i64 y) := cell_of_row _ _ _ _ _ _ A1.out
    have A1_1 : V1.cell? ⟨w.heap.size, 1, none⟩ = some (.int .i64 m) := cell_of_row _ _ _ _ _ _ A1.out
    have A1_2 : V1.cell? ⟨w.heap.size, 2, none⟩ = some (.int .i64 d) := cell_of_row _ _ _ _ _ _ A1.out
    have zA1 := lt_of_heap A1.out
    go_simp
    go_wp2_with fail
    refine (H7.out _ (by first | exact md_keep hM (B1.out) | exact md_keep hM ((B1.out).alloc (B1.out.size) _) | exact md_keep hM (((B1.out).alloc (B1.out.size) _).alloc (by have := B1.out.size; simp <;> omega) _) | exact md_keep hM ((((B1.out).alloc (B1.out.size) _).alloc (by have := B1.out.size; simp <;> omega) _).alloc (by have := B1.out.size; simp <;> omega) _))).mono ?_
    rintro e V2 ⟨rfl, hb2⟩
    clear A1_0 A1_1 A1_2 zA1
    have B2 : Hid (Below w.heap.size w V2) := by first | exact Lib.hid ((B1.out).trans (hb2.mono (by have := B1.out.size; first | assumption | (simp <;> omega) | (simp; done)))) | exact Lib.hid (((B1.out).alloc (B1.out.size) _).trans (hb2.mono (by have := B1.out.size; first | assumption | (simp <;> omega) | (simp; done)))) | exact Lib.hid ((((B1.out).alloc (B1.out.size) _).alloc (by have := B1.out.size; simp <;> omega) _).trans (hb2.mono (by have := B1.out.size; first | assumption | (simp <;> omega) | (simp; done)))) | exact Lib.hid (((((B1.out).alloc (B1.out.size) _).alloc (by have := B1.out.size; simp <;> omega) _).alloc (by have := B1.out.size; simp <;> omega) _).trans (hb2.mono (by have := B1.out.size; first | assumption | (simp <;> omega) | (simp; done))))
    first | replace A1 := Lib.hid (row_call hb2 A1.out) | replace A1 := Lib.hid (row_call hb2 (row_alloc A1.out _)) | replace A1 := Lib.hid (row_call hb2 (row_alloc (row_alloc A1.out _) _)) | replace A1 := Lib.hid (row_call hb2 (row_alloc (row_alloc (row_alloc A1.out _) _) _))
    clear hb2
    have A1_0 : V2.cell? ⟨w.heap.size, 0, none⟩ = some (.int .i64 y) := cell_of_row _ _ _ _ _ _ A1.out
    have A1_1 : V2.cell? ⟨w.heap.size, 1, none⟩ = some (.int .i64 m) := cell_of_row _ _ _ _ _ _ A1.out
    have A1_2 : V2.cell? ⟨w.heap.size, 2, none⟩ = some (.int .i64 d) := cell_of_row _ _ _ _ _ _ A1.out
    have zA1 := lt_of_heap A1.out
    go_simp
    go_wp2
    go_ret
    exact ⟨rfl, by first | exact B2.out | exact B2.out.alloc B2.out.size _⟩
end Go.Proofs.YtoghogpcgdcboaaDoor
