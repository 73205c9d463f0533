/- Layer 8: the program's answers beside the plain ones; the examples; the walks of the laws. -/
import Derived.Test.YtpkbcnofieinaaaDoorClkD
import Derived.Test.YtpkbcnofieinaaaDoorEqlK
namespace Go.Proofs.YtpkbcnofieinaaaDoor
set_option linter.unusedVariables false
set_option linter.unusedSimpArgs false
open Go.ChangeShapes Go.WideShapes Go.ChangeAt Go.RowKit

theorem kof_both (x : Int) (bx : in64 x) : ∃ a b c d E : Int,
    (∀ w, SZ w → Calls Tryd.prog 10 #[.int .i64 x] w fun r w' => r = .returned (.tuple #[.agg #[.int .i64 a, .int .i64 b, .int .i64 c, .int .i64 d], .int .i64 E]) ∧ Below w.heap.size w w') ∧
    (∀ w, Calls Tryd.prog 11 #[.int .i64 x] w fun r w' => r = .returned (.tuple #[.agg #[.int .i64 a, .int .i64 b, .int .i64 c, .int .i64 d], .int .i64 E]) ∧ Below w.heap.size w w') := by
  by_cases h : x < 0 ∨ 86400000000000 ≤ x
  · exact ⟨0, 0, 0, 0, 8, fun w hM => pkOf_no x bx h w hM, fun w => rkOf_no x h w⟩
  · exact ⟨_, _, _, _, _, fun w hM => pkOf_any x (by omega) (by omega) w hM, fun w => rkOf_any x (by omega) (by omega) w⟩
theorem khalf_both (h m s n : Int) : ∃ (a : Int) (l : Bool) (E : Int),
    (∀ w, SZ w → Calls Tryd.prog 12 #[.agg #[.int .i64 h, .int .i64 m, .int .i64 s, .int .i64 n]] w fun r w' => r = .returned (.tuple #[.int .i64 a, .bool l, .int .i64 E]) ∧ Below w.heap.size w w') ∧
    (∀ w, Calls Tryd.prog 13 #[.agg #[.int .i64 h, .int .i64 m, .int .i64 s, .int .i64 n]] w fun r w' => r = .returned (.tuple #[.int .i64 a, .bool l, .int .i64 E]) ∧ Below w.heap.size w w') := by
  by_cases hc : ckK h m s n = 0
  · exact ⟨_, _, _, fun w hM => pkHalf_any h m s n hc w hM, fun w => rkHalf_any h m s n hc w⟩
  · exact ⟨_, _, _, fun w hM => pkHalf_no h m s n hc w hM, fun w => rkHalf_no h m s n hc w⟩
theorem kfirst (h m s n d k : Int) : (ckK h m s n ≠ 0 → fsI (ckK h m s n) (ckD d k) = ckK h m s n) ∧ (ckK h m s n = 0 → fsI (ckK h m s n) (ckD d k) = ckD d k) := by
  refine ⟨fun h1 => ?_, fun h1 => ?_⟩
  · have e : ckK h m s n = 5 := (ckK_two h m s n).resolve_left h1
    rw [e]
    rcases ckD_three d k with h2 | h2 | h2 <;> rw [h2] <;> decide +kernel
  · rw [h1]; unfold fsI; exact if_pos rfl
theorem kadd_both (h m s n d k : Int) : ∃ a b c e D E : Int,
    (∀ w, SZ w → Calls Tryd.prog 17 #[.agg #[.int .i64 h, .int .i64 m, .int .i64 s, .int .i64 n], .agg #[.int .i64 d, .int .i64 k]] w fun r w' => r = .returned (.tuple #[.agg #[.int .i64 a, .int .i64 b, .int .i64 c, .int .i64 e], .int .i64 D, .int .i64 E]) ∧ Below w.heap.size w w') ∧
    (∀ w, Calls Tryd.prog 18 #[.agg #[.int .i64 h, .int .i64 m, .int .i64 s, .int .i64 n], .agg #[.int .i64 d, .int .i64 k]] w fun r w' => r = .returned (.tuple #[.agg #[.int .i64 a, .int .i64 b, .int .i64 c, .int .i64 e], .int .i64 D, .int .i64 E]) ∧ Below w.heap.size w w') := by
  by_cases hc : fsI (ckK h m s n) (ckD d k) = 0
  · exact ⟨_, _, _, _, _, _, fun w hM => pkAdd_any h m s n d k hc w hM, fun w => rkAdd_any h m s n d k hc w⟩
  · obtain ⟨f1, f2⟩ := kfirst h m s n d k
    by_cases h1 : ckK h m s n = 0
    · rw [f2 h1] at hc
      have X := rkAdd_no h m s n d k (by rw [f2 h1]; exact hc)
      rw [f2 h1] at X
      exact ⟨_, _, _, _, _, _, fun w hM => pkAdd_no2 h m s n d k h1 hc w hM, fun w => X w⟩
    · have X := rkAdd_no h m s n d k hc
      rw [f1 h1] at X
      exact ⟨_, _, _, _, _, _, fun w hM => pkAdd_no1 h m s n d k h1 w hM, fun w => X w⟩
theorem ex_clock1 : fsI (ckK 23 59 59 999999999) (ckD 0 1) = 0 ∧ atK 23 59 59 999999999 0 1 % 86400 / 3600 = 0 ∧ atK 23 59 59 999999999 0 1 % 86400 / 60 % 60 = 0 ∧ atK 23 59 59 999999999 0 1 % 86400 % 60 = 0 ∧ ((999999999 : Int) + 1) % 1000000000 = 0 ∧ atK 23 59 59 999999999 0 1 / 86400 = 1 := by decide +kernel
theorem ex_clock2 : fsI (ckK 0 0 0 0) (ckD (-1) 999999999) = 0 ∧ atK 0 0 0 0 (-1) 999999999 % 86400 / 3600 = 23 ∧ atK 0 0 0 0 (-1) 999999999 % 86400 / 60 % 60 = 59 ∧ atK 0 0 0 0 (-1) 999999999 % 86400 % 60 = 59 ∧ ((0 : Int) + 999999999) % 1000000000 = 999999999 ∧ atK 0 0 0 0 (-1) 999999999 / 86400 = -1 := by decide +kernel
theorem ex_clock3 : ckK 0 30 0 0 = 0 ∧ hfK 0 = 12 := by decide +kernel
set_option maxHeartbeats 3200000 in
set_option maxRecDepth 100000 in
theorem awake8_any (w : World) (hM : SZ w) : Calls Tryd.prog 16 #[] w fun e w' => e = .returned (.bool true) ∧ Below w.heap.size w w' := by
  obtain ⟨e1, e2, e3, e4, e5, e6⟩ := ex_clock1
  have X1 := pkAdd_any 23 59 59 999999999 0 1 e1
  rw [e2, e3, e4, e5, e6] at X1
  have H1 := Lib.hid X1
  clear X1 e1 e2 e3 e4 e5 e6
  obtain ⟨e1, e2, e3, e4, e5, e6⟩ := ex_clock2
  have X1 := pkAdd_any 0 0 0 0 (-1) 999999999 e1
  rw [e2, e3, e4, e5, e6] at X1
  have H2 := Lib.hid X1
  clear X1 e1 e2 e3 e4 e5 e6
  obtain ⟨e1, e2⟩ := ex_clock3
  have X1 := pkHalf_any 0 30 0 0 e1
  rw [e2, show decide ((12 : Int) ≤ 0) = false from rfl] at X1
  have H3 := Lib.hid X1
  clear X1 e1 e2
  replace hM := Lib.hid hM
  go_enter Tryd.func16, Tryd.ntmps16
  go_wp2_with fail
  
  refine (H1.out _ (by first | exact sz_keep hM (Below.refl w.heap.size w) | exact sz_keep hM ((Below.refl w.heap.size w).alloc (Nat.le_refl _) _) | exact sz_keep hM (((Below.refl w.heap.size w).alloc (Nat.le_refl _) _).alloc (by simp <;> omega) _) | exact sz_keep hM ((((Below.refl w.heap.size w).alloc (Nat.le_refl _) _).alloc (by simp <;> omega) _).alloc (by simp <;> omega) _))).mono ?_
  rintro e V1 ⟨rfl, hb1⟩
  have B1 : Hid (Below w.heap.size w V1) := by first | exact Lib.hid ((Below.refl w.heap.size w).trans (hb1.mono (by first | assumption | (simp <;> omega) | (simp; done)))) | exact Lib.hid (((Below.refl w.heap.size w).alloc (Nat.le_refl _) _).trans (hb1.mono (by first | assumption | (simp <;> omega) | (simp; done)))) | exact Lib.hid ((((Below.refl w.heap.size w).alloc (Nat.le_refl _) _).alloc (by simp <;> omega) _).trans (hb1.mono (by first | assumption | (simp <;> omega) | (simp; done)))) | exact Lib.hid (((((Below.refl w.heap.size w).alloc (Nat.le_refl _) _).alloc (by simp <;> omega) _).alloc (by simp <;> omega) _).trans (hb1.mono (by first | assumption | (simp <;> omega) | (simp; done))))
  clear hb1
  go_simp
  go_wp2_with fail
  refine (H2.out _ (by first | exact sz_keep hM ((B1.out).alloc (B1.out.size) _))).mono ?_
  rintro e V2 ⟨rfl, hb2⟩
  have B2 := Lib.hid (((B1.out).alloc (B1.out.size) _).trans (hb2.mono (by have := B1.out.size; first | assumption | (simp <;> omega) | (simp; done))))
  have X1 := Lib.hid (row_call hb2 (heap_alloc_new _ _))
  clear hb2
  have X1_0 : V2.cell? ⟨V1.heap.size, 0, none⟩ = some (.int .i64 0) := cell_of_row _ _ _ _ _ _ X1.out
  have X1_1 : V2.cell? ⟨V1.heap.size, 1, none⟩ = some (.int .i64 0) := cell_of_row _ _ _ _ _ _ X1.out
  have X1_2 : V2.cell? ⟨V1.heap.size, 2, none⟩ = some (.int .i64 0) := cell_of_row _ _ _ _ _ _ X1.out
  have X1_3 : V2.cell? ⟨V1.heap.size, 3, none⟩ = some (.int .i64 0) := cell_of_row _ _ _ _ _ _ X1.out
  have zX1 := lt_of_heap X1.out
  go_simp
  go_wp2_with fail
  refine (H3.out _ (by first | exact sz_keep hM ((B2.out).alloc (B2.out.size) _))).mono ?_
  rintro e V3 ⟨rfl, hb3⟩
  clear X1_0 X1_1 X1_2 X1_3 zX1
  have nX1Y1 := Lib.hid (lt_of_heap X1.out)
  have B3 := Lib.hid (((B2.out).alloc (B2.out.size) _).trans (hb3.mono (by have := B2.out.size; first | assumption | (simp <;> omega) | (simp; done))))
  replace X1 := Lib.hid (row_call hb3 (row_alloc X1.out _))
  have Y1 := Lib.hid (row_call hb3 (heap_alloc_new _ _))
  clear hb3
  have X1_0 : V3.cell? ⟨V1.heap.size, 0, none⟩ = some (.int .i64 0) := cell_of_row _ _ _ _ _ _ X1.out
  have X1_1 : V3.cell? ⟨V1.heap.size, 1, none⟩ = some (.int .i64 0) := cell_of_row _ _ _ _ _ _ X1.out
  have X1_2 : V3.cell? ⟨V1.heap.size, 2, none⟩ = some (.int .i64 0) := cell_of_row _ _ _ _ _ _ X1.out
  have X1_3 : V3.cell? ⟨V1.heap.size, 3, none⟩ = some (.int .i64 0) := cell_of_row _ _ _ _ _ _ X1.out
  have Y1_0 : V3.cell? ⟨V2.heap.size, 0, none⟩ = some (.int .i64 23) := cell_of_row _ _ _ _ _ _ Y1.out
  have Y1_1 : V3.cell? ⟨V2.heap.size, 1, none⟩ = some (.int .i64 59) := cell_of_row _ _ _ _ _ _ Y1.out
  have Y1_2 : V3.cell? ⟨V2.heap.size, 2, none⟩ = some (.int .i64 59) := cell_of_row _ _ _ _ _ _ Y1.out
  have Y1_3 : V3.cell? ⟨V2.heap.size, 3, none⟩ = some (.int .i64 999999999) := cell_of_row _ _ _ _ _ _ Y1.out
  have zX1 := lt_of_heap X1.out
  have zY1 := lt_of_heap Y1.out
  go_simp
  go_wp2
  go_ret
  exact ⟨rfl, by first | exact B3.out | exact B3.out.alloc B3.out.size _⟩
set_option maxHeartbeats 3200000 in
set_option maxRecDepth 100000 in
theorem clockNanos_walk (h m s n x : Int) (bx : in64 x) (w : World) (hM : SZ w) : Calls Tryd.prog 3 #[.agg #[.int .i64 h, .int .i64 m, .int .i64 s, .int .i64 n], .int .i64 x] w fun e w' => e = .returned (.bool true) ∧ Below w.heap.size w w' := by
  obtain ⟨a, b, c, d, E, X1, X2⟩ := kof_both x bx
  obtain ⟨i, l, F, X3, X4⟩ := khalf_both h m s n
  have H1 := Lib.hid (pkNanos_any h m s n)
  have H2 := Lib.hid (rkNanos_any h m s n)
  have H3 := Lib.hid X1
  have H4 := Lib.hid X2
  have H5 := Lib.hid X3
  have H6 := Lib.hid X4
  have HC := Lib.hid (pkCheck_any h m s n)
  have HD := Lib.hid (rkCheck_any h m s n)
  have HK := Lib.hid awake8_any
  clear X1 X2 X3 X4 bx
  generalize nnK h m s n = N at *
  generalize ckK h m s n = K at *
  replace hM := Lib.hid hM
  go_enter Tryd.func3, Tryd.ntmps3
  go_wp2_with fail
  
  refine (H1.out _ (by first | exact sz_keep hM ((Below.refl w.heap.size w).alloc (Nat.le_refl _) _))).mono ?_
  rintro e V1 ⟨rfl, hb1⟩
  have B1 := Lib.hid (((Below.refl w.heap.size w).alloc (Nat.le_refl _) _).trans (hb1.mono (by first | assumption | (simp <;> omega) | (simp; done))))
  have A1 := Lib.hid (row_call hb1 (heap_alloc_new _ _))
  clear hb1
  have A1_0 : V1.cell? ⟨w.heap.size, 0, none⟩ = some (.int .i64 h) := cell_of_row _ _ _ _ _ _ A1.out
  have A1_1 : V1.cell? ⟨w.heap.size, 1, none⟩ = some (.int .i64 m) := cell_of_row _ _ _ _ _ _ A1.out
  have A1_2 : V1.cell? ⟨w.heap.size, 2, none⟩ = some (.int .i64 s) := cell_of_row _ _ _ _ _ _ A1.out
  have A1_3 : V1.cell? ⟨w.heap.size, 3, none⟩ = some (.int .i64 n) := cell_of_row _ _ _ _ _ _ A1.out
  have zA1 := lt_of_heap A1.out
  go_simp
  go_wp2_with fail
  refine (H2.out _).mono ?_
  rintro e V2 ⟨rfl, hb2⟩
  clear A1_0 A1_1 A1_2 A1_3 zA1
  have B2 : Hid (Below w.heap.size w V2) := by first | exact Lib.hid ((B1.out).trans (hb2.mono (by have := B1.out.size; first | assumption | (simp <;> omega) | (simp; done)))) | exact Lib.hid (((B1.out).alloc (B1.out.size) _).trans (hb2.mono (by have := B1.out.size; first | assumption | (simp <;> omega) | (simp; done)))) | exact Lib.hid ((((B1.out).alloc (B1.out.size) _).alloc (by have := B1.out.size; simp <;> omega) _).trans (hb2.mono (by have := B1.out.size; first | assumption | (simp <;> omega) | (simp; done)))) | exact Lib.hid (((((B1.out).alloc (B1.out.size) _).alloc (by have := B1.out.size; simp <;> omega) _).alloc (by have := B1.out.size; simp <;> omega) _).trans (hb2.mono (by have := B1.out.size; first | assumption | (simp <;> omega) | (simp; done))))
  first | replace A1 := Lib.hid (row_call hb2 A1.out) | replace A1 := Lib.hid (row_call hb2 (row_alloc A1.out _)) | replace A1 := Lib.hid (row_call hb2 (row_alloc (row_alloc A1.out _) _)) | replace A1 := Lib.hid (row_call hb2 (row_alloc (row_alloc (row_alloc A1.out _) _) _))
  clear hb2
  have A1_0 : V2.cell? ⟨w.heap.size, 0, none⟩ = some (.int .i64 h) := cell_of_row _ _ _ _ _ _ A1.out
  have A1_1 : V2.cell? ⟨w.heap.size, 1, none⟩ = some (.int .i64 m) := cell_of_row _ _ _ _ _ _ A1.out
  have A1_2 : V2.cell? ⟨w.heap.size, 2, none⟩ = some (.int .i64 s) := cell_of_row _ _ _ _ _ _ A1.out
  have A1_3 : V2.cell? ⟨w.heap.size, 3, none⟩ = some (.int .i64 n) := cell_of_row _ _ _ _ _ _ A1.out
  have zA1 := lt_of_heap A1.out
  go_simp
  go_wp2_with fail
  refine (H3.out _ (by first | exact sz_keep hM (B2.out) | exact sz_keep hM ((B2.out).alloc (B2.out.size) _) | exact sz_keep hM (((B2.out).alloc (B2.out.size) _).alloc (by have := B2.out.size; simp <;> omega) _) | exact sz_keep hM ((((B2.out).alloc (B2.out.size) _).alloc (by have := B2.out.size; simp <;> omega) _).alloc (by have := B2.out.size; simp <;> omega) _))).mono ?_
  rintro e V3 ⟨rfl, hb3⟩
  clear A1_0 A1_1 A1_2 A1_3 zA1
  have B3 : Hid (Below w.heap.size w V3) := by first | exact Lib.hid ((B2.out).trans (hb3.mono (by have := B2.out.size; first | assumption | (simp <;> omega) | (simp; done)))) | exact Lib.hid (((B2.out).alloc (B2.out.size) _).trans (hb3.mono (by have := B2.out.size; first | assumption | (simp <;> omega) | (simp; done)))) | exact Lib.hid ((((B2.out).alloc (B2.out.size) _).alloc (by have := B2.out.size; simp <;> omega) _).trans (hb3.mono (by have := B2.out.size; first | assumption | (simp <;> omega) | (simp; done)))) | exact Lib.hid (((((B2.out).alloc (B2.out.size) _).alloc (by have := B2.out.size; simp <;> omega) _).alloc (by have := B2.out.size; simp <;> omega) _).trans (hb3.mono (by have := B2.out.size; first | assumption | (simp <;> omega) | (simp; done))))
  first | replace A1 := Lib.hid (row_call hb3 A1.out) | replace A1 := Lib.hid (row_call hb3 (row_alloc A1.out _)) | replace A1 := Lib.hid (row_call hb3 (row_alloc (row_alloc A1.out _) _)) | replace A1 := Lib.hid (row_call hb3 (row_alloc (row_alloc (row_alloc A1.out _) _) _))
  clear hb3
  have A1_0 : V3.cell? ⟨w.heap.size, 0, none⟩ = some (.int .i64 h) := cell_of_row _ _ _ _ _ _ A1.out
  have A1_1 : V3.cell? ⟨w.heap.size, 1, none⟩ = some (.int .i64 m) := cell_of_row _ _ _ _ _ _ A1.out
  have A1_2 : V3.cell? ⟨w.heap.size, 2, none⟩ = some (.int .i64 s) := cell_of_row _ _ _ _ _ _ A1.out
  have A1_3 : V3.cell? ⟨w.heap.size, 3, none⟩ = some (.int .i64 n) := cell_of_row _ _ _ _ _ _ A1.out
  have zA1 := lt_of_heap A1.out
  go_simp
  go_wp2_with fail
  refine (H4.out _).mono ?_
  rintro e V4 ⟨rfl, hb4⟩
  clear A1_0 A1_1 A1_2 A1_3 zA1
  have nA1X1 := Lib.hid (lt_of_heap A1.out)
  have B4 := Lib.hid (((B3.out).alloc (B3.out.size) _).trans (hb4.mono (by have := B3.out.size; first | assumption | (simp <;> omega) | (simp; done))))
  replace A1 := Lib.hid (row_call hb4 (row_alloc A1.out _))
  have X1 := Lib.hid (row_call hb4 (heap_alloc_new _ _))
  clear hb4
  have A1_0 : V4.cell? ⟨w.heap.size, 0, none⟩ = some (.int .i64 h) := cell_of_row _ _ _ _ _ _ A1.out
  have A1_1 : V4.cell? ⟨w.heap.size, 1, none⟩ = some (.int .i64 m) := cell_of_row _ _ _ _ _ _ A1.out
  have A1_2 : V4.cell? ⟨w.heap.size, 2, none⟩ = some (.int .i64 s) := cell_of_row _ _ _ _ _ _ A1.out
  have A1_3 : V4.cell? ⟨w.heap.size, 3, none⟩ = some (.int .i64 n) := cell_of_row _ _ _ _ _ _ A1.out
  have X1_0 : V4.cell? ⟨V3.heap.size, 0, none⟩ = some (.int .i64 a) := cell_of_row _ _ _ _ _ _ X1.out
  have X1_1 : V4.cell? ⟨V3.heap.size, 1, none⟩ = some (.int .i64 b) := cell_of_row _ _ _ _ _ _ X1.out
  have X1_2 : V4.cell? ⟨V3.heap.size, 2, none⟩ = some (.int .i64 c) := cell_of_row _ _ _ _ _ _ X1.out
  have X1_3 : V4.cell? ⟨V3.heap.size, 3, none⟩ = some (.int .i64 d) := cell_of_row _ _ _ _ _ _ X1.out
  have zA1 := lt_of_heap A1.out
  have zX1 := lt_of_heap X1.out
  go_simp
  go_wp2_with fail
  refine (H5.out _ (by first | exact sz_keep hM ((B4.out).alloc (B4.out.size) _))).mono ?_
  rintro e V5 ⟨rfl, hb5⟩
  clear A1_0 A1_1 A1_2 A1_3 zA1 X1_0 X1_1 X1_2 X1_3 zX1
  have nA1Y1 := Lib.hid (lt_of_heap A1.out)
  have nX1Y1 := Lib.hid (lt_of_heap X1.out)
  have B5 := Lib.hid (((B4.out).alloc (B4.out.size) _).trans (hb5.mono (by have := B4.out.size; first | assumption | (simp <;> omega) | (simp; done))))
  replace A1 := Lib.hid (row_call hb5 (row_alloc A1.out _))
  replace X1 := Lib.hid (row_call hb5 (row_alloc X1.out _))
  have Y1 := Lib.hid (row_call hb5 (heap_alloc_new _ _))
  clear hb5
  have A1_0 : V5.cell? ⟨w.heap.size, 0, none⟩ = some (.int .i64 h) := cell_of_row _ _ _ _ _ _ A1.out
  have A1_1 : V5.cell? ⟨w.heap.size, 1, none⟩ = some (.int .i64 m) := cell_of_row _ _ _ _ _ _ A1.out
  have A1_2 : V5.cell? ⟨w.heap.size, 2, none⟩ = some (.int .i64 s) := cell_of_row _ _ _ _ _ _ A1.out
  have A1_3 : V5.cell? ⟨w.heap.size, 3, none⟩ = some (.int .i64 n) := cell_of_row _ _ _ _ _ _ A1.out
  have X1_0 : V5.cell? ⟨V3.heap.size, 0, none⟩ = some (.int .i64 a) := cell_of_row _ _ _ _ _ _ X1.out
  have X1_1 : V5.cell? ⟨V3.heap.size, 1, none⟩ = some (.int .i64 b) := cell_of_row _ _ _ _ _ _ X1.out
  have X1_2 : V5.cell? ⟨V3.heap.size, 2, none⟩ = some (.int .i64 c) := cell_of_row _ _ _ _ _ _ X1.out
  have X1_3 : V5.cell? ⟨V3.heap.size, 3, none⟩ = some (.int .i64 d) := cell_of_row _ _ _ _ _ _ X1.out
  have Y1_0 : V5.cell? ⟨V4.heap.size, 0, none⟩ = some (.int .i64 a) := cell_of_row _ _ _ _ _ _ Y1.out
  have Y1_1 : V5.cell? ⟨V4.heap.size, 1, none⟩ = some (.int .i64 b) := cell_of_row _ _ _ _ _ _ Y1.out
  have Y1_2 : V5.cell? ⟨V4.heap.size, 2, none⟩ = some (.int .i64 c) := cell_of_row _ _ _ _ _ _ Y1.out
  have Y1_3 : V5.cell? ⟨V4.heap.size, 3, none⟩ = some (.int .i64 d) := cell_of_row _ _ _ _ _ _ Y1.out
  have zA1 := lt_of_heap A1.out
  have zX1 := lt_of_heap X1.out
  have zY1 := lt_of_heap Y1.out
  go_simp
  go_wp2_with fail
  refine (H6.out _).mono ?_
  rintro e V6 ⟨rfl, hb6⟩
  clear A1_0 A1_1 A1_2 A1_3 zA1 X1_0 X1_1 X1_2 X1_3 zX1 Y1_0 Y1_1 Y1_2 Y1_3 zY1
  have B6 : Hid (Below w.heap.size w V6) := by first | exact Lib.hid ((B5.out).trans (hb6.mono (by have := B5.out.size; first | assumption | (simp <;> omega) | (simp; done)))) | exact Lib.hid (((B5.out).alloc (B5.out.size) _).trans (hb6.mono (by have := B5.out.size; first | assumption | (simp <;> omega) | (simp; done)))) | exact Lib.hid ((((B5.out).alloc (B5.out.size) _).alloc (by have := B5.out.size; simp <;> omega) _).trans (hb6.mono (by have := B5.out.size; first | assumption | (simp <;> omega) | (simp; done)))) | exact Lib.hid (((((B5.out).alloc (B5.out.size) _).alloc (by have := B5.out.size; simp <;> omega) _).alloc (by have := B5.out.size; simp <;> omega) _).trans (hb6.mono (by have := B5.out.size; first | assumption | (simp <;> omega) | (simp; done))))
  first | replace A1 := Lib.hid (row_call hb6 A1.out) | replace A1 := Lib.hid (row_call hb6 (row_alloc A1.out _)) | replace A1 := Lib.hid (row_call hb6 (row_alloc (row_alloc A1.out _) _)) | replace A1 := Lib.hid (row_call hb6 (row_alloc (row_alloc (row_alloc A1.out _) _) _))
  first | replace X1 := Lib.hid (row_call hb6 X1.out) | replace X1 := Lib.hid (row_call hb6 (row_alloc X1.out _)) | replace X1 := Lib.hid (row_call hb6 (row_alloc (row_alloc X1.out _) _)) | replace X1 := Lib.hid (row_call hb6 (row_alloc (row_alloc (row_alloc X1.out _) _) _))
  first | replace Y1 := Lib.hid (row_call hb6 Y1.out) | replace Y1 := Lib.hid (row_call hb6 (row_alloc Y1.out _)) | replace Y1 := Lib.hid (row_call hb6 (row_alloc (row_alloc Y1.out _) _)) | replace Y1 := Lib.hid (row_call hb6 (row_alloc (row_alloc (row_alloc Y1.out _) _) _))
  clear hb6
  have A1_0 : V6.cell? ⟨w.heap.size, 0, none⟩ = some (.int .i64 h) := cell_of_row _ _ _ _ _ _ A1.out
  have A1_1 : V6.cell? ⟨w.heap.size, 1, none⟩ = some (.int .i64 m) := cell_of_row _ _ _ _ _ _ A1.out
  have A1_2 : V6.cell? ⟨w.heap.size, 2, none⟩ = some (.int .i64 s) := cell_of_row _ _ _ _ _ _ A1.out
  have A1_3 : V6.cell? ⟨w.heap.size, 3, none⟩ = some (.int .i64 n) := cell_of_row _ _ _ _ _ _ A1.out
  have X1_0 : V6.cell? ⟨V3.heap.size, 0, none⟩ = some (.int .i64 a) := cell_of_row _ _ _ _ _ _ X1.out
  have X1_1 : V6.cell? ⟨V3.heap.size, 1, none⟩ = some (.int .i64 b) := cell_of_row _ _ _ _ _ _ X1.out
  have X1_2 : V6.cell? ⟨V3.heap.size, 2, none⟩ = some (.int .i64 c) := cell_of_row _ _ _ _ _ _ X1.out
  have X1_3 : V6.cell? ⟨V3.heap.size, 3, none⟩ = some (.int .i64 d) := cell_of_row _ _ _ _ _ _ X1.out
  have Y1_0 : V6.cell? ⟨V4.heap.size, 0, none⟩ = some (.int .i64 a) := cell_of_row _ _ _ _ _ _ Y1.out
  have Y1_1 : V6.cell? ⟨V4.heap.size, 1, none⟩ = some (.int .i64 b) := cell_of_row _ _ _ _ _ _ Y1.out
  have Y1_2 : V6.cell? ⟨V4.heap.size, 2, none⟩ = some (.int .i64 c) := cell_of_row _ _ _ _ _ _ Y1.out
  have Y1_3 : V6.cell? ⟨V4.heap.size, 3, none⟩ = some (.int .i64 d) := cell_of_row _ _ _ _ _ _ Y1.out
  have zA1 := lt_of_heap A1.out
  have zX1 := lt_of_heap X1.out
  have zY1 := lt_of_heap Y1.out
  go_simp
  go_wp2_with fail
  obtain ⟨W0, hW0⟩ : ∃ W0, W0 = V6 := ⟨_, rfl⟩
  replace A1 := Lib.hid (row_by hW0 A1.out)
  replace X1 := Lib.hid (row_by hW0 X1.out)
  replace Y1 := Lib.hid (row_by hW0 Y1.out)
  clear A1_0 A1_1 A1_2 A1_3 zA1 X1_0 X1_1 X1_2 X1_3 zX1 Y1_0 Y1_1 Y1_2 Y1_3 zY1
  have A1_0 : W0.cell? ⟨w.heap.size, 0, none⟩ = some (.int .i64 h) := cell_of_row _ _ _ _ _ _ A1.out
  have A1_1 : W0.cell? ⟨w.heap.size, 1, none⟩ = some (.int .i64 m) := cell_of_row _ _ _ _ _ _ A1.out
  have A1_2 : W0.cell? ⟨w.heap.size, 2, none⟩ = some (.int .i64 s) := cell_of_row _ _ _ _ _ _ A1.out
  have A1_3 : W0.cell? ⟨w.heap.size, 3, none⟩ = some (.int .i64 n) := cell_of_row _ _ _ _ _ _ A1.out
  have zA1 := lt_of_heap A1.out
  have X1_0 : W0.cell? ⟨V3.heap.size, 0, none⟩ = some (.int .i64 a) := cell_of_row _ _ _ _ _ _ X1.out
  have X1_1 : W0.cell? ⟨V3.heap.size, 1, none⟩ = some (.int .i64 b) := cell_of_row _ _ _ _ _ _ X1.out
  have X1_2 : W0.cell? ⟨V3.heap.size, 2, none⟩ = some (.int .i64 c) := cell_of_row _ _ _ _ _ _ X1.out
  have X1_3 : W0.cell? ⟨V3.heap.size, 3, none⟩ = some (.int .i64 d) := cell_of_row _ _ _ _ _ _ X1.out
  have zX1 := lt_of_heap X1.out
  have Y1_0 : W0.cell? ⟨V4.heap.size, 0, none⟩ = some (.int .i64 a) := cell_of_row _ _ _ _ _ _ Y1.out
  have Y1_1 : W0.cell? ⟨V4.heap.size, 1, none⟩ = some (.int .i64 b) := cell_of_row _ _ _ _ _ _ Y1.out
  have Y1_2 : W0.cell? ⟨V4.heap.size, 2, none⟩ = some (.int .i64 c) := cell_of_row _ _ _ _ _ _ Y1.out
  have Y1_3 : W0.cell? ⟨V4.heap.size, 3, none⟩ = some (.int .i64 d) := cell_of_row _ _ _ _ _ _ Y1.out
  have zY1 := lt_of_heap Y1.out
  have HB0 := Lib.hid (below_by hW0 (B6.out))
  have zW0 := HB0.out.size
  have HW0 := Lib.hid hW0
  clear hW0
  try go_simp
  rw [← HW0.out]
  have hk0 : ∀ w2, Below W0.heap.size W0 w2 → w2.cell? ⟨w.heap.size, 0, none⟩ = some (.int .i64 h) := fun w2 hb => (by rw [hb.cell (p := ⟨w.heap.size, 0, none⟩) (by assumption)]; assumption)
  have hk1 : ∀ w2, Below W0.heap.size W0 w2 → w2.cell? ⟨w.heap.size, 1, none⟩ = some (.int .i64 m) := fun w2 hb => (by rw [hb.cell (p := ⟨w.heap.size, 1, none⟩) (by assumption)]; assumption)
  have hk2 : ∀ w2, Below W0.heap.size W0 w2 → w2.cell? ⟨w.heap.size, 2, none⟩ = some (.int .i64 s) := fun w2 hb => (by rw [hb.cell (p := ⟨w.heap.size, 2, none⟩) (by assumption)]; assumption)
  have hk3 : ∀ w2, Below W0.heap.size W0 w2 → w2.cell? ⟨w.heap.size, 3, none⟩ = some (.int .i64 n) := fun w2 hb => (by rw [hb.cell (p := ⟨w.heap.size, 3, none⟩) (by assumption)]; assumption)
  have hk4 : ∀ w2, Below W0.heap.size W0 w2 → w2.cell? ⟨V3.heap.size, 0, none⟩ = some (.int .i64 a) := fun w2 hb => (by rw [hb.cell (p := ⟨V3.heap.size, 0, none⟩) (by assumption)]; assumption)
  have hk5 : ∀ w2, Below W0.heap.size W0 w2 → w2.cell? ⟨V3.heap.size, 1, none⟩ = some (.int .i64 b) := fun w2 hb => (by rw [hb.cell (p := ⟨V3.heap.size, 1, none⟩) (by assumption)]; assumption)
  have hk6 : ∀ w2, Below W0.heap.size W0 w2 → w2.cell? ⟨V3.heap.size, 2, none⟩ = some (.int .i64 c) := fun w2 hb => (by rw [hb.cell (p := ⟨V3.heap.size, 2, none⟩) (by assumption)]; assumption)
  have hk7 : ∀ w2, Below W0.heap.size W0 w2 → w2.cell? ⟨V3.heap.size, 3, none⟩ = some (.int .i64 d) := fun w2 hb => (by rw [hb.cell (p := ⟨V3.heap.size, 3, none⟩) (by assumption)]; assumption)
  have hk8 : ∀ w2, Below W0.heap.size W0 w2 → w2.cell? ⟨V4.heap.size, 0, none⟩ = some (.int .i64 a) := fun w2 hb => (by rw [hb.cell (p := ⟨V4.heap.size, 0, none⟩) (by assumption)]; assumption)
  have hk9 : ∀ w2, Below W0.heap.size W0 w2 → w2.cell? ⟨V4.heap.size, 1, none⟩ = some (.int .i64 b) := fun w2 hb => (by rw [hb.cell (p := ⟨V4.heap.size, 1, none⟩) (by assumption)]; assumption)
  have hk10 : ∀ w2, Below W0.heap.size W0 w2 → w2.cell? ⟨V4.heap.size, 2, none⟩ = some (.int .i64 c) := fun w2 hb => (by rw [hb.cell (p := ⟨V4.heap.size, 2, none⟩) (by assumption)]; assumption)
  have hk11 : ∀ w2, Below W0.heap.size W0 w2 → w2.cell? ⟨V4.heap.size, 3, none⟩ = some (.int .i64 d) := fun w2 hb => (by rw [hb.cell (p := ⟨V4.heap.size, 3, none⟩) (by assumption)]; assumption)
  clear A1_0 A1_1 A1_2 A1_3 X1_0 X1_1 X1_2 X1_3 Y1_0 Y1_1 Y1_2 Y1_3
  refine region_plan (S := fun w2 => Below W0.heap.size W0 w2) [(0, true), (1, true), (2, true), (3, true), (4, true), (5, true), (6, true), (7, true), (8, true), (9, true), (10, true), (11, true), (12, true), (13, true), (14, true), (15, true), (16, true), (17, true), (18, true), (19, true), (20, true), (21, true), (22, true), (23, true), (24, true), (25, true), (26, true), (27, true), (28, true), (29, true), (30, true), (31, true), (32, true), (33, true), (34, true), (36, true), (35, false), (37, false), (38, true), (39, true), (40, true), (41, false), (42, true), (43, true)] (by as_aux_lemma => kernel_rfl) (by as_aux_lemma => kernel_rfl) (by as_aux_lemma => kernel_rfl) (by as_aux_lemma => kernel_rfl) (Below.refl W0.heap.size W0).drew ?_
  have Y0 := Lib.hid (Below.refl W0.heap.size W0).drew
  refine plan_yes (v := ?v1) (by simp only [List.getElem?_toArray, List.getElem?_cons_zero, List.getElem?_cons_succ]; exact rfl) (Or.inl ⟨by as_aux_lemma => rfl, ?hy1⟩) ?rest1
  case hy1 => (intro w2 hSw; (try dsimp only at hSw); go_simp; try with_reducible rfl)
  try simp only [Act.put, List.setIfInBounds_toArray, List.set_cons_zero, List.set_cons_succ]
  refine plan_yes (v := ?v2) (by simp only [List.getElem?_toArray, List.getElem?_cons_zero, List.getElem?_cons_succ]; exact rfl) (Or.inl ⟨by as_aux_lemma => rfl, ?hy2⟩) ?rest2
  case hy2 => (intro w2 hSw; (try dsimp only at hSw); go_simp; try with_reducible rfl)
  try simp only [Act.put, List.setIfInBounds_toArray, List.set_cons_zero, List.set_cons_succ]
  refine plan_yes (v := ?v3) (by simp only [List.getElem?_toArray, List.getElem?_cons_zero, List.getElem?_cons_succ]; exact rfl) (Or.inl ⟨by as_aux_lemma => rfl, ?hy3⟩) ?rest3
  case hy3 => (intro w2 hSw; (try dsimp only at hSw); go_simp; try with_reducible rfl)
  try simp only [Act.put, List.setIfInBounds_toArray, List.set_cons_zero, List.set_cons_succ]
  refine plan_yes (v := ?v4) (by simp only [List.getElem?_toArray, List.getElem?_cons_zero, List.getElem?_cons_succ]; exact rfl) (Or.inl ⟨by as_aux_lemma => rfl, ?hy4⟩) ?rest4
  case hy4 => (intro w2 hSw; (try dsimp only at hSw); go_simp; try with_reducible rfl)
  try simp only [Act.put, List.setIfInBounds_toArray, List.set_cons_zero, List.set_cons_succ]
  refine plan_yes (v := ?v5) (by simp only [List.getElem?_toArray, List.getElem?_cons_zero, List.getElem?_cons_succ]; exact rfl) (Or.inl ⟨by as_aux_lemma => rfl, ?hy5⟩) ?rest5
  case hy5 => (intro w2 hSw; (try dsimp only at hSw); go_simp; try with_reducible rfl)
  try simp only [Act.put, List.setIfInBounds_toArray, List.set_cons_zero, List.set_cons_succ]
  refine plan_yes (v := ?v6) (by simp only [List.getElem?_toArray, List.getElem?_cons_zero, List.getElem?_cons_succ]; exact rfl) (Or.inl ⟨by as_aux_lemma => rfl, ?hy6⟩) ?rest6
  case hy6 => (intro w2 hSw; (try dsimp only at hSw); go_simp; try with_reducible rfl)
  try simp only [Act.put, List.setIfInBounds_toArray, List.set_cons_zero, List.set_cons_succ]
  refine plan_yes (v := ?v7) (by simp only [List.getElem?_toArray, List.getElem?_cons_zero, List.getElem?_cons_succ]; exact rfl) (Or.inl ⟨by as_aux_lemma => rfl, ?hy7⟩) ?rest7
  case hy7 => (intro w2 hSw; (try dsimp only at hSw); go_simp; try with_reducible rfl)
  try simp only [Act.put, List.setIfInBounds_toArray, List.set_cons_zero, List.set_cons_succ]
  refine plan_yes (v := ?v8) (by simp only [List.getElem?_toArray, List.getElem?_cons_zero, List.getElem?_cons_succ]; exact rfl) (Or.inl ⟨by as_aux_lemma => rfl, ?hy8⟩) ?rest8
  case hy8 => (intro w2 hSw; (try dsimp only at hSw); go_simp; try with_reducible rfl)
  try simp only [Act.put, List.setIfInBounds_toArray, List.set_cons_zero, List.set_cons_succ]
  refine plan_yes (v := ?v9) (by simp only [List.getElem?_toArray, List.getElem?_cons_zero, List.getElem?_cons_succ]; exact rfl) (Or.inl ⟨by as_aux_lemma => rfl, ?hy9⟩) ?rest9
  case hy9 => (intro w2 hSw; (try dsimp only at hSw); go_simp; try with_reducible rfl)
  try simp only [Act.put, List.setIfInBounds_toArray, List.set_cons_zero, List.set_cons_succ]
  refine plan_yes (v := ?v10) (by simp only [List.getElem?_toArray, List.getElem?_cons_zero, List.getElem?_cons_succ]; exact rfl) (Or.inl ⟨by as_aux_lemma => rfl, ?hy10⟩) ?rest10
  case hy10 => (intro w2 hSw; (try dsimp only at hSw); go_simp; try with_reducible rfl)
  try simp only [Act.put, List.setIfInBounds_toArray, List.set_cons_zero, List.set_cons_succ]
  refine plan_yes (v := ?v11) (by simp only [List.getElem?_toArray, List.getElem?_cons_zero, List.getElem?_cons_succ]; exact rfl) (Or.inl ⟨by as_aux_lemma => rfl, ?hy11⟩) ?rest11
  case hy11 => (intro w2 hSw; (try dsimp only at hSw); go_simp; try with_reducible rfl)
  try simp only [Act.put, List.setIfInBounds_toArray, List.set_cons_zero, List.set_cons_succ]
  refine plan_yes (v := .bool true) (by simp only [List.getElem?_toArray, List.getElem?_cons_zero, List.getElem?_cons_succ]; exact rfl) (Or.inl ⟨by as_aux_lemma => rfl, ?hy12⟩) ?rest12
  case hy12 => (intro w2 hSw; first | (apply eql_dur; rfl; rfl; rfl) | (apply eql_clock; rfl; rfl; rfl))
  try simp only [Act.put, List.setIfInBounds_toArray, List.set_cons_zero, List.set_cons_succ]
  refine plan_yes (v := ?v13) (by simp only [List.getElem?_toArray, List.getElem?_cons_zero, List.getElem?_cons_succ]; exact rfl) (Or.inl ⟨by as_aux_lemma => rfl, ?hy13⟩) ?rest13
  case hy13 => (intro w2 hSw; (try dsimp only at hSw); go_simp; try with_reducible rfl)
  try simp only [Act.put, List.setIfInBounds_toArray, List.set_cons_zero, List.set_cons_succ]
  refine plan_yes (v := ?v14) (by simp only [List.getElem?_toArray, List.getElem?_cons_zero, List.getElem?_cons_succ]; exact rfl) (Or.inl ⟨by as_aux_lemma => rfl, ?hy14⟩) ?rest14
  case hy14 => (intro w2 hSw; (try dsimp only at hSw); go_simp; try with_reducible rfl)
  try simp only [Act.put, List.setIfInBounds_toArray, List.set_cons_zero, List.set_cons_succ]
  refine plan_yes (v := ?v15) (by simp only [List.getElem?_toArray, List.getElem?_cons_zero, List.getElem?_cons_succ]; exact rfl) (Or.inl ⟨by as_aux_lemma => rfl, ?hy15⟩) ?rest15
  case hy15 => (intro w2 hSw; (try dsimp only at hSw); go_simp; try with_reducible rfl)
  try simp only [Act.put, List.setIfInBounds_toArray, List.set_cons_zero, List.set_cons_succ]
  refine plan_yes (v := ?v16) (by simp only [List.getElem?_toArray, List.getElem?_cons_zero, List.getElem?_cons_succ]; exact rfl) (Or.inl ⟨by as_aux_lemma => rfl, ?hy16⟩) ?rest16
  case hy16 => (intro w2 hSw; (try dsimp only at hSw); go_simp; try with_reducible rfl)
  try simp only [Act.put, List.setIfInBounds_toArray, List.set_cons_zero, List.set_cons_succ]
  refine plan_yes (v := ?v17) (by simp only [List.getElem?_toArray, List.getElem?_cons_zero, List.getElem?_cons_succ]; exact rfl) (Or.inl ⟨by as_aux_lemma => rfl, ?hy17⟩) ?rest17
  case hy17 => (intro w2 hSw; (try dsimp only at hSw); go_simp; try with_reducible rfl)
  try simp only [Act.put, List.setIfInBounds_toArray, List.set_cons_zero, List.set_cons_succ]
  refine plan_yes (v := ?v18) (by simp only [List.getElem?_toArray, List.getElem?_cons_zero, List.getElem?_cons_succ]; exact rfl) (Or.inl ⟨by as_aux_lemma => rfl, ?hy18⟩) ?rest18
  case hy18 => (intro w2 hSw; (try dsimp only at hSw); go_simp; try with_reducible rfl)
  try simp only [Act.put, List.setIfInBounds_toArray, List.set_cons_zero, List.set_cons_succ]
  refine plan_yes (v := ?v19) (by simp only [List.getElem?_toArray, List.getElem?_cons_zero, List.getElem?_cons_succ]; exact rfl) (Or.inl ⟨by as_aux_lemma => rfl, ?hy19⟩) ?rest19
  case hy19 => (intro w2 hSw; (try dsimp only at hSw); go_simp; try with_reducible rfl)
  try simp only [Act.put, List.setIfInBounds_toArray, List.set_cons_zero, List.set_cons_succ]
  refine plan_yes (v := ?v20) (by simp only [List.getElem?_toArray, List.getElem?_cons_zero, List.getElem?_cons_succ]; exact rfl) (Or.inl ⟨by as_aux_lemma => rfl, ?hy20⟩) ?rest20
  case hy20 => (intro w2 hSw; (try dsimp only at hSw); go_simp; try with_reducible rfl)
  try simp only [Act.put, List.setIfInBounds_toArray, List.set_cons_zero, List.set_cons_succ]
  refine plan_yes (v := ?v21) (by simp only [List.getElem?_toArray, List.getElem?_cons_zero, List.getElem?_cons_succ]; exact rfl) (Or.inl ⟨by as_aux_lemma => rfl, ?hy21⟩) ?rest21
  case hy21 => (intro w2 hSw; (try dsimp only at hSw); go_simp; try with_reducible rfl)
  try simp only [Act.put, List.setIfInBounds_toArray, List.set_cons_zero, List.set_cons_succ]
  refine plan_yes (v := ?v22) (by simp only [List.getElem?_toArray, List.getElem?_cons_zero, List.getElem?_cons_succ]; exact rfl) (Or.inl ⟨by as_aux_lemma => rfl, ?hy22⟩) ?rest22
  case hy22 => (intro w2 hSw; (try dsimp only at hSw); go_simp; try with_reducible rfl)
  try simp only [Act.put, List.setIfInBounds_toArray, List.set_cons_zero, List.set_cons_succ]
  refine plan_yes (v := ?v23) (by simp only [List.getElem?_toArray, List.getElem?_cons_zero, List.getElem?_cons_succ]; exact rfl) (Or.inl ⟨by as_aux_lemma => rfl, ?hy23⟩) ?rest23
  case hy23 => (intro w2 hSw; (try dsimp only at hSw); go_simp; try with_reducible rfl)
  try simp only [Act.put, List.setIfInBounds_toArray, List.set_cons_zero, List.set_cons_succ]
  refine plan_yes (v := ?v24) (by simp only [List.getElem?_toArray, List.getElem?_cons_zero, List.getElem?_cons_succ]; exact rfl) (Or.inl ⟨by as_aux_lemma => rfl, ?hy24⟩) ?rest24
  case hy24 => (intro w2 hSw; (try dsimp only at hSw); go_simp; try with_reducible rfl)
  try simp only [Act.put, List.setIfInBounds_toArray, List.set_cons_zero, List.set_cons_succ]
  refine plan_yes (v := ?v25) (by simp only [List.getElem?_toArray, List.getElem?_cons_zero, List.getElem?_cons_succ]; exact rfl) (Or.inl ⟨by as_aux_lemma => rfl, ?hy25⟩) ?rest25
  case hy25 => (intro w2 hSw; (try dsimp only at hSw); go_simp; try with_reducible rfl)
  try simp only [Act.put, List.setIfInBounds_toArray, List.set_cons_zero, List.set_cons_succ]
  refine plan_yes (v := ?v26) (by simp only [List.getElem?_toArray, List.getElem?_cons_zero, List.getElem?_cons_succ]; exact rfl) (Or.inl ⟨by as_aux_lemma => rfl, ?hy26⟩) ?rest26
  case hy26 => (intro w2 hSw; (try dsimp only at hSw); go_simp; try with_reducible rfl)
  try simp only [Act.put, List.setIfInBounds_toArray, List.set_cons_zero, List.set_cons_succ]
  refine plan_yes (v := ?v27) (by simp only [List.getElem?_toArray, List.getElem?_cons_zero, List.getElem?_cons_succ]; exact rfl) (Or.inl ⟨by as_aux_lemma => rfl, ?hy27⟩) ?rest27
  case hy27 => (intro w2 hSw; (try dsimp only at hSw); go_simp; try with_reducible rfl)
  try simp only [Act.put, List.setIfInBounds_toArray, List.set_cons_zero, List.set_cons_succ]
  refine plan_yes (v := ?v28) (by simp only [List.getElem?_toArray, List.getElem?_cons_zero, List.getElem?_cons_succ]; exact rfl) (Or.inl ⟨by as_aux_lemma => rfl, ?hy28⟩) ?rest28
  case hy28 => (intro w2 hSw; (try dsimp only at hSw); go_simp; try with_reducible rfl)
  try simp only [Act.put, List.setIfInBounds_toArray, List.set_cons_zero, List.set_cons_succ]
  refine plan_yes (v := ?v29) (by simp only [List.getElem?_toArray, List.getElem?_cons_zero, List.getElem?_cons_succ]; exact rfl) (Or.inl ⟨by as_aux_lemma => rfl, ?hy29⟩) ?rest29
  case hy29 => (intro w2 hSw; (try dsimp only at hSw); go_simp; try with_reducible rfl)
  try simp only [Act.put, List.setIfInBounds_toArray, List.set_cons_zero, List.set_cons_succ]
  refine plan_yes (v := ?v30) (by simp only [List.getElem?_toArray, List.getElem?_cons_zero, List.getElem?_cons_succ]; exact rfl) (Or.inl ⟨by as_aux_lemma => rfl, ?hy30⟩) ?rest30
  case hy30 => (intro w2 hSw; (try dsimp only at hSw); go_simp; try with_reducible rfl)
  try simp only [Act.put, List.setIfInBounds_toArray, List.set_cons_zero, List.set_cons_succ]
  refine plan_yes (v := ?v31) (by simp only [List.getElem?_toArray, List.getElem?_cons_zero, List.getElem?_cons_succ]; exact rfl) (Or.inl ⟨by as_aux_lemma => rfl, ?hy31⟩) ?rest31
  case hy31 => (intro w2 hSw; (try dsimp only at hSw); go_simp; try with_reducible rfl)
  try simp only [Act.put, List.setIfInBounds_toArray, List.set_cons_zero, List.set_cons_succ]
  refine plan_yes (v := ?v32) (by simp only [List.getElem?_toArray, List.getElem?_cons_zero, List.getElem?_cons_succ]; exact rfl) (Or.inl ⟨by as_aux_lemma => rfl, ?hy32⟩) ?rest32
  case hy32 => (intro w2 hSw; (try dsimp only at hSw); go_simp; try with_reducible rfl)
  try simp only [Act.put, List.setIfInBounds_toArray, List.set_cons_zero, List.set_cons_succ]
  refine plan_yes (v := ?v33) (by simp only [List.getElem?_toArray, List.getElem?_cons_zero, List.getElem?_cons_succ]; exact rfl) (Or.inl ⟨by as_aux_lemma => rfl, ?hy33⟩) ?rest33
  case hy33 => (intro w2 hSw; (try dsimp only at hSw); go_simp; try with_reducible rfl)
  try simp only [Act.put, List.setIfInBounds_toArray, List.set_cons_zero, List.set_cons_succ]
  refine plan_yes (v := ?v34) (by simp only [List.getElem?_toArray, List.getElem?_cons_zero, List.getElem?_cons_succ]; exact rfl) (Or.inl ⟨by as_aux_lemma => rfl, ?hy34⟩) ?rest34
  case hy34 => (intro w2 hSw; (try dsimp only at hSw); go_simp; try with_reducible rfl)
  try simp only [Act.put, List.setIfInBounds_toArray, List.set_cons_zero, List.set_cons_succ]
  refine plan_yes (v := ?v35) (by simp only [List.getElem?_toArray, List.getElem?_cons_zero, List.getElem?_cons_succ]; exact rfl) (Or.inl ⟨by as_aux_lemma => rfl, ?hy35⟩) ?rest35
  case hy35 => (intro w2 hSw; (try dsimp only at hSw); go_simp; try with_reducible rfl)
  try simp only [Act.put, List.setIfInBounds_toArray, List.set_cons_zero, List.set_cons_succ]
  refine plan_yes (v := ?v36) (by simp only [List.getElem?_toArray, List.getElem?_cons_zero, List.getElem?_cons_succ]; exact rfl) (Or.inl ⟨by as_aux_lemma => rfl, ?hy36⟩) ?rest36
  case hy36 => (intro w2 hSw; (try dsimp only at hSw); go_simp; try with_reducible rfl)
  try simp only [Act.put, List.setIfInBounds_toArray, List.set_cons_zero, List.set_cons_succ]
  refine plan_calls (by simp only [List.getElem?_toArray, List.getElem?_cons_zero, List.getElem?_cons_succ]; exact rfl) (by as_aux_lemma => rfl) (fun K hK => ?_)
  go_simp
  refine (HC.out _ (sz_keep (Lib.hid (sz_keep hM HB0.out)) Y0.out)).mono ?_
  rintro e Y1w ⟨rfl, hb1⟩
  have Y1 := Lib.hid (keepS (W0 := W0) Y0.out hb1)
  clear hb1
  refine hK.out _ _ Y1.out ?_
  clear hK K
  try simp only [Act.put, List.setIfInBounds_toArray, List.set_cons_zero, List.set_cons_succ]
  as_aux_lemma =>
   refine plan_calls (by simp only [List.getElem?_toArray, List.getElem?_cons_zero, List.getElem?_cons_succ]; exact rfl) (by as_aux_lemma => rfl) (fun K hK => ?_)
   go_simp
   refine (HD.out _).mono ?_
   rintro e Y2w ⟨rfl, hb1⟩
   have Y2 := Lib.hid (keepS (W0 := W0) Y1.out hb1)
   clear hb1
   refine hK.out _ _ Y2.out ?_
   clear hK K
   try simp only [Act.put, List.setIfInBounds_toArray, List.set_cons_zero, List.set_cons_succ]
   as_aux_lemma =>
    refine plan_yes (v := ?v37) (by simp only [List.getElem?_toArray, List.getElem?_cons_zero, List.getElem?_cons_succ]; exact rfl) (Or.inl ⟨by as_aux_lemma => rfl, ?hy37⟩) ?rest37
    case hy37 => (intro w2 hSw; (try dsimp only at hSw); go_simp; try with_reducible rfl)
    try simp only [Act.put, List.setIfInBounds_toArray, List.set_cons_zero, List.set_cons_succ]
    refine plan_yes (v := ?v38) (by simp only [List.getElem?_toArray, List.getElem?_cons_zero, List.getElem?_cons_succ]; exact rfl) (Or.inl ⟨by as_aux_lemma => rfl, ?hy38⟩) ?rest38
    case hy38 => (intro w2 hSw; (try dsimp only at hSw); go_simp; try with_reducible rfl)
    try simp only [Act.put, List.setIfInBounds_toArray, List.set_cons_zero, List.set_cons_succ]
    refine plan_yes (v := ?v39) (by simp only [List.getElem?_toArray, List.getElem?_cons_zero, List.getElem?_cons_succ]; exact rfl) (Or.inl ⟨by as_aux_lemma => rfl, ?hy39⟩) ?rest39
    case hy39 => (intro w2 hSw; (try dsimp only at hSw); go_simp; try with_reducible rfl)
    try simp only [Act.put, List.setIfInBounds_toArray, List.set_cons_zero, List.set_cons_succ]
    refine plan_calls (by simp only [List.getElem?_toArray, List.getElem?_cons_zero, List.getElem?_cons_succ]; exact rfl) (by as_aux_lemma => rfl) (fun K hK => ?_)
    go_simp
    refine (HK.out _ (sz_keep (Lib.hid (sz_keep hM HB0.out)) Y2.out)).mono ?_
    rintro e Y3w ⟨rfl, hb1⟩
    have Y3 := Lib.hid (keepS (W0 := W0) Y2.out hb1)
    clear hb1
    refine hK.out _ _ Y3.out ?_
    clear hK K
    try simp only [Act.put, List.setIfInBounds_toArray, List.set_cons_zero, List.set_cons_succ]
    as_aux_lemma =>
     refine plan_yes (v := ?v40) (by simp only [List.getElem?_toArray, List.getElem?_cons_zero, List.getElem?_cons_succ]; exact rfl) (Or.inl ⟨by as_aux_lemma => rfl, ?hy40⟩) ?rest40
     case hy40 => (intro w2 hSw; (try dsimp only at hSw); go_simp; try with_reducible rfl)
     try simp only [Act.put, List.setIfInBounds_toArray, List.set_cons_zero, List.set_cons_succ]
     refine plan_yes (v := ?v41) (by simp only [List.getElem?_toArray, List.getElem?_cons_zero, List.getElem?_cons_succ]; exact rfl) (Or.inl ⟨by as_aux_lemma => rfl, ?hy41⟩) ?rest41
     case hy41 => (intro w2 hSw; (try dsimp only at hSw); go_simp; try with_reducible rfl)
     try simp only [Act.put, List.setIfInBounds_toArray, List.set_cons_zero, List.set_cons_succ]
     refine plan_done (NoPanic.normal ?_)
     have B0 := Y3.out
     have BW := Lib.hid (HB0.out.trans (B0.mono zW0))
     go_simp
     go_wp2
     go_ret
     exact ⟨rfl, BW.out⟩
set_option maxHeartbeats 3200000 in
set_option maxRecDepth 100000 in
theorem clockAdds_walk (h m s n d k : Int) (w : World) (hM : SZ w) : Calls Tryd.prog 4 #[.agg #[.int .i64 h, .int .i64 m, .int .i64 s, .int .i64 n], .agg #[.int .i64 d, .int .i64 k]] w fun e w' => e = .returned (.bool true) ∧ Below w.heap.size w w' := by
  obtain ⟨a, b, c, e, D, E, X1, X2⟩ := kadd_both h m s n d k
  have H1 := Lib.hid X1
  have H2 := Lib.hid X2
  have HK := Lib.hid awake8_any
  clear X1 X2
  replace hM := Lib.hid hM
  go_enter Tryd.func4, Tryd.ntmps4
  go_wp2_with fail
  
  refine (H1.out _ (by first | exact sz_keep hM (((Below.refl w.heap.size w).alloc (Nat.le_refl _) _).alloc (by simp <;> omega) _))).mono ?_
  rintro e V1 ⟨rfl, hb1⟩
  have B1 := Lib.hid ((((Below.refl w.heap.size w).alloc (Nat.le_refl _) _).alloc (by simp <;> omega) _).trans (hb1.mono (by first | assumption | (simp <;> omega) | (simp; done))))
  have A1 := Lib.hid (row_call hb1 (row_alloc (heap_alloc_new _ _) _))
  have P1 := Lib.hid (row_at (k' := w.heap.size + 1) (by simp) (row_call hb1 (heap_alloc_new _ _)))
  clear hb1
  have A1_0 : V1.cell? ⟨w.heap.size, 0, none⟩ = some (.int .i64 h) := cell_of_row _ _ _ _ _ _ A1.out
  have A1_1 : V1.cell? ⟨w.heap.size, 1, none⟩ = some (.int .i64 m) := cell_of_row _ _ _ _ _ _ A1.out
  have A1_2 : V1.cell? ⟨w.heap.size, 2, none⟩ = some (.int .i64 s) := cell_of_row _ _ _ _ _ _ A1.out
  have A1_3 : V1.cell? ⟨w.heap.size, 3, none⟩ = some (.int .i64 n) := cell_of_row _ _ _ _ _ _ A1.out
  have P1_0 : V1.cell? ⟨w.heap.size + 1, 0, none⟩ = some (.int .i64 d) := cell_of_row _ _ _ _ _ _ P1.out
  have P1_1 : V1.cell? ⟨w.heap.size + 1, 1, none⟩ = some (.int .i64 k) := cell_of_row _ _ _ _ _ _ P1.out
  have zA1 := lt_of_heap A1.out
  have zP1 := lt_of_heap P1.out
  go_simp
  go_wp2_with fail
  refine (H2.out _).mono ?_
  rintro e V2 ⟨rfl, hb2⟩
  clear A1_0 A1_1 A1_2 A1_3 zA1 P1_0 P1_1 zP1
  have nA1X1 := Lib.hid (lt_of_heap A1.out)
  have nP1X1 := Lib.hid (lt_of_heap P1.out)
  have B2 := Lib.hid (((B1.out).alloc (B1.out.size) _).trans (hb2.mono (by have := B1.out.size; first | assumption | (simp <;> omega) | (simp; done))))
  replace A1 := Lib.hid (row_call hb2 (row_alloc A1.out _))
  replace P1 := Lib.hid (row_call hb2 (row_alloc P1.out _))
  have X1 := Lib.hid (row_call hb2 (heap_alloc_new _ _))
  clear hb2
  have A1_0 : V2.cell? ⟨w.heap.size, 0, none⟩ = some (.int .i64 h) := cell_of_row _ _ _ _ _ _ A1.out
  have A1_1 : V2.cell? ⟨w.heap.size, 1, none⟩ = some (.int .i64 m) := cell_of_row _ _ _ _ _ _ A1.out
  have A1_2 : V2.cell? ⟨w.heap.size, 2, none⟩ = some (.int .i64 s) := cell_of_row _ _ _ _ _ _ A1.out
  have A1_3 : V2.cell? ⟨w.heap.size, 3, none⟩ = some (.int .i64 n) := cell_of_row _ _ _ _ _ _ A1.out
  have P1_0 : V2.cell? ⟨w.heap.size + 1, 0, none⟩ = some (.int .i64 d) := cell_of_row _ _ _ _ _ _ P1.out
  have P1_1 : V2.cell? ⟨w.heap.size + 1, 1, none⟩ = some (.int .i64 k) := cell_of_row _ _ _ _ _ _ P1.out
  have X1_0 : V2.cell? ⟨V1.heap.size, 0, none⟩ = some (.int .i64 a) := cell_of_row _ _ _ _ _ _ X1.out
  have X1_1 : V2.cell? ⟨V1.heap.size, 1, none⟩ = some (.int .i64 b) := cell_of_row _ _ _ _ _ _ X1.out
  have X1_2 : V2.cell? ⟨V1.heap.size, 2, none⟩ = some (.int .i64 c) := cell_of_row _ _ _ _ _ _ X1.out
  have X1_3 : V2.cell? ⟨V1.heap.size, 3, none⟩ = some (.int .i64 e) := cell_of_row _ _ _ _ _ _ X1.out
  have zA1 := lt_of_heap A1.out
  have zP1 := lt_of_heap P1.out
  have zX1 := lt_of_heap X1.out
  go_simp
  go_wp2_with fail
  refine (HK.out _ (by first | exact sz_keep hM ((B2.out).alloc (B2.out.size) _))).mono ?_
  rintro e V3 ⟨rfl, hb3⟩
  clear A1_0 A1_1 A1_2 A1_3 zA1 P1_0 P1_1 zP1 X1_0 X1_1 X1_2 X1_3 zX1
  have nA1Y1 := Lib.hid (lt_of_heap A1.out)
  have nP1Y1 := Lib.hid (lt_of_heap P1.out)
  have nX1Y1 := Lib.hid (lt_of_heap X1.out)
  have B3 := Lib.hid (((B2.out).alloc (B2.out.size) _).trans (hb3.mono (by have := B2.out.size; first | assumption | (simp <;> omega) | (simp; done))))
  replace A1 := Lib.hid (row_call hb3 (row_alloc A1.out _))
  replace P1 := Lib.hid (row_call hb3 (row_alloc P1.out _))
  replace X1 := Lib.hid (row_call hb3 (row_alloc X1.out _))
  have Y1 := Lib.hid (row_call hb3 (heap_alloc_new _ _))
  clear hb3
  have A1_0 : V3.cell? ⟨w.heap.size, 0, none⟩ = some (.int .i64 h) := cell_of_row _ _ _ _ _ _ A1.out
  have A1_1 : V3.cell? ⟨w.heap.size, 1, none⟩ = some (.int .i64 m) := cell_of_row _ _ _ _ _ _ A1.out
  have A1_2 : V3.cell? ⟨w.heap.size, 2, none⟩ = some (.int .i64 s) := cell_of_row _ _ _ _ _ _ A1.out
  have A1_3 : V3.cell? ⟨w.heap.size, 3, none⟩ = some (.int .i64 n) := cell_of_row _ _ _ _ _ _ A1.out
  have P1_0 : V3.cell? ⟨w.heap.size + 1, 0, none⟩ = some (.int .i64 d) := cell_of_row _ _ _ _ _ _ P1.out
  have P1_1 : V3.cell? ⟨w.heap.size + 1, 1, none⟩ = some (.int .i64 k) := cell_of_row _ _ _ _ _ _ P1.out
  have X1_0 : V3.cell? ⟨V1.heap.size, 0, none⟩ = some (.int .i64 a) := cell_of_row _ _ _ _ _ _ X1.out
  have X1_1 : V3.cell? ⟨V1.heap.size, 1, none⟩ = some (.int .i64 b) := cell_of_row _ _ _ _ _ _ X1.out
  have X1_2 : V3.cell? ⟨V1.heap.size, 2, none⟩ = some (.int .i64 c) := cell_of_row _ _ _ _ _ _ X1.out
  have X1_3 : V3.cell? ⟨V1.heap.size, 3, none⟩ = some (.int .i64 e) := cell_of_row _ _ _ _ _ _ X1.out
  have Y1_0 : V3.cell? ⟨V2.heap.size, 0, none⟩ = some (.int .i64 a) := cell_of_row _ _ _ _ _ _ Y1.out
  have Y1_1 : V3.cell? ⟨V2.heap.size, 1, none⟩ = some (.int .i64 b) := cell_of_row _ _ _ _ _ _ Y1.out
  have Y1_2 : V3.cell? ⟨V2.heap.size, 2, none⟩ = some (.int .i64 c) := cell_of_row _ _ _ _ _ _ Y1.out
  have Y1_3 : V3.cell? ⟨V2.heap.size, 3, none⟩ = some (.int .i64 e) := cell_of_row _ _ _ _ _ _ Y1.out
  have zA1 := lt_of_heap A1.out
  have zP1 := lt_of_heap P1.out
  have zX1 := lt_of_heap X1.out
  have zY1 := lt_of_heap Y1.out
  go_simp
  go_wp2
  go_ret
  exact ⟨rfl, by first | exact B3.out | exact B3.out.alloc B3.out.size _⟩
theorem kt_bd (x : Int) : -1099511627776 < x.tmod 1099511627776 ∧ x.tmod 1099511627776 < 1099511627776 := ⟨Int.lt_tmod_of_pos x (by decide), Int.tmod_lt_of_pos x (by decide)⟩
theorem kd_ok {t : Int} (h1 : -1099511627776 < t) (h2 : t < 1099511627776) : ckD t 0 = 0 := ckD_ok (by decide +kernel) (by omega)
/-- there and back: the parts, the days. -/
theorem kback {h m s n : Int} (t : Int) (k : okK h m s n) (A : Int) (hA : A = atK h m s n t 0) :
    okK (A % 86400 / 3600) (A % 86400 / 60 % 60) (A % 86400 % 60) ((n + 0) % 1000000000) ∧
    atK (A % 86400 / 3600) (A % 86400 / 60 % 60) (A % 86400 % 60) ((n + 0) % 1000000000) (-t) 0 % 86400 / 3600 = h ∧
    atK (A % 86400 / 3600) (A % 86400 / 60 % 60) (A % 86400 % 60) ((n + 0) % 1000000000) (-t) 0 % 86400 / 60 % 60 = m ∧
    atK (A % 86400 / 3600) (A % 86400 / 60 % 60) (A % 86400 % 60) ((n + 0) % 1000000000) (-t) 0 % 86400 % 60 = s ∧
    ((n + 0) % 1000000000 + 0) % 1000000000 = n ∧
    atK (A % 86400 / 3600) (A % 86400 / 60 % 60) (A % 86400 % 60) ((n + 0) % 1000000000) (-t) 0 / 86400 = -(A / 86400) := by
  unfold okK at k
  obtain ⟨k1, k2, k3, k4, k5, k6, k7, k8⟩ := k
  have e1 : A = 3600 * h + 60 * m + s + t := by rw [hA]; unfold atK scK; omega
  have e2 : atK (A % 86400 / 3600) (A % 86400 / 60 % 60) (A % 86400 % 60) ((n + 0) % 1000000000) (-t) 0 = A % 86400 - t := by unfold atK scK; omega
  rw [e2]
  clear hA e2
  have e3 : A % 86400 - t = 3600 * h + 60 * m + s - 86400 * (A / 86400) := by omega
  rw [e3]
  clear e3 e1
  refine ⟨by unfold okK; omega, by omega, by omega, by omega, by omega, by omega⟩
set_option maxHeartbeats 3200000 in
set_option maxRecDepth 100000 in
theorem clockBack_walk (h m s n x : Int) (w : World) (hM : SZ w) : Calls Tryd.prog 5 #[.agg #[.int .i64 h, .int .i64 m, .int .i64 s, .int .i64 n], .int .i64 x] w fun e w' => e = .returned (.bool true) ∧ Below w.heap.size w w' := by
  have HK := Lib.hid awake8_any
  have X1 := pkNanos_any h m s n
  by_cases hc : ckK h m s n = 0
  · obtain ⟨t1, t2⟩ := kt_bd x
    have k := of_ckK hc
    have nb := nnK_ok hc
    rw [hc] at X1
    obtain ⟨g1, g2, g3, g4, g5⟩ := tg_back k
    rw [tg_ok k, ← nb] at g1 g2 g3 g4
    obtain ⟨s1, s2⟩ := scK_bd k
    have n1 : 0 ≤ n ∧ n < 1000000000 := by unfold okK at k; omega
    have X2 := pkOf_any (nnK h m s n) (by rw [nb]; omega) (by rw [nb]; omega)
    obtain ⟨j1, j2, _⟩ := kH_is (n := nnK h m s n) (by rw [nb]; omega) (by rw [nb]; omega)
    rw [← j1, ← j2, g1, g2, g3, g4] at X2
    have X3 := pkAdd_any h m s n (x.tmod 1099511627776) 0 (by rw [hc, kd_ok t1 t2]; decide +kernel)
    obtain ⟨b1, b2, b3, b4, b5, b6⟩ := kback (x.tmod 1099511627776) k _ rfl
    have X4 := pkAdd_any _ _ _ _ (-x.tmod 1099511627776) 0 (by rw [ckK_ok b1, kd_ok (by omega) (by omega)]; decide +kernel)
    rw [b2, b3, b4, b5, b6] at X4
    have dB : -100000000 ≤ atK h m s n (x.tmod 1099511627776) 0 / 86400 ∧ atK h m s n (x.tmod 1099511627776) 0 / 86400 ≤ 100000000 := by
      have : atK h m s n (x.tmod 1099511627776) 0 = scK h m s + x.tmod 1099511627776 + (n + 0) / 1000000000 := rfl
      omega
    clear g1 g2 g3 g4 g5 j1 j2 b1 b2 b3 b4 b5 b6 nb hc k
    generalize nnK h m s n = N at *
    generalize atK h m s n (x.tmod 1099511627776) 0 % 86400 / 3600 = p1 at *
    generalize atK h m s n (x.tmod 1099511627776) 0 % 86400 / 60 % 60 = p2 at *
    generalize atK h m s n (x.tmod 1099511627776) 0 % 86400 % 60 = p3 at *
    generalize atK h m s n (x.tmod 1099511627776) 0 / 86400 = D at *
    generalize (n + 0) % 1000000000 = p4 at *
    generalize ht : x.tmod 1099511627776 = t at *
    obtain ⟨d1, d2⟩ := dB
    have H1 := Lib.hid X1
    have H2 := Lib.hid X2
    have H3 := Lib.hid X3
    have H4 := Lib.hid X4
    clear X1 X2 X3 X4
    replace hM := Lib.hid hM
    go_enter Tryd.func5, Tryd.ntmps5
    go_wp2_with fail
    
    refine (H1.out _ (by first | exact sz_keep hM ((Below.refl w.heap.size w).alloc (Nat.le_refl _) _))).mono ?_
    rintro e V1 ⟨rfl, hb1⟩
    have B1 := Lib.hid (((Below.refl w.heap.size w).alloc (Nat.le_refl _) _).trans (hb1.mono (by first | assumption | (simp <;> omega) | (simp; done))))
    have A1 := Lib.hid (row_call hb1 (heap_alloc_new _ _))
    clear hb1
    have A1_0 : V1.cell? ⟨w.heap.size, 0, none⟩ = some (.int .i64 h) := cell_of_row _ _ _ _ _ _ A1.out
    have A1_1 : V1.cell? ⟨w.heap.size, 1, none⟩ = some (.int .i64 m) := cell_of_row _ _ _ _ _ _ A1.out
    have A1_2 : V1.cell? ⟨w.heap.size, 2, none⟩ = some (.int .i64 s) := cell_of_row _ _ _ _ _ _ A1.out
    have A1_3 : V1.cell? ⟨w.heap.size, 3, none⟩ = some (.int .i64 n) := cell_of_row _ _ _ _ _ _ A1.out
    have zA1 := lt_of_heap A1.out
    go_simp
    go_wp2_with fail
    refine (H2.out _ (by first | exact sz_keep hM (B1.out) | exact sz_keep hM ((B1.out).alloc (B1.out.size) _) | exact sz_keep hM (((B1.out).alloc (B1.out.size) _).alloc (by have := B1.out.size; simp <;> omega) _) | exact sz_keep hM ((((B1.out).alloc (B1.out.size) _).alloc (by have := B1.out.size; simp <;> omega) _).alloc (by have := B1.out.size; simp <;> omega) _))).mono ?_
    rintro e V2 ⟨rfl, hb2⟩
    clear A1_0 A1_1 A1_2 A1_3 zA1
    have B2 : Hid (Below w.heap.size w V2) := by first | exact Lib.hid ((B1.out).trans (hb2.mono (by have := B1.out.size; first | assumption | (simp <;> omega) | (simp; done)))) | exact Lib.hid (((B1.out).alloc (B1.out.size) _).trans (hb2.mono (by have := B1.out.size; first | assumption | (simp <;> omega) | (simp; done)))) | exact Lib.hid ((((B1.out).alloc (B1.out.size) _).alloc (by have := B1.out.size; simp <;> omega) _).trans (hb2.mono (by have := B1.out.size; first | assumption | (simp <;> omega) | (simp; done)))) | exact Lib.hid (((((B1.out).alloc (B1.out.size) _).alloc (by have := B1.out.size; simp <;> omega) _).alloc (by have := B1.out.size; simp <;> omega) _).trans (hb2.mono (by have := B1.out.size; first | assumption | (simp <;> omega) | (simp; done))))
    first | replace A1 := Lib.hid (row_call hb2 A1.out) | replace A1 := Lib.hid (row_call hb2 (row_alloc A1.out _)) | replace A1 := Lib.hid (row_call hb2 (row_alloc (row_alloc A1.out _) _)) | replace A1 := Lib.hid (row_call hb2 (row_alloc (row_alloc (row_alloc A1.out _) _) _))
    clear hb2
    have A1_0 : V2.cell? ⟨w.heap.size, 0, none⟩ = some (.int .i64 h) := cell_of_row _ _ _ _ _ _ A1.out
    have A1_1 : V2.cell? ⟨w.heap.size, 1, none⟩ = some (.int .i64 m) := cell_of_row _ _ _ _ _ _ A1.out
    have A1_2 : V2.cell? ⟨w.heap.size, 2, none⟩ = some (.int .i64 s) := cell_of_row _ _ _ _ _ _ A1.out
    have A1_3 : V2.cell? ⟨w.heap.size, 3, none⟩ = some (.int .i64 n) := cell_of_row _ _ _ _ _ _ A1.out
    have zA1 := lt_of_heap A1.out
    go_simp
    go_wp2_with fail
    refine (H3.out _ (by first | exact sz_keep hM ((B2.out).alloc (B2.out.size) _))).mono ?_
    rintro e V3 ⟨rfl, hb3⟩
    clear A1_0 A1_1 A1_2 A1_3 zA1
    have nA1X1 := Lib.hid (lt_of_heap A1.out)
    have B3 := Lib.hid (((B2.out).alloc (B2.out.size) _).trans (hb3.mono (by have := B2.out.size; first | assumption | (simp <;> omega) | (simp; done))))
    replace A1 := Lib.hid (row_call hb3 (row_alloc A1.out _))
    have X1 := Lib.hid (row_call hb3 (heap_alloc_new _ _))
    clear hb3
    have A1_0 : V3.cell? ⟨w.heap.size, 0, none⟩ = some (.int .i64 h) := cell_of_row _ _ _ _ _ _ A1.out
    have A1_1 : V3.cell? ⟨w.heap.size, 1, none⟩ = some (.int .i64 m) := cell_of_row _ _ _ _ _ _ A1.out
    have A1_2 : V3.cell? ⟨w.heap.size, 2, none⟩ = some (.int .i64 s) := cell_of_row _ _ _ _ _ _ A1.out
    have A1_3 : V3.cell? ⟨w.heap.size, 3, none⟩ = some (.int .i64 n) := cell_of_row _ _ _ _ _ _ A1.out
    have X1_0 : V3.cell? ⟨V2.heap.size, 0, none⟩ = some (.int .i64 h) := cell_of_row _ _ _ _ _ _ X1.out
    have X1_1 : V3.cell? ⟨V2.heap.size, 1, none⟩ = some (.int .i64 m) := cell_of_row _ _ _ _ _ _ X1.out
    have X1_2 : V3.cell? ⟨V2.heap.size, 2, none⟩ = some (.int .i64 s) := cell_of_row _ _ _ _ _ _ X1.out
    have X1_3 : V3.cell? ⟨V2.heap.size, 3, none⟩ = some (.int .i64 n) := cell_of_row _ _ _ _ _ _ X1.out
    have zA1 := lt_of_heap A1.out
    have zX1 := lt_of_heap X1.out
    go_simp
    go_wp2_with fail
    refine (H4.out _ (by first | exact sz_keep hM ((B3.out).alloc (B3.out.size) _))).mono ?_
    rintro e V4 ⟨rfl, hb4⟩
    clear A1_0 A1_1 A1_2 A1_3 zA1 X1_0 X1_1 X1_2 X1_3 zX1
    have nA1Y1 := Lib.hid (lt_of_heap A1.out)
    have nX1Y1 := Lib.hid (lt_of_heap X1.out)
    have B4 := Lib.hid (((B3.out).alloc (B3.out.size) _).trans (hb4.mono (by have := B3.out.size; first | assumption | (simp <;> omega) | (simp; done))))
    replace A1 := Lib.hid (row_call hb4 (row_alloc A1.out _))
    replace X1 := Lib.hid (row_call hb4 (row_alloc X1.out _))
    have Y1 := Lib.hid (row_call hb4 (heap_alloc_new _ _))
    clear hb4
    have A1_0 : V4.cell? ⟨w.heap.size, 0, none⟩ = some (.int .i64 h) := cell_of_row _ _ _ _ _ _ A1.out
    have A1_1 : V4.cell? ⟨w.heap.size, 1, none⟩ = some (.int .i64 m) := cell_of_row _ _ _ _ _ _ A1.out
    have A1_2 : V4.cell? ⟨w.heap.size, 2, none⟩ = some (.int .i64 s) := cell_of_row _ _ _ _ _ _ A1.out
    have A1_3 : V4.cell? ⟨w.heap.size, 3, none⟩ = some (.int .i64 n) := cell_of_row _ _ _ _ _ _ A1.out
    have X1_0 : V4.cell? ⟨V2.heap.size, 0, none⟩ = some (.int .i64 h) := cell_of_row _ _ _ _ _ _ X1.out
    have X1_1 : V4.cell? ⟨V2.heap.size, 1, none⟩ = some (.int .i64 m) := cell_of_row _ _ _ _ _ _ X1.out
    have X1_2 : V4.cell? ⟨V2.heap.size, 2, none⟩ = some (.int .i64 s) := cell_of_row _ _ _ _ _ _ X1.out
    have X1_3 : V4.cell? ⟨V2.heap.size, 3, none⟩ = some (.int .i64 n) := cell_of_row _ _ _ _ _ _ X1.out
    have Y1_0 : V4.cell? ⟨V3.heap.size, 0, none⟩ = some (.int .i64 p1) := cell_of_row _ _ _ _ _ _ Y1.out
    have Y1_1 : V4.cell? ⟨V3.heap.size, 1, none⟩ = some (.int .i64 p2) := cell_of_row _ _ _ _ _ _ Y1.out
    have Y1_2 : V4.cell? ⟨V3.heap.size, 2, none⟩ = some (.int .i64 p3) := cell_of_row _ _ _ _ _ _ Y1.out
    have Y1_3 : V4.cell? ⟨V3.heap.size, 3, none⟩ = some (.int .i64 p4) := cell_of_row _ _ _ _ _ _ Y1.out
    have zA1 := lt_of_heap A1.out
    have zX1 := lt_of_heap X1.out
    have zY1 := lt_of_heap Y1.out
    go_simp
    go_wp2_with fail
    refine (HK.out _ (by first | exact sz_keep hM ((B4.out).alloc (B4.out.size) _))).mono ?_
    rintro e V5 ⟨rfl, hb5⟩
    clear A1_0 A1_1 A1_2 A1_3 zA1 X1_0 X1_1 X1_2 X1_3 zX1 Y1_0 Y1_1 Y1_2 Y1_3 zY1
    have nA1Z1 := Lib.hid (lt_of_heap A1.out)
    have nX1Z1 := Lib.hid (lt_of_heap X1.out)
    have nY1Z1 := Lib.hid (lt_of_heap Y1.out)
    have B5 := Lib.hid (((B4.out).alloc (B4.out.size) _).trans (hb5.mono (by have := B4.out.size; first | assumption | (simp <;> omega) | (simp; done))))
    replace A1 := Lib.hid (row_call hb5 (row_alloc A1.out _))
    replace X1 := Lib.hid (row_call hb5 (row_alloc X1.out _))
    replace Y1 := Lib.hid (row_call hb5 (row_alloc Y1.out _))
    have Z1 := Lib.hid (row_call hb5 (heap_alloc_new _ _))
    clear hb5
    have A1_0 : V5.cell? ⟨w.heap.size, 0, none⟩ = some (.int .i64 h) := cell_of_row _ _ _ _ _ _ A1.out
    have A1_1 : V5.cell? ⟨w.heap.size, 1, none⟩ = some (.int .i64 m) := cell_of_row _ _ _ _ _ _ A1.out
    have A1_2 : V5.cell? ⟨w.heap.size, 2, none⟩ = some (.int .i64 s) := cell_of_row _ _ _ _ _ _ A1.out
    have A1_3 : V5.cell? ⟨w.heap.size, 3, none⟩ = some (.int .i64 n) := cell_of_row _ _ _ _ _ _ A1.out
    have X1_0 : V5.cell? ⟨V2.heap.size, 0, none⟩ = some (.int .i64 h) := cell_of_row _ _ _ _ _ _ X1.out
    have X1_1 : V5.cell? ⟨V2.heap.size, 1, none⟩ = some (.int .i64 m) := cell_of_row _ _ _ _ _ _ X1.out
    have X1_2 : V5.cell? ⟨V2.heap.size, 2, none⟩ = some (.int .i64 s) := cell_of_row _ _ _ _ _ _ X1.out
    have X1_3 : V5.cell? ⟨V2.heap.size, 3, none⟩ = some (.int .i64 n) := cell_of_row _ _ _ _ _ _ X1.out
    have Y1_0 : V5.cell? ⟨V3.heap.size, 0, none⟩ = some (.int .i64 p1) := cell_of_row _ _ _ _ _ _ Y1.out
    have Y1_1 : V5.cell? ⟨V3.heap.size, 1, none⟩ = some (.int .i64 p2) := cell_of_row _ _ _ _ _ _ Y1.out
    have Y1_2 : V5.cell? ⟨V3.heap.size, 2, none⟩ = some (.int .i64 p3) := cell_of_row _ _ _ _ _ _ Y1.out
    have Y1_3 : V5.cell? ⟨V3.heap.size, 3, none⟩ = some (.int .i64 p4) := cell_of_row _ _ _ _ _ _ Y1.out
    have Z1_0 : V5.cell? ⟨V4.heap.size, 0, none⟩ = some (.int .i64 h) := cell_of_row _ _ _ _ _ _ Z1.out
    have Z1_1 : V5.cell? ⟨V4.heap.size, 1, none⟩ = some (.int .i64 m) := cell_of_row _ _ _ _ _ _ Z1.out
    have Z1_2 : V5.cell? ⟨V4.heap.size, 2, none⟩ = some (.int .i64 s) := cell_of_row _ _ _ _ _ _ Z1.out
    have Z1_3 : V5.cell? ⟨V4.heap.size, 3, none⟩ = some (.int .i64 n) := cell_of_row _ _ _ _ _ _ Z1.out
    have zA1 := lt_of_heap A1.out
    have zX1 := lt_of_heap X1.out
    have zY1 := lt_of_heap Y1.out
    have zZ1 := lt_of_heap Z1.out
    go_simp
    go_wp2
    go_ret
    exact ⟨rfl, by first | exact B5.out | exact B5.out.alloc B5.out.size _⟩
  · have H1 := Lib.hid X1
    clear X1
    generalize ckK h m s n = E at *
    have f1 : (E != 0) = true := by rw [bne_iff_ne]; exact hc
    replace hM := Lib.hid hM
    go_enter Tryd.func5, Tryd.ntmps5
    go_wp2_with fail
    
    refine (H1.out _ (by first | exact sz_keep hM ((Below.refl w.heap.size w).alloc (Nat.le_refl _) _))).mono ?_
    rintro e V1 ⟨rfl, hb1⟩
    have B1 := Lib.hid (((Below.refl w.heap.size w).alloc (Nat.le_refl _) _).trans (hb1.mono (by first | assumption | (simp <;> omega) | (simp; done))))
    have A1 := Lib.hid (row_call hb1 (heap_alloc_new _ _))
    clear hb1
    have A1_0 : V1.cell? ⟨w.heap.size, 0, none⟩ = some (.int .i64 h) := cell_of_row _ _ _ _ _ _ A1.out
    have A1_1 : V1.cell? ⟨w.heap.size, 1, none⟩ = some (.int .i64 m) := cell_of_row _ _ _ _ _ _ A1.out
    have A1_2 : V1.cell? ⟨w.heap.size, 2, none⟩ = some (.int .i64 s) := cell_of_row _ _ _ _ _ _ A1.out
    have A1_3 : V1.cell? ⟨w.heap.size, 3, none⟩ = some (.int .i64 n) := cell_of_row _ _ _ _ _ _ A1.out
    have zA1 := lt_of_heap A1.out
    go_simp
    go_wp2_with fail
    refine (HK.out _ (by first | exact sz_keep hM (B1.out) | exact sz_keep hM ((B1.out).alloc (B1.out.size) _) | exact sz_keep hM (((B1.out).alloc (B1.out.size) _).alloc (by have := B1.out.size; simp <;> omega) _) | exact sz_keep hM ((((B1.out).alloc (B1.out.size) _).alloc (by have := B1.out.size; simp <;> omega) _).alloc (by have := B1.out.size; simp <;> omega) _))).mono ?_
    rintro e V2 ⟨rfl, hb2⟩
    clear A1_0 A1_1 A1_2 A1_3 zA1
    have B2 : Hid (Below w.heap.size w V2) := by first | exact Lib.hid ((B1.out).trans (hb2.mono (by have := B1.out.size; first | assumption | (simp <;> omega) | (simp; done)))) | exact Lib.hid (((B1.out).alloc (B1.out.size) _).trans (hb2.mono (by have := B1.out.size; first | assumption | (simp <;> omega) | (simp; done)))) | exact Lib.hid ((((B1.out).alloc (B1.out.size) _).alloc (by have := B1.out.size; simp <;> omega) _).trans (hb2.mono (by have := B1.out.size; first | assumption | (simp <;> omega) | (simp; done)))) | exact Lib.hid (((((B1.out).alloc (B1.out.size) _).alloc (by have := B1.out.size; simp <;> omega) _).alloc (by have := B1.out.size; simp <;> omega) _).trans (hb2.mono (by have := B1.out.size; first | assumption | (simp <;> omega) | (simp; done))))
    first | replace A1 := Lib.hid (row_call hb2 A1.out) | replace A1 := Lib.hid (row_call hb2 (row_alloc A1.out _)) | replace A1 := Lib.hid (row_call hb2 (row_alloc (row_alloc A1.out _) _)) | replace A1 := Lib.hid (row_call hb2 (row_alloc (row_alloc (row_alloc A1.out _) _) _))
    clear hb2
    have A1_0 : V2.cell? ⟨w.heap.size, 0, none⟩ = some (.int .i64 h) := cell_of_row _ _ _ _ _ _ A1.out
    have A1_1 : V2.cell? ⟨w.heap.size, 1, none⟩ = some (.int .i64 m) := cell_of_row _ _ _ _ _ _ A1.out
    have A1_2 : V2.cell? ⟨w.heap.size, 2, none⟩ = some (.int .i64 s) := cell_of_row _ _ _ _ _ _ A1.out
    have A1_3 : V2.cell? ⟨w.heap.size, 3, none⟩ = some (.int .i64 n) := cell_of_row _ _ _ _ _ _ A1.out
    have zA1 := lt_of_heap A1.out
    go_simp
    go_wp2
    go_ret
    exact ⟨rfl, by first | exact B2.out | exact B2.out.alloc B2.out.size _⟩
set_option maxHeartbeats 3200000 in
set_option maxRecDepth 100000 in
theorem clockDays_walk (h m s n y x : Int) (w : World) (hM : SZ w) : Calls Tryd.prog 6 #[.agg #[.int .i64 h, .int .i64 m, .int .i64 s, .int .i64 n], .int .i64 y, .int .i64 x] w fun e w' => e = .returned (.bool true) ∧ Below w.heap.size w w' := by
  have HK := Lib.hid awake8_any
  have y1 := Int.lt_tmod_of_pos y (show (0 : Int) < 1000000 by decide)
  have y2 := Int.tmod_lt_of_pos y (show (0 : Int) < 1000000 by decide)
  have x1 := Int.lt_tmod_of_pos x (show (0 : Int) < 86400 by decide)
  have x2 := Int.tmod_lt_of_pos x (show (0 : Int) < 86400 by decide)
  generalize hy : y.tmod 1000000 = u at *
  generalize hx : x.tmod 86400 = t at *
  by_cases hc : ckK h m s n = 0
  · have k := of_ckK hc
    obtain ⟨s1, s2⟩ := scK_bd k
    have n1 : 0 ≤ n ∧ n < 1000000000 := by unfold okK at k; omega
    have X1 := pkAdd_any h m s n t 0 (by rw [hc, kd_ok (by omega) (by omega)]; decide +kernel)
    have X2 := pkAdd_any h m s n (t + u * 86400) 0 (by rw [hc, kd_ok (by omega) (by omega)]; decide +kernel)
    have e : atK h m s n (t + u * 86400) 0 = atK h m s n t 0 + u * 86400 := by unfold atK; omega
    have e2 : (atK h m s n t 0 + u * 86400) % 86400 = atK h m s n t 0 % 86400 := by omega
    have e3 : (atK h m s n t 0 + u * 86400) / 86400 = atK h m s n t 0 / 86400 + u := by omega
    rw [e, e2, e3] at X2
    have dB : -100000000 ≤ atK h m s n t 0 / 86400 ∧ atK h m s n t 0 / 86400 ≤ 100000000 := by
      have : atK h m s n t 0 = scK h m s + t + (n + 0) / 1000000000 := rfl
      omega
    clear e e2 e3 hc k
    generalize atK h m s n t 0 % 86400 / 3600 = p1 at *
    generalize atK h m s n t 0 % 86400 / 60 % 60 = p2 at *
    generalize atK h m s n t 0 % 86400 % 60 = p3 at *
    generalize atK h m s n t 0 / 86400 = D at *
    generalize (n + 0) % 1000000000 = p4 at *
    obtain ⟨d1, d2⟩ := dB
    have H1 := Lib.hid X1
    have H2 := Lib.hid X2
    clear X1 X2
    replace hM := Lib.hid hM
    go_enter Tryd.func6, Tryd.ntmps6
    go_wp2_with fail
    
    refine (H1.out _ (by first | exact sz_keep hM ((Below.refl w.heap.size w).alloc (Nat.le_refl _) _))).mono ?_
    rintro e V1 ⟨rfl, hb1⟩
    have B1 := Lib.hid (((Below.refl w.heap.size w).alloc (Nat.le_refl _) _).trans (hb1.mono (by first | assumption | (simp <;> omega) | (simp; done))))
    have A1 := Lib.hid (row_call hb1 (heap_alloc_new _ _))
    clear hb1
    have A1_0 : V1.cell? ⟨w.heap.size, 0, none⟩ = some (.int .i64 h) := cell_of_row _ _ _ _ _ _ A1.out
    have A1_1 : V1.cell? ⟨w.heap.size, 1, none⟩ = some (.int .i64 m) := cell_of_row _ _ _ _ _ _ A1.out
    have A1_2 : V1.cell? ⟨w.heap.size, 2, none⟩ = some (.int .i64 s) := cell_of_row _ _ _ _ _ _ A1.out
    have A1_3 : V1.cell? ⟨w.heap.size, 3, none⟩ = some (.int .i64 n) := cell_of_row _ _ _ _ _ _ A1.out
    have zA1 := lt_of_heap A1.out
    go_simp
    go_wp2_with fail
    refine (H2.out _ (by first | exact sz_keep hM ((B1.out).alloc (B1.out.size) _))).mono ?_
    rintro e V2 ⟨rfl, hb2⟩
    clear A1_0 A1_1 A1_2 A1_3 zA1
    have nA1X1 := Lib.hid (lt_of_heap A1.out)
    have B2 := Lib.hid (((B1.out).alloc (B1.out.size) _).trans (hb2.mono (by have := B1.out.size; first | assumption | (simp <;> omega) | (simp; done))))
    replace A1 := Lib.hid (row_call hb2 (row_alloc A1.out _))
    have X1 := Lib.hid (row_call hb2 (heap_alloc_new _ _))
    clear hb2
    have A1_0 : V2.cell? ⟨w.heap.size, 0, none⟩ = some (.int .i64 h) := cell_of_row _ _ _ _ _ _ A1.out
    have A1_1 : V2.cell? ⟨w.heap.size, 1, none⟩ = some (.int .i64 m) := cell_of_row _ _ _ _ _ _ A1.out
    have A1_2 : V2.cell? ⟨w.heap.size, 2, none⟩ = some (.int .i64 s) := cell_of_row _ _ _ _ _ _ A1.out
    have A1_3 : V2.cell? ⟨w.heap.size, 3, none⟩ = some (.int .i64 n) := cell_of_row _ _ _ _ _ _ A1.out
    have X1_0 : V2.cell? ⟨V1.heap.size, 0, none⟩ = some (.int .i64 p1) := cell_of_row _ _ _ _ _ _ X1.out
    have X1_1 : V2.cell? ⟨V1.heap.size, 1, none⟩ = some (.int .i64 p2) := cell_of_row _ _ _ _ _ _ X1.out
    have X1_2 : V2.cell? ⟨V1.heap.size, 2, none⟩ = some (.int .i64 p3) := cell_of_row _ _ _ _ _ _ X1.out
    have X1_3 : V2.cell? ⟨V1.heap.size, 3, none⟩ = some (.int .i64 p4) := cell_of_row _ _ _ _ _ _ X1.out
    have zA1 := lt_of_heap A1.out
    have zX1 := lt_of_heap X1.out
    go_simp
    go_wp2_with fail
    refine (HK.out _ (by first | exact sz_keep hM ((B2.out).alloc (B2.out.size) _))).mono ?_
    rintro e V3 ⟨rfl, hb3⟩
    clear A1_0 A1_1 A1_2 A1_3 zA1 X1_0 X1_1 X1_2 X1_3 zX1
    have nA1Y1 := Lib.hid (lt_of_heap A1.out)
    have nX1Y1 := Lib.hid (lt_of_heap X1.out)
    have B3 := Lib.hid (((B2.out).alloc (B2.out.size) _).trans (hb3.mono (by have := B2.out.size; first | assumption | (simp <;> omega) | (simp; done))))
    replace A1 := Lib.hid (row_call hb3 (row_alloc A1.out _))
    replace X1 := Lib.hid (row_call hb3 (row_alloc X1.out _))
    have Y1 := Lib.hid (row_call hb3 (heap_alloc_new _ _))
    clear hb3
    have A1_0 : V3.cell? ⟨w.heap.size, 0, none⟩ = some (.int .i64 h) := cell_of_row _ _ _ _ _ _ A1.out
    have A1_1 : V3.cell? ⟨w.heap.size, 1, none⟩ = some (.int .i64 m) := cell_of_row _ _ _ _ _ _ A1.out
    have A1_2 : V3.cell? ⟨w.heap.size, 2, none⟩ = some (.int .i64 s) := cell_of_row _ _ _ _ _ _ A1.out
    have A1_3 : V3.cell? ⟨w.heap.size, 3, none⟩ = some (.int .i64 n) := cell_of_row _ _ _ _ _ _ A1.out
    have X1_0 : V3.cell? ⟨V1.heap.size, 0, none⟩ = some (.int .i64 p1) := cell_of_row _ _ _ _ _ _ X1.out
    have X1_1 : V3.cell? ⟨V1.heap.size, 1, none⟩ = some (.int .i64 p2) := cell_of_row _ _ _ _ _ _ X1.out
    have X1_2 : V3.cell? ⟨V1.heap.size, 2, none⟩ = some (.int .i64 p3) := cell_of_row _ _ _ _ _ _ X1.out
    have X1_3 : V3.cell? ⟨V1.heap.size, 3, none⟩ = some (.int .i64 p4) := cell_of_row _ _ _ _ _ _ X1.out
    have Y1_0 : V3.cell? ⟨V2.heap.size, 0, none⟩ = some (.int .i64 p1) := cell_of_row _ _ _ _ _ _ Y1.out
    have Y1_1 : V3.cell? ⟨V2.heap.size, 1, none⟩ = some (.int .i64 p2) := cell_of_row _ _ _ _ _ _ Y1.out
    have Y1_2 : V3.cell? ⟨V2.heap.size, 2, none⟩ = some (.int .i64 p3) := cell_of_row _ _ _ _ _ _ Y1.out
    have Y1_3 : V3.cell? ⟨V2.heap.size, 3, none⟩ = some (.int .i64 p4) := cell_of_row _ _ _ _ _ _ Y1.out
    have zA1 := lt_of_heap A1.out
    have zX1 := lt_of_heap X1.out
    have zY1 := lt_of_heap Y1.out
    go_simp
    go_wp2
    go_ret
    exact ⟨rfl, by first | exact B3.out | exact B3.out.alloc B3.out.size _⟩
  · have H1 := Lib.hid (pkAdd_no1 h m s n t 0 hc)
    have H2 := Lib.hid (pkAdd_no1 h m s n (t + u * 86400) 0 hc)
    generalize ckK h m s n = E at *
    have f1 : (E != 0) = true := by rw [bne_iff_ne]; exact hc
    have f2 : (E == 0) = false := by rw [beq_eq_false_iff_ne]; exact hc
    replace hM := Lib.hid hM
    go_enter Tryd.func6, Tryd.ntmps6
    go_wp2_with fail
    
    refine (H1.out _ (by first | exact sz_keep hM ((Below.refl w.heap.size w).alloc (Nat.le_refl _) _))).mono ?_
    rintro e V1 ⟨rfl, hb1⟩
    have B1 := Lib.hid (((Below.refl w.heap.size w).alloc (Nat.le_refl _) _).trans (hb1.mono (by first | assumption | (simp <;> omega) | (simp; done))))
    have A1 := Lib.hid (row_call hb1 (heap_alloc_new _ _))
    clear hb1
    have A1_0 : V1.cell? ⟨w.heap.size, 0, none⟩ = some (.int .i64 h) := cell_of_row _ _ _ _ _ _ A1.out
    have A1_1 : V1.cell? ⟨w.heap.size, 1, none⟩ = some (.int .i64 m) := cell_of_row _ _ _ _ _ _ A1.out
    have A1_2 : V1.cell? ⟨w.heap.size, 2, none⟩ = some (.int .i64 s) := cell_of_row _ _ _ _ _ _ A1.out
    have A1_3 : V1.cell? ⟨w.heap.size, 3, none⟩ = some (.int .i64 n) := cell_of_row _ _ _ _ _ _ A1.out
    have zA1 := lt_of_heap A1.out
    go_simp
    go_wp2_with fail
    refine (H2.out _ (by first | exact sz_keep hM ((B1.out).alloc (B1.out.size) _))).mono ?_
    rintro e V2 ⟨rfl, hb2⟩
    clear A1_0 A1_1 A1_2 A1_3 zA1
    have nA1X1 := Lib.hid (lt_of_heap A1.out)
    have B2 := Lib.hid (((B1.out).alloc (B1.out.size) _).trans (hb2.mono (by have := B1.out.size; first | assumption | (simp <;> omega) | (simp; done))))
    replace A1 := Lib.hid (row_call hb2 (row_alloc A1.out _))
    have X1 := Lib.hid (row_call hb2 (heap_alloc_new _ _))
    clear hb2
    have A1_0 : V2.cell? ⟨w.heap.size, 0, none⟩ = some (.int .i64 h) := cell_of_row _ _ _ _ _ _ A1.out
    have A1_1 : V2.cell? ⟨w.heap.size, 1, none⟩ = some (.int .i64 m) := cell_of_row _ _ _ _ _ _ A1.out
    have A1_2 : V2.cell? ⟨w.heap.size, 2, none⟩ = some (.int .i64 s) := cell_of_row _ _ _ _ _ _ A1.out
    have A1_3 : V2.cell? ⟨w.heap.size, 3, none⟩ = some (.int .i64 n) := cell_of_row _ _ _ _ _ _ A1.out
    have X1_0 : V2.cell? ⟨V1.heap.size, 0, none⟩ = some (.int .i64 0) := cell_of_row _ _ _ _ _ _ X1.out
    have X1_1 : V2.cell? ⟨V1.heap.size, 1, none⟩ = some (.int .i64 0) := cell_of_row _ _ _ _ _ _ X1.out
    have X1_2 : V2.cell? ⟨V1.heap.size, 2, none⟩ = some (.int .i64 0) := cell_of_row _ _ _ _ _ _ X1.out
    have X1_3 : V2.cell? ⟨V1.heap.size, 3, none⟩ = some (.int .i64 0) := cell_of_row _ _ _ _ _ _ X1.out
    have zA1 := lt_of_heap A1.out
    have zX1 := lt_of_heap X1.out
    go_simp
    go_wp2_with fail
    refine (HK.out _ (by first | exact sz_keep hM ((B2.out).alloc (B2.out.size) _))).mono ?_
    rintro e V3 ⟨rfl, hb3⟩
    clear A1_0 A1_1 A1_2 A1_3 zA1 X1_0 X1_1 X1_2 X1_3 zX1
    have nA1Y1 := Lib.hid (lt_of_heap A1.out)
    have nX1Y1 := Lib.hid (lt_of_heap X1.out)
    have B3 := Lib.hid (((B2.out).alloc (B2.out.size) _).trans (hb3.mono (by have := B2.out.size; first | assumption | (simp <;> omega) | (simp; done))))
    replace A1 := Lib.hid (row_call hb3 (row_alloc A1.out _))
    replace X1 := Lib.hid (row_call hb3 (row_alloc X1.out _))
    have Y1 := Lib.hid (row_call hb3 (heap_alloc_new _ _))
    clear hb3
    have A1_0 : V3.cell? ⟨w.heap.size, 0, none⟩ = some (.int .i64 h) := cell_of_row _ _ _ _ _ _ A1.out
    have A1_1 : V3.cell? ⟨w.heap.size, 1, none⟩ = some (.int .i64 m) := cell_of_row _ _ _ _ _ _ A1.out
    have A1_2 : V3.cell? ⟨w.heap.size, 2, none⟩ = some (.int .i64 s) := cell_of_row _ _ _ _ _ _ A1.out
    have A1_3 : V3.cell? ⟨w.heap.size, 3, none⟩ = some (.int .i64 n) := cell_of_row _ _ _ _ _ _ A1.out
    have X1_0 : V3.cell? ⟨V1.heap.size, 0, none⟩ = some (.int .i64 0) := cell_of_row _ _ _ _ _ _ X1.out
    have X1_1 : V3.cell? ⟨V1.heap.size, 1, none⟩ = some (.int .i64 0) := cell_of_row _ _ _ _ _ _ X1.out
    have X1_2 : V3.cell? ⟨V1.heap.size, 2, none⟩ = some (.int .i64 0) := cell_of_row _ _ _ _ _ _ X1.out
    have X1_3 : V3.cell? ⟨V1.heap.size, 3, none⟩ = some (.int .i64 0) := cell_of_row _ _ _ _ _ _ X1.out
    have Y1_0 : V3.cell? ⟨V2.heap.size, 0, none⟩ = some (.int .i64 0) := cell_of_row _ _ _ _ _ _ Y1.out
    have Y1_1 : V3.cell? ⟨V2.heap.size, 1, none⟩ = some (.int .i64 0) := cell_of_row _ _ _ _ _ _ Y1.out
    have Y1_2 : V3.cell? ⟨V2.heap.size, 2, none⟩ = some (.int .i64 0) := cell_of_row _ _ _ _ _ _ Y1.out
    have Y1_3 : V3.cell? ⟨V2.heap.size, 3, none⟩ = some (.int .i64 0) := cell_of_row _ _ _ _ _ _ Y1.out
    have zA1 := lt_of_heap A1.out
    have zX1 := lt_of_heap X1.out
    have zY1 := lt_of_heap Y1.out
    go_simp
    go_wp2
    go_ret
    exact ⟨rfl, by first | exact B3.out | exact B3.out.alloc B3.out.size _⟩
theorem hf_facts {h : Int} (h1 : 0 ≤ h) (h2 : h ≤ 23) : 1 ≤ hfK h ∧ hfK h ≤ 12 ∧ hfK h % 12 = h % 12 := by
  unfold hfK
  split <;> omega
theorem hf_apart {h k : Int} (h1 : 0 ≤ h) (h2 : h ≤ 23) (k1 : 0 ≤ k) (k2 : k ≤ 23) (hne : h ≠ k) : (hfK h == hfK k) = false ∨ (hfK h = hfK k ∧ (decide (12 ≤ h) == decide (12 ≤ k)) = false) := by
  by_cases e : hfK h = hfK k
  · right
    refine ⟨e, ?_⟩
    obtain ⟨_, _, a⟩ := hf_facts h1 h2
    obtain ⟨_, _, b⟩ := hf_facts k1 k2
    rw [e] at a
    by_cases p : 12 ≤ h <;> by_cases q : 12 ≤ k <;> simp [p, q]
    · omega
    · omega
  · left
    rw [beq_eq_false_iff_ne]; exact e
set_option maxHeartbeats 3200000 in
set_option maxRecDepth 100000 in
theorem clockHalves_walk (h m s n k i j o : Int) (w : World) (hM : SZ w) : Calls Tryd.prog 7 #[.agg #[.int .i64 h, .int .i64 m, .int .i64 s, .int .i64 n], .agg #[.int .i64 k, .int .i64 i, .int .i64 j, .int .i64 o]] w fun e w' => e = .returned (.bool true) ∧ Below w.heap.size w w' := by
  have HK := Lib.hid awake8_any
  by_cases hc : ckK h m s n = 0
  · by_cases hd : ckK k i j o = 0
    · have H1 := Lib.hid (pkHalf_any h m s n hc)
      have H2 := Lib.hid (pkHalf_any k i j o hd)
      have ka := of_ckK hc
      have kb := of_ckK hd
      unfold okK at ka kb
      obtain ⟨x1, x2, x3⟩ := hf_facts ka.1 ka.2.1
      obtain ⟨y1, y2, y3⟩ := hf_facts kb.1 kb.2.1
      have z1 : 0 ≤ h := ka.1
      have z2 : 0 ≤ k := kb.1
      by_cases hne : h = k
      · subst hne
        clear hc hd ka kb y1 y2 y3 z2
        generalize hfK h = X at *
        replace hM := Lib.hid hM
        go_enter Tryd.func7, Tryd.ntmps7
        go_wp2_with fail
        
        refine (H1.out _ (by first | exact sz_keep hM (((Below.refl w.heap.size w).alloc (Nat.le_refl _) _).alloc (by simp <;> omega) _))).mono ?_
        rintro e V1 ⟨rfl, hb1⟩
        have B1 := Lib.hid ((((Below.refl w.heap.size w).alloc (Nat.le_refl _) _).alloc (by simp <;> omega) _).trans (hb1.mono (by first | assumption | (simp <;> omega) | (simp; done))))
        have A1 := Lib.hid (row_call hb1 (row_alloc (heap_alloc_new _ _) _))
        have C1 := Lib.hid (row_at (k' := w.heap.size + 1) (by simp) (row_call hb1 (heap_alloc_new _ _)))
        clear hb1
        have A1_0 : V1.cell? ⟨w.heap.size, 0, none⟩ = some (.int .i64 h) := cell_of_row _ _ _ _ _ _ A1.out
        have A1_1 : V1.cell? ⟨w.heap.size, 1, none⟩ = some (.int .i64 m) := cell_of_row _ _ _ _ _ _ A1.out
        have A1_2 : V1.cell? ⟨w.heap.size, 2, none⟩ = some (.int .i64 s) := cell_of_row _ _ _ _ _ _ A1.out
        have A1_3 : V1.cell? ⟨w.heap.size, 3, none⟩ = some (.int .i64 n) := cell_of_row _ _ _ _ _ _ A1.out
        have C1_0 : V1.cell? ⟨w.heap.size + 1, 0, none⟩ = some (.int .i64 h) := cell_of_row _ _ _ _ _ _ C1.out
        have C1_1 : V1.cell? ⟨w.heap.size + 1, 1, none⟩ = some (.int .i64 i) := cell_of_row _ _ _ _ _ _ C1.out
        have C1_2 : V1.cell? ⟨w.heap.size + 1, 2, none⟩ = some (.int .i64 j) := cell_of_row _ _ _ _ _ _ C1.out
        have C1_3 : V1.cell? ⟨w.heap.size + 1, 3, none⟩ = some (.int .i64 o) := cell_of_row _ _ _ _ _ _ C1.out
        have zA1 := lt_of_heap A1.out
        have zC1 := lt_of_heap C1.out
        go_simp
        go_wp2_with fail
        refine (H2.out _ (by first | exact sz_keep hM (B1.out) | exact sz_keep hM ((B1.out).alloc (B1.out.size) _) | exact sz_keep hM (((B1.out).alloc (B1.out.size) _).alloc (by have := B1.out.size; simp <;> omega) _) | exact sz_keep hM ((((B1.out).alloc (B1.out.size) _).alloc (by have := B1.out.size; simp <;> omega) _).alloc (by have := B1.out.size; simp <;> omega) _))).mono ?_
        rintro e V2 ⟨rfl, hb2⟩
        clear A1_0 A1_1 A1_2 A1_3 zA1 C1_0 C1_1 C1_2 C1_3 zC1
        have B2 : Hid (Below w.heap.size w V2) := by first | exact Lib.hid ((B1.out).trans (hb2.mono (by have := B1.out.size; first | assumption | (simp <;> omega) | (simp; done)))) | exact Lib.hid (((B1.out).alloc (B1.out.size) _).trans (hb2.mono (by have := B1.out.size; first | assumption | (simp <;> omega) | (simp; done)))) | exact Lib.hid ((((B1.out).alloc (B1.out.size) _).alloc (by have := B1.out.size; simp <;> omega) _).trans (hb2.mono (by have := B1.out.size; first | assumption | (simp <;> omega) | (simp; done)))) | exact Lib.hid (((((B1.out).alloc (B1.out.size) _).alloc (by have := B1.out.size; simp <;> omega) _).alloc (by have := B1.out.size; simp <;> omega) _).trans (hb2.mono (by have := B1.out.size; first | assumption | (simp <;> omega) | (simp; done))))
        first | replace A1 := Lib.hid (row_call hb2 A1.out) | replace A1 := Lib.hid (row_call hb2 (row_alloc A1.out _)) | replace A1 := Lib.hid (row_call hb2 (row_alloc (row_alloc A1.out _) _)) | replace A1 := Lib.hid (row_call hb2 (row_alloc (row_alloc (row_alloc A1.out _) _) _))
        first | replace C1 := Lib.hid (row_call hb2 C1.out) | replace C1 := Lib.hid (row_call hb2 (row_alloc C1.out _)) | replace C1 := Lib.hid (row_call hb2 (row_alloc (row_alloc C1.out _) _)) | replace C1 := Lib.hid (row_call hb2 (row_alloc (row_alloc (row_alloc C1.out _) _) _))
        clear hb2
        have A1_0 : V2.cell? ⟨w.heap.size, 0, none⟩ = some (.int .i64 h) := cell_of_row _ _ _ _ _ _ A1.out
        have A1_1 : V2.cell? ⟨w.heap.size, 1, none⟩ = some (.int .i64 m) := cell_of_row _ _ _ _ _ _ A1.out
        have A1_2 : V2.cell? ⟨w.heap.size, 2, none⟩ = some (.int .i64 s) := cell_of_row _ _ _ _ _ _ A1.out
        have A1_3 : V2.cell? ⟨w.heap.size, 3, none⟩ = some (.int .i64 n) := cell_of_row _ _ _ _ _ _ A1.out
        have C1_0 : V2.cell? ⟨w.heap.size + 1, 0, none⟩ = some (.int .i64 h) := cell_of_row _ _ _ _ _ _ C1.out
        have C1_1 : V2.cell? ⟨w.heap.size + 1, 1, none⟩ = some (.int .i64 i) := cell_of_row _ _ _ _ _ _ C1.out
        have C1_2 : V2.cell? ⟨w.heap.size + 1, 2, none⟩ = some (.int .i64 j) := cell_of_row _ _ _ _ _ _ C1.out
        have C1_3 : V2.cell? ⟨w.heap.size + 1, 3, none⟩ = some (.int .i64 o) := cell_of_row _ _ _ _ _ _ C1.out
        have zA1 := lt_of_heap A1.out
        have zC1 := lt_of_heap C1.out
        go_simp
        go_wp2_with fail
        refine (HK.out _ (by first | exact sz_keep hM (B2.out) | exact sz_keep hM ((B2.out).alloc (B2.out.size) _) | exact sz_keep hM (((B2.out).alloc (B2.out.size) _).alloc (by have := B2.out.size; simp <;> omega) _) | exact sz_keep hM ((((B2.out).alloc (B2.out.size) _).alloc (by have := B2.out.size; simp <;> omega) _).alloc (by have := B2.out.size; simp <;> omega) _))).mono ?_
        rintro e V3 ⟨rfl, hb3⟩
        clear A1_0 A1_1 A1_2 A1_3 zA1 C1_0 C1_1 C1_2 C1_3 zC1
        have B3 : Hid (Below w.heap.size w V3) := by first | exact Lib.hid ((B2.out).trans (hb3.mono (by have := B2.out.size; first | assumption | (simp <;> omega) | (simp; done)))) | exact Lib.hid (((B2.out).alloc (B2.out.size) _).trans (hb3.mono (by have := B2.out.size; first | assumption | (simp <;> omega) | (simp; done)))) | exact Lib.hid ((((B2.out).alloc (B2.out.size) _).alloc (by have := B2.out.size; simp <;> omega) _).trans (hb3.mono (by have := B2.out.size; first | assumption | (simp <;> omega) | (simp; done)))) | exact Lib.hid (((((B2.out).alloc (B2.out.size) _).alloc (by have := B2.out.size; simp <;> omega) _).alloc (by have := B2.out.size; simp <;> omega) _).trans (hb3.mono (by have := B2.out.size; first | assumption | (simp <;> omega) | (simp; done))))
        first | replace A1 := Lib.hid (row_call hb3 A1.out) | replace A1 := Lib.hid (row_call hb3 (row_alloc A1.out _)) | replace A1 := Lib.hid (row_call hb3 (row_alloc (row_alloc A1.out _) _)) | replace A1 := Lib.hid (row_call hb3 (row_alloc (row_alloc (row_alloc A1.out _) _) _))
        first | replace C1 := Lib.hid (row_call hb3 C1.out) | replace C1 := Lib.hid (row_call hb3 (row_alloc C1.out _)) | replace C1 := Lib.hid (row_call hb3 (row_alloc (row_alloc C1.out _) _)) | replace C1 := Lib.hid (row_call hb3 (row_alloc (row_alloc (row_alloc C1.out _) _) _))
        clear hb3
        have A1_0 : V3.cell? ⟨w.heap.size, 0, none⟩ = some (.int .i64 h) := cell_of_row _ _ _ _ _ _ A1.out
        have A1_1 : V3.cell? ⟨w.heap.size, 1, none⟩ = some (.int .i64 m) := cell_of_row _ _ _ _ _ _ A1.out
        have A1_2 : V3.cell? ⟨w.heap.size, 2, none⟩ = some (.int .i64 s) := cell_of_row _ _ _ _ _ _ A1.out
        have A1_3 : V3.cell? ⟨w.heap.size, 3, none⟩ = some (.int .i64 n) := cell_of_row _ _ _ _ _ _ A1.out
        have C1_0 : V3.cell? ⟨w.heap.size + 1, 0, none⟩ = some (.int .i64 h) := cell_of_row _ _ _ _ _ _ C1.out
        have C1_1 : V3.cell? ⟨w.heap.size + 1, 1, none⟩ = some (.int .i64 i) := cell_of_row _ _ _ _ _ _ C1.out
        have C1_2 : V3.cell? ⟨w.heap.size + 1, 2, none⟩ = some (.int .i64 j) := cell_of_row _ _ _ _ _ _ C1.out
        have C1_3 : V3.cell? ⟨w.heap.size + 1, 3, none⟩ = some (.int .i64 o) := cell_of_row _ _ _ _ _ _ C1.out
        have zA1 := lt_of_heap A1.out
        have zC1 := lt_of_heap C1.out
        go_simp
        go_wp2
        go_ret
        exact ⟨rfl, by first | exact B3.out | exact B3.out.alloc B3.out.size _⟩
      · have hf := hf_apart ka.1 ka.2.1 kb.1 kb.2.1 hne
        have g : (h == k) = false := by rw [beq_eq_false_iff_ne]; exact hne
        clear hc hd ka kb y1 y2 y3
        generalize hfK h = X at *
        generalize hfK k = Y at *
        generalize hl : decide (12 ≤ h) = l1 at *
        generalize hr : decide (12 ≤ k) = l2 at *
        replace hM := Lib.hid hM
        rcases hf with hf | ⟨rfl, hf⟩
        · skip
          go_enter Tryd.func7, Tryd.ntmps7
          go_wp2_with fail
          
          refine (H1.out _ (by first | exact sz_keep hM (((Below.refl w.heap.size w).alloc (Nat.le_refl _) _).alloc (by simp <;> omega) _))).mono ?_
          rintro e V1 ⟨rfl, hb1⟩
          have B1 := Lib.hid ((((Below.refl w.heap.size w).alloc (Nat.le_refl _) _).alloc (by simp <;> omega) _).trans (hb1.mono (by first | assumption | (simp <;> omega) | (simp; done))))
          have A1 := Lib.hid (row_call hb1 (row_alloc (heap_alloc_new _ _) _))
          have C1 := Lib.hid (row_at (k' := w.heap.size + 1) (by simp) (row_call hb1 (heap_alloc_new _ _)))
          clear hb1
          have A1_0 : V1.cell? ⟨w.heap.size, 0, none⟩ = some (.int .i64 h) := cell_of_row _ _ _ _ _ _ A1.out
          have A1_1 : V1.cell? ⟨w.heap.size, 1, none⟩ = some (.int .i64 m) := cell_of_row _ _ _ _ _ _ A1.out
          have A1_2 : V1.cell? ⟨w.heap.size, 2, none⟩ = some (.int .i64 s) := cell_of_row _ _ _ _ _ _ A1.out
          have A1_3 : V1.cell? ⟨w.heap.size, 3, none⟩ = some (.int .i64 n) := cell_of_row _ _ _ _ _ _ A1.out
          have C1_0 : V1.cell? ⟨w.heap.size + 1, 0, none⟩ = some (.int .i64 k) := cell_of_row _ _ _ _ _ _ C1.out
          have C1_1 : V1.cell? ⟨w.heap.size + 1, 1, none⟩ = some (.int .i64 i) := cell_of_row _ _ _ _ _ _ C1.out
          have C1_2 : V1.cell? ⟨w.heap.size + 1, 2, none⟩ = some (.int .i64 j) := cell_of_row _ _ _ _ _ _ C1.out
          have C1_3 : V1.cell? ⟨w.heap.size + 1, 3, none⟩ = some (.int .i64 o) := cell_of_row _ _ _ _ _ _ C1.out
          have zA1 := lt_of_heap A1.out
          have zC1 := lt_of_heap C1.out
          go_simp
          go_wp2_with fail
          refine (H2.out _ (by first | exact sz_keep hM (B1.out) | exact sz_keep hM ((B1.out).alloc (B1.out.size) _) | exact sz_keep hM (((B1.out).alloc (B1.out.size) _).alloc (by have := B1.out.size; simp <;> omega) _) | exact sz_keep hM ((((B1.out).alloc (B1.out.size) _).alloc (by have := B1.out.size; simp <;> omega) _).alloc (by have := B1.out.size; simp <;> omega) _))).mono ?_
          rintro e V2 ⟨rfl, hb2⟩
          clear A1_0 A1_1 A1_2 A1_3 zA1 C1_0 C1_1 C1_2 C1_3 zC1
          have B2 : Hid (Below w.heap.size w V2) := by first | exact Lib.hid ((B1.out).trans (hb2.mono (by have := B1.out.size; first | assumption | (simp <;> omega) | (simp; done)))) | exact Lib.hid (((B1.out).alloc (B1.out.size) _).trans (hb2.mono (by have := B1.out.size; first | assumption | (simp <;> omega) | (simp; done)))) | exact Lib.hid ((((B1.out).alloc (B1.out.size) _).alloc (by have := B1.out.size; simp <;> omega) _).trans (hb2.mono (by have := B1.out.size; first | assumption | (simp <;> omega) | (simp; done)))) | exact Lib.hid (((((B1.out).alloc (B1.out.size) _).alloc (by have := B1.out.size; simp <;> omega) _).alloc (by have := B1.out.size; simp <;> omega) _).trans (hb2.mono (by have := B1.out.size; first | assumption | (simp <;> omega) | (simp; done))))
          first | replace A1 := Lib.hid (row_call hb2 A1.out) | replace A1 := Lib.hid (row_call hb2 (row_alloc A1.out _)) | replace A1 := Lib.hid (row_call hb2 (row_alloc (row_alloc A1.out _) _)) | replace A1 := Lib.hid (row_call hb2 (row_alloc (row_alloc (row_alloc A1.out _) _) _))
          first | replace C1 := Lib.hid (row_call hb2 C1.out) | replace C1 := Lib.hid (row_call hb2 (row_alloc C1.out _)) | replace C1 := Lib.hid (row_call hb2 (row_alloc (row_alloc C1.out _) _)) | replace C1 := Lib.hid (row_call hb2 (row_alloc (row_alloc (row_alloc C1.out _) _) _))
          clear hb2
          have A1_0 : V2.cell? ⟨w.heap.size, 0, none⟩ = some (.int .i64 h) := cell_of_row _ _ _ _ _ _ A1.out
          have A1_1 : V2.cell? ⟨w.heap.size, 1, none⟩ = some (.int .i64 m) := cell_of_row _ _ _ _ _ _ A1.out
          have A1_2 : V2.cell? ⟨w.heap.size, 2, none⟩ = some (.int .i64 s) := cell_of_row _ _ _ _ _ _ A1.out
          have A1_3 : V2.cell? ⟨w.heap.size, 3, none⟩ = some (.int .i64 n) := cell_of_row _ _ _ _ _ _ A1.out
          have C1_0 : V2.cell? ⟨w.heap.size + 1, 0, none⟩ = some (.int .i64 k) := cell_of_row _ _ _ _ _ _ C1.out
          have C1_1 : V2.cell? ⟨w.heap.size + 1, 1, none⟩ = some (.int .i64 i) := cell_of_row _ _ _ _ _ _ C1.out
          have C1_2 : V2.cell? ⟨w.heap.size + 1, 2, none⟩ = some (.int .i64 j) := cell_of_row _ _ _ _ _ _ C1.out
          have C1_3 : V2.cell? ⟨w.heap.size + 1, 3, none⟩ = some (.int .i64 o) := cell_of_row _ _ _ _ _ _ C1.out
          have zA1 := lt_of_heap A1.out
          have zC1 := lt_of_heap C1.out
          go_simp
          go_wp2_with fail
          refine (HK.out _ (by first | exact sz_keep hM (B2.out) | exact sz_keep hM ((B2.out).alloc (B2.out.size) _) | exact sz_keep hM (((B2.out).alloc (B2.out.size) _).alloc (by have := B2.out.size; simp <;> omega) _) | exact sz_keep hM ((((B2.out).alloc (B2.out.size) _).alloc (by have := B2.out.size; simp <;> omega) _).alloc (by have := B2.out.size; simp <;> omega) _))).mono ?_
          rintro e V3 ⟨rfl, hb3⟩
          clear A1_0 A1_1 A1_2 A1_3 zA1 C1_0 C1_1 C1_2 C1_3 zC1
          have B3 : Hid (Below w.heap.size w V3) := by first | exact Lib.hid ((B2.out).trans (hb3.mono (by have := B2.out.size; first | assumption | (simp <;> omega) | (simp; done)))) | exact Lib.hid (((B2.out).alloc (B2.out.size) _).trans (hb3.mono (by have := B2.out.size; first | assumption | (simp <;> omega) | (simp; done)))) | exact Lib.hid ((((B2.out).alloc (B2.out.size) _).alloc (by have := B2.out.size; simp <;> omega) _).trans (hb3.mono (by have := B2.out.size; first | assumption | (simp <;> omega) | (simp; done)))) | exact Lib.hid (((((B2.out).alloc (B2.out.size) _).alloc (by have := B2.out.size; simp <;> omega) _).alloc (by have := B2.out.size; simp <;> omega) _).trans (hb3.mono (by have := B2.out.size; first | assumption | (simp <;> omega) | (simp; done))))
          first | replace A1 := Lib.hid (row_call hb3 A1.out) | replace A1 := Lib.hid (row_call hb3 (row_alloc A1.out _)) | replace A1 := Lib.hid (row_call hb3 (row_alloc (row_alloc A1.out _) _)) | replace A1 := Lib.hid (row_call hb3 (row_alloc (row_alloc (row_alloc A1.out _) _) _))
          first | replace C1 := Lib.hid (row_call hb3 C1.out) | replace C1 := Lib.hid (row_call hb3 (row_alloc C1.out _)) | replace C1 := Lib.hid (row_call hb3 (row_alloc (row_alloc C1.out _) _)) | replace C1 := Lib.hid (row_call hb3 (row_alloc (row_alloc (row_alloc C1.out _) _) _))
          clear hb3
          have A1_0 : V3.cell? ⟨w.heap.size, 0, none⟩ = some (.int .i64 h) := cell_of_row _ _ _ _ _ _ A1.out
          have A1_1 : V3.cell? ⟨w.heap.size, 1, none⟩ = some (.int .i64 m) := cell_of_row _ _ _ _ _ _ A1.out
          have A1_2 : V3.cell? ⟨w.heap.size, 2, none⟩ = some (.int .i64 s) := cell_of_row _ _ _ _ _ _ A1.out
          have A1_3 : V3.cell? ⟨w.heap.size, 3, none⟩ = some (.int .i64 n) := cell_of_row _ _ _ _ _ _ A1.out
          have C1_0 : V3.cell? ⟨w.heap.size + 1, 0, none⟩ = some (.int .i64 k) := cell_of_row _ _ _ _ _ _ C1.out
          have C1_1 : V3.cell? ⟨w.heap.size + 1, 1, none⟩ = some (.int .i64 i) := cell_of_row _ _ _ _ _ _ C1.out
          have C1_2 : V3.cell? ⟨w.heap.size + 1, 2, none⟩ = some (.int .i64 j) := cell_of_row _ _ _ _ _ _ C1.out
          have C1_3 : V3.cell? ⟨w.heap.size + 1, 3, none⟩ = some (.int .i64 o) := cell_of_row _ _ _ _ _ _ C1.out
          have zA1 := lt_of_heap A1.out
          have zC1 := lt_of_heap C1.out
          go_simp
          go_wp2
          go_ret
          exact ⟨rfl, by first | exact B3.out | exact B3.out.alloc B3.out.size _⟩
        · skip
          go_enter Tryd.func7, Tryd.ntmps7
          go_wp2_with fail
          
          refine (H1.out _ (by first | exact sz_keep hM (((Below.refl w.heap.size w).alloc (Nat.le_refl _) _).alloc (by simp <;> omega) _))).mono ?_
          rintro e V1 ⟨rfl, hb1⟩
          have B1 := Lib.hid ((((Below.refl w.heap.size w).alloc (Nat.le_refl _) _).alloc (by simp <;> omega) _).trans (hb1.mono (by first | assumption | (simp <;> omega) | (simp; done))))
          have A1 := Lib.hid (row_call hb1 (row_alloc (heap_alloc_new _ _) _))
          have C1 := Lib.hid (row_at (k' := w.heap.size + 1) (by simp) (row_call hb1 (heap_alloc_new _ _)))
          clear hb1
          have A1_0 : V1.cell? ⟨w.heap.size, 0, none⟩ = some (.int .i64 h) := cell_of_row _ _ _ _ _ _ A1.out
          have A1_1 : V1.cell? ⟨w.heap.size, 1, none⟩ = some (.int .i64 m) := cell_of_row _ _ _ _ _ _ A1.out
          have A1_2 : V1.cell? ⟨w.heap.size, 2, none⟩ = some (.int .i64 s) := cell_of_row _ _ _ _ _ _ A1.out
          have A1_3 : V1.cell? ⟨w.heap.size, 3, none⟩ = some (.int .i64 n) := cell_of_row _ _ _ _ _ _ A1.out
          have C1_0 : V1.cell? ⟨w.heap.size + 1, 0, none⟩ = some (.int .i64 k) := cell_of_row _ _ _ _ _ _ C1.out
          have C1_1 : V1.cell? ⟨w.heap.size + 1, 1, none⟩ = some (.int .i64 i) := cell_of_row _ _ _ _ _ _ C1.out
          have C1_2 : V1.cell? ⟨w.heap.size + 1, 2, none⟩ = some (.int .i64 j) := cell_of_row _ _ _ _ _ _ C1.out
          have C1_3 : V1.cell? ⟨w.heap.size + 1, 3, none⟩ = some (.int .i64 o) := cell_of_row _ _ _ _ _ _ C1.out
          have zA1 := lt_of_heap A1.out
          have zC1 := lt_of_heap C1.out
          go_simp
          go_wp2_with fail
          refine (H2.out _ (by first | exact sz_keep hM (B1.out) | exact sz_keep hM ((B1.out).alloc (B1.out.size) _) | exact sz_keep hM (((B1.out).alloc (B1.out.size) _).alloc (by have := B1.out.size; simp <;> omega) _) | exact sz_keep hM ((((B1.out).alloc (B1.out.size) _).alloc (by have := B1.out.size; simp <;> omega) _).alloc (by have := B1.out.size; simp <;> omega) _))).mono ?_
          rintro e V2 ⟨rfl, hb2⟩
          clear A1_0 A1_1 A1_2 A1_3 zA1 C1_0 C1_1 C1_2 C1_3 zC1
          have B2 : Hid (Below w.heap.size w V2) := by first | exact Lib.hid ((B1.out).trans (hb2.mono (by have := B1.out.size; first | assumption | (simp <;> omega) | (simp; done)))) | exact Lib.hid (((B1.out).alloc (B1.out.size) _).trans (hb2.mono (by have := B1.out.size; first | assumption | (simp <;> omega) | (simp; done)))) | exact Lib.hid ((((B1.out).alloc (B1.out.size) _).alloc (by have := B1.out.size; simp <;> omega) _).trans (hb2.mono (by have := B1.out.size; first | assumption | (simp <;> omega) | (simp; done)))) | exact Lib.hid (((((B1.out).alloc (B1.out.size) _).alloc (by have := B1.out.size; simp <;> omega) _).alloc (by have := B1.out.size; simp <;> omega) _).trans (hb2.mono (by have := B1.out.size; first | assumption | (simp <;> omega) | (simp; done))))
          first | replace A1 := Lib.hid (row_call hb2 A1.out) | replace A1 := Lib.hid (row_call hb2 (row_alloc A1.out _)) | replace A1 := Lib.hid (row_call hb2 (row_alloc (row_alloc A1.out _) _)) | replace A1 := Lib.hid (row_call hb2 (row_alloc (row_alloc (row_alloc A1.out _) _) _))
          first | replace C1 := Lib.hid (row_call hb2 C1.out) | replace C1 := Lib.hid (row_call hb2 (row_alloc C1.out _)) | replace C1 := Lib.hid (row_call hb2 (row_alloc (row_alloc C1.out _) _)) | replace C1 := Lib.hid (row_call hb2 (row_alloc (row_alloc (row_alloc C1.out _) _) _))
          clear hb2
          have A1_0 : V2.cell? ⟨w.heap.size, 0, none⟩ = some (.int .i64 h) := cell_of_row _ _ _ _ _ _ A1.out
          have A1_1 : V2.cell? ⟨w.heap.size, 1, none⟩ = some (.int .i64 m) := cell_of_row _ _ _ _ _ _ A1.out
          have A1_2 : V2.cell? ⟨w.heap.size, 2, none⟩ = some (.int .i64 s) := cell_of_row _ _ _ _ _ _ A1.out
          have A1_3 : V2.cell? ⟨w.heap.size, 3, none⟩ = some (.int .i64 n) := cell_of_row _ _ _ _ _ _ A1.out
          have C1_0 : V2.cell? ⟨w.heap.size + 1, 0, none⟩ = some (.int .i64 k) := cell_of_row _ _ _ _ _ _ C1.out
          have C1_1 : V2.cell? ⟨w.heap.size + 1, 1, none⟩ = some (.int .i64 i) := cell_of_row _ _ _ _ _ _ C1.out
          have C1_2 : V2.cell? ⟨w.heap.size + 1, 2, none⟩ = some (.int .i64 j) := cell_of_row _ _ _ _ _ _ C1.out
          have C1_3 : V2.cell? ⟨w.heap.size + 1, 3, none⟩ = some (.int .i64 o) := cell_of_row _ _ _ _ _ _ C1.out
          have zA1 := lt_of_heap A1.out
          have zC1 := lt_of_heap C1.out
          go_simp
          go_wp2_with fail
          refine (HK.out _ (by first | exact sz_keep hM (B2.out) | exact sz_keep hM ((B2.out).alloc (B2.out.size) _) | exact sz_keep hM (((B2.out).alloc (B2.out.size) _).alloc (by have := B2.out.size; simp <;> omega) _) | exact sz_keep hM ((((B2.out).alloc (B2.out.size) _).alloc (by have := B2.out.size; simp <;> omega) _).alloc (by have := B2.out.size; simp <;> omega) _))).mono ?_
          rintro e V3 ⟨rfl, hb3⟩
          clear A1_0 A1_1 A1_2 A1_3 zA1 C1_0 C1_1 C1_2 C1_3 zC1
          have B3 : Hid (Below w.heap.size w V3) := by first | exact Lib.hid ((B2.out).trans (hb3.mono (by have := B2.out.size; first | assumption | (simp <;> omega) | (simp; done)))) | exact Lib.hid (((B2.out).alloc (B2.out.size) _).trans (hb3.mono (by have := B2.out.size; first | assumption | (simp <;> omega) | (simp; done)))) | exact Lib.hid ((((B2.out).alloc (B2.out.size) _).alloc (by have := B2.out.size; simp <;> omega) _).trans (hb3.mono (by have := B2.out.size; first | assumption | (simp <;> omega) | (simp; done)))) | exact Lib.hid (((((B2.out).alloc (B2.out.size) _).alloc (by have := B2.out.size; simp <;> omega) _).alloc (by have := B2.out.size; simp <;> omega) _).trans (hb3.mono (by have := B2.out.size; first | assumption | (simp <;> omega) | (simp; done))))
          first | replace A1 := Lib.hid (row_call hb3 A1.out) | replace A1 := Lib.hid (row_call hb3 (row_alloc A1.out _)) | replace A1 := Lib.hid (row_call hb3 (row_alloc (row_alloc A1.out _) _)) | replace A1 := Lib.hid (row_call hb3 (row_alloc (row_alloc (row_alloc A1.out _) _) _))
          first | replace C1 := Lib.hid (row_call hb3 C1.out) | replace C1 := Lib.hid (row_call hb3 (row_alloc C1.out _)) | replace C1 := Lib.hid (row_call hb3 (row_alloc (row_alloc C1.out _) _)) | replace C1 := Lib.hid (row_call hb3 (row_alloc (row_alloc (row_alloc C1.out _) _) _))
          clear hb3
          have A1_0 : V3.cell? ⟨w.heap.size, 0, none⟩ = some (.int .i64 h) := cell_of_row _ _ _ _ _ _ A1.out
          have A1_1 : V3.cell? ⟨w.heap.size, 1, none⟩ = some (.int .i64 m) := cell_of_row _ _ _ _ _ _ A1.out
          have A1_2 : V3.cell? ⟨w.heap.size, 2, none⟩ = some (.int .i64 s) := cell_of_row _ _ _ _ _ _ A1.out
          have A1_3 : V3.cell? ⟨w.heap.size, 3, none⟩ = some (.int .i64 n) := cell_of_row _ _ _ _ _ _ A1.out
          have C1_0 : V3.cell? ⟨w.heap.size + 1, 0, none⟩ = some (.int .i64 k) := cell_of_row _ _ _ _ _ _ C1.out
          have C1_1 : V3.cell? ⟨w.heap.size + 1, 1, none⟩ = some (.int .i64 i) := cell_of_row _ _ _ _ _ _ C1.out
          have C1_2 : V3.cell? ⟨w.heap.size + 1, 2, none⟩ = some (.int .i64 j) := cell_of_row _ _ _ _ _ _ C1.out
          have C1_3 : V3.cell? ⟨w.heap.size + 1, 3, none⟩ = some (.int .i64 o) := cell_of_row _ _ _ _ _ _ C1.out
          have zA1 := lt_of_heap A1.out
          have zC1 := lt_of_heap C1.out
          go_simp
          go_wp2
          go_ret
          exact ⟨rfl, by first | exact B3.out | exact B3.out.alloc B3.out.size _⟩
    · have H1 := Lib.hid (pkHalf_any h m s n hc)
      have H2 := Lib.hid (pkHalf_no k i j o hd)
      generalize hfK h = X at *
      generalize decide (12 ≤ h) = l1 at *
      generalize ckK k i j o = E at *
      have f1 : (E != 0) = true := by rw [bne_iff_ne]; exact hd
      replace hM := Lib.hid hM
      go_enter Tryd.func7, Tryd.ntmps7
      go_wp2_with fail
      
      refine (H1.out _ (by first | exact sz_keep hM (((Below.refl w.heap.size w).alloc (Nat.le_refl _) _).alloc (by simp <;> omega) _))).mono ?_
      rintro e V1 ⟨rfl, hb1⟩
      have B1 := Lib.hid ((((Below.refl w.heap.size w).alloc (Nat.le_refl _) _).alloc (by simp <;> omega) _).trans (hb1.mono (by first | assumption | (simp <;> omega) | (simp; done))))
      have A1 := Lib.hid (row_call hb1 (row_alloc (heap_alloc_new _ _) _))
      have C1 := Lib.hid (row_at (k' := w.heap.size + 1) (by simp) (row_call hb1 (heap_alloc_new _ _)))
      clear hb1
      have A1_0 : V1.cell? ⟨w.heap.size, 0, none⟩ = some (.int .i64 h) := cell_of_row _ _ _ _ _ _ A1.out
      have A1_1 : V1.cell? ⟨w.heap.size, 1, none⟩ = some (.int .i64 m) := cell_of_row _ _ _ _ _ _ A1.out
      have A1_2 : V1.cell? ⟨w.heap.size, 2, none⟩ = some (.int .i64 s) := cell_of_row _ _ _ _ _ _ A1.out
      have A1_3 : V1.cell? ⟨w.heap.size, 3, none⟩ = some (.int .i64 n) := cell_of_row _ _ _ _ _ _ A1.out
      have C1_0 : V1.cell? ⟨w.heap.size + 1, 0, none⟩ = some (.int .i64 k) := cell_of_row _ _ _ _ _ _ C1.out
      have C1_1 : V1.cell? ⟨w.heap.size + 1, 1, none⟩ = some (.int .i64 i) := cell_of_row _ _ _ _ _ _ C1.out
      have C1_2 : V1.cell? ⟨w.heap.size + 1, 2, none⟩ = some (.int .i64 j) := cell_of_row _ _ _ _ _ _ C1.out
      have C1_3 : V1.cell? ⟨w.heap.size + 1, 3, none⟩ = some (.int .i64 o) := cell_of_row _ _ _ _ _ _ C1.out
      have zA1 := lt_of_heap A1.out
      have zC1 := lt_of_heap C1.out
      go_simp
      go_wp2_with fail
      refine (H2.out _ (by first | exact sz_keep hM (B1.out) | exact sz_keep hM ((B1.out).alloc (B1.out.size) _) | exact sz_keep hM (((B1.out).alloc (B1.out.size) _).alloc (by have := B1.out.size; simp <;> omega) _) | exact sz_keep hM ((((B1.out).alloc (B1.out.size) _).alloc (by have := B1.out.size; simp <;> omega) _).alloc (by have := B1.out.size; simp <;> omega) _))).mono ?_
      rintro e V2 ⟨rfl, hb2⟩
      clear A1_0 A1_1 A1_2 A1_3 zA1 C1_0 C1_1 C1_2 C1_3 zC1
      have B2 : Hid (Below w.heap.size w V2) := by first | exact Lib.hid ((B1.out).trans (hb2.mono (by have := B1.out.size; first | assumption | (simp <;> omega) | (simp; done)))) | exact Lib.hid (((B1.out).alloc (B1.out.size) _).trans (hb2.mono (by have := B1.out.size; first | assumption | (simp <;> omega) | (simp; done)))) | exact Lib.hid ((((B1.out).alloc (B1.out.size) _).alloc (by have := B1.out.size; simp <;> omega) _).trans (hb2.mono (by have := B1.out.size; first | assumption | (simp <;> omega) | (simp; done)))) | exact Lib.hid (((((B1.out).alloc (B1.out.size) _).alloc (by have := B1.out.size; simp <;> omega) _).alloc (by have := B1.out.size; simp <;> omega) _).trans (hb2.mono (by have := B1.out.size; first | assumption | (simp <;> omega) | (simp; done))))
      first | replace A1 := Lib.hid (row_call hb2 A1.out) | replace A1 := Lib.hid (row_call hb2 (row_alloc A1.out _)) | replace A1 := Lib.hid (row_call hb2 (row_alloc (row_alloc A1.out _) _)) | replace A1 := Lib.hid (row_call hb2 (row_alloc (row_alloc (row_alloc A1.out _) _) _))
      first | replace C1 := Lib.hid (row_call hb2 C1.out) | replace C1 := Lib.hid (row_call hb2 (row_alloc C1.out _)) | replace C1 := Lib.hid (row_call hb2 (row_alloc (row_alloc C1.out _) _)) | replace C1 := Lib.hid (row_call hb2 (row_alloc (row_alloc (row_alloc C1.out _) _) _))
      clear hb2
      have A1_0 : V2.cell? ⟨w.heap.size, 0, none⟩ = some (.int .i64 h) := cell_of_row _ _ _ _ _ _ A1.out
      have A1_1 : V2.cell? ⟨w.heap.size, 1, none⟩ = some (.int .i64 m) := cell_of_row _ _ _ _ _ _ A1.out
      have A1_2 : V2.cell? ⟨w.heap.size, 2, none⟩ = some (.int .i64 s) := cell_of_row _ _ _ _ _ _ A1.out
      have A1_3 : V2.cell? ⟨w.heap.size, 3, none⟩ = some (.int .i64 n) := cell_of_row _ _ _ _ _ _ A1.out
      have C1_0 : V2.cell? ⟨w.heap.size + 1, 0, none⟩ = some (.int .i64 k) := cell_of_row _ _ _ _ _ _ C1.out
      have C1_1 : V2.cell? ⟨w.heap.size + 1, 1, none⟩ = some (.int .i64 i) := cell_of_row _ _ _ _ _ _ C1.out
      have C1_2 : V2.cell? ⟨w.heap.size + 1, 2, none⟩ = some (.int .i64 j) := cell_of_row _ _ _ _ _ _ C1.out
      have C1_3 : V2.cell? ⟨w.heap.size + 1, 3, none⟩ = some (.int .i64 o) := cell_of_row _ _ _ _ _ _ C1.out
      have zA1 := lt_of_heap A1.out
      have zC1 := lt_of_heap C1.out
      go_simp
      go_wp2_with fail
      refine (HK.out _ (by first | exact sz_keep hM (B2.out) | exact sz_keep hM ((B2.out).alloc (B2.out.size) _) | exact sz_keep hM (((B2.out).alloc (B2.out.size) _).alloc (by have := B2.out.size; simp <;> omega) _) | exact sz_keep hM ((((B2.out).alloc (B2.out.size) _).alloc (by have := B2.out.size; simp <;> omega) _).alloc (by have := B2.out.size; simp <;> omega) _))).mono ?_
      rintro e V3 ⟨rfl, hb3⟩
      clear A1_0 A1_1 A1_2 A1_3 zA1 C1_0 C1_1 C1_2 C1_3 zC1
      have B3 : Hid (Below w.heap.size w V3) := by first | exact Lib.hid ((B2.out).trans (hb3.mono (by have := B2.out.size; first | assumption | (simp <;> omega) | (simp; done)))) | exact Lib.hid (((B2.out).alloc (B2.out.size) _).trans (hb3.mono (by have := B2.out.size; first | assumption | (simp <;> omega) | (simp; done)))) | exact Lib.hid ((((B2.out).alloc (B2.out.size) _).alloc (by have := B2.out.size; simp <;> omega) _).trans (hb3.mono (by have := B2.out.size; first | assumption | (simp <;> omega) | (simp; done)))) | exact Lib.hid (((((B2.out).alloc (B2.out.size) _).alloc (by have := B2.out.size; simp <;> omega) _).alloc (by have := B2.out.size; simp <;> omega) _).trans (hb3.mono (by have := B2.out.size; first | assumption | (simp <;> omega) | (simp; done))))
      first | replace A1 := Lib.hid (row_call hb3 A1.out) | replace A1 := Lib.hid (row_call hb3 (row_alloc A1.out _)) | replace A1 := Lib.hid (row_call hb3 (row_alloc (row_alloc A1.out _) _)) | replace A1 := Lib.hid (row_call hb3 (row_alloc (row_alloc (row_alloc A1.out _) _) _))
      first | replace C1 := Lib.hid (row_call hb3 C1.out) | replace C1 := Lib.hid (row_call hb3 (row_alloc C1.out _)) | replace C1 := Lib.hid (row_call hb3 (row_alloc (row_alloc C1.out _) _)) | replace C1 := Lib.hid (row_call hb3 (row_alloc (row_alloc (row_alloc C1.out _) _) _))
      clear hb3
      have A1_0 : V3.cell? ⟨w.heap.size, 0, none⟩ = some (.int .i64 h) := cell_of_row _ _ _ _ _ _ A1.out
      have A1_1 : V3.cell? ⟨w.heap.size, 1, none⟩ = some (.int .i64 m) := cell_of_row _ _ _ _ _ _ A1.out
      have A1_2 : V3.cell? ⟨w.heap.size, 2, none⟩ = some (.int .i64 s) := cell_of_row _ _ _ _ _ _ A1.out
      have A1_3 : V3.cell? ⟨w.heap.size, 3, none⟩ = some (.int .i64 n) := cell_of_row _ _ _ _ _ _ A1.out
      have C1_0 : V3.cell? ⟨w.heap.size + 1, 0, none⟩ = some (.int .i64 k) := cell_of_row _ _ _ _ _ _ C1.out
      have C1_1 : V3.cell? ⟨w.heap.size + 1, 1, none⟩ = some (.int .i64 i) := cell_of_row _ _ _ _ _ _ C1.out
      have C1_2 : V3.cell? ⟨w.heap.size + 1, 2, none⟩ = some (.int .i64 j) := cell_of_row _ _ _ _ _ _ C1.out
      have C1_3 : V3.cell? ⟨w.heap.size + 1, 3, none⟩ = some (.int .i64 o) := cell_of_row _ _ _ _ _ _ C1.out
      have zA1 := lt_of_heap A1.out
      have zC1 := lt_of_heap C1.out
      go_simp
      go_wp2
      go_ret
      exact ⟨rfl, by first | exact B3.out | exact B3.out.alloc B3.out.size _⟩
  · obtain ⟨X, l2, F, X2, _⟩ := khalf_both k i j o
    have H1 := Lib.hid (pkHalf_no h m s n hc)
    have H2 := Lib.hid X2
    clear X2
    generalize ckK h m s n = E at *
    have f1 : (E != 0) = true := by rw [bne_iff_ne]; exact hc
    replace hM := Lib.hid hM
    go_enter Tryd.func7, Tryd.ntmps7
    go_wp2_with fail
    
    refine (H1.out _ (by first | exact sz_keep hM (((Below.refl w.heap.size w).alloc (Nat.le_refl _) _).alloc (by simp <;> omega) _))).mono ?_
    rintro e V1 ⟨rfl, hb1⟩
    have B1 := Lib.hid ((((Below.refl w.heap.size w).alloc (Nat.le_refl _) _).alloc (by simp <;> omega) _).trans (hb1.mono (by first | assumption | (simp <;> omega) | (simp; done))))
    have A1 := Lib.hid (row_call hb1 (row_alloc (heap_alloc_new _ _) _))
    have C1 := Lib.hid (row_at (k' := w.heap.size + 1) (by simp) (row_call hb1 (heap_alloc_new _ _)))
    clear hb1
    have A1_0 : V1.cell? ⟨w.heap.size, 0, none⟩ = some (.int .i64 h) := cell_of_row _ _ _ _ _ _ A1.out
    have A1_1 : V1.cell? ⟨w.heap.size, 1, none⟩ = some (.int .i64 m) := cell_of_row _ _ _ _ _ _ A1.out
    have A1_2 : V1.cell? ⟨w.heap.size, 2, none⟩ = some (.int .i64 s) := cell_of_row _ _ _ _ _ _ A1.out
    have A1_3 : V1.cell? ⟨w.heap.size, 3, none⟩ = some (.int .i64 n) := cell_of_row _ _ _ _ _ _ A1.out
    have C1_0 : V1.cell? ⟨w.heap.size + 1, 0, none⟩ = some (.int .i64 k) := cell_of_row _ _ _ _ _ _ C1.out
    have C1_1 : V1.cell? ⟨w.heap.size + 1, 1, none⟩ = some (.int .i64 i) := cell_of_row _ _ _ _ _ _ C1.out
    have C1_2 : V1.cell? ⟨w.heap.size + 1, 2, none⟩ = some (.int .i64 j) := cell_of_row _ _ _ _ _ _ C1.out
    have C1_3 : V1.cell? ⟨w.heap.size + 1, 3, none⟩ = some (.int .i64 o) := cell_of_row _ _ _ _ _ _ C1.out
    have zA1 := lt_of_heap A1.out
    have zC1 := lt_of_heap C1.out
    go_simp
    go_wp2_with fail
    refine (H2.out _ (by first | exact sz_keep hM (B1.out) | exact sz_keep hM ((B1.out).alloc (B1.out.size) _) | exact sz_keep hM (((B1.out).alloc (B1.out.size) _).alloc (by have := B1.out.size; simp <;> omega) _) | exact sz_keep hM ((((B1.out).alloc (B1.out.size) _).alloc (by have := B1.out.size; simp <;> omega) _).alloc (by have := B1.out.size; simp <;> omega) _))).mono ?_
    rintro e V2 ⟨rfl, hb2⟩
    clear A1_0 A1_1 A1_2 A1_3 zA1 C1_0 C1_1 C1_2 C1_3 zC1
    have B2 : Hid (Below w.heap.size w V2) := by first | exact Lib.hid ((B1.out).trans (hb2.mono (by have := B1.out.size; first | assumption | (simp <;> omega) | (simp; done)))) | exact Lib.hid (((B1.out).alloc (B1.out.size) _).trans (hb2.mono (by have := B1.out.size; first | assumption | (simp <;> omega) | (simp; done)))) | exact Lib.hid ((((B1.out).alloc (B1.out.size) _).alloc (by have := B1.out.size; simp <;> omega) _).trans (hb2.mono (by have := B1.out.size; first | assumption | (simp <;> omega) | (simp; done)))) | exact Lib.hid (((((B1.out).alloc (B1.out.size) _).alloc (by have := B1.out.size; simp <;> omega) _).alloc (by have := B1.out.size; simp <;> omega) _).trans (hb2.mono (by have := B1.out.size; first | assumption | (simp <;> omega) | (simp; done))))
    first | replace A1 := Lib.hid (row_call hb2 A1.out) | replace A1 := Lib.hid (row_call hb2 (row_alloc A1.out _)) | replace A1 := Lib.hid (row_call hb2 (row_alloc (row_alloc A1.out _) _)) | replace A1 := Lib.hid (row_call hb2 (row_alloc (row_alloc (row_alloc A1.out _) _) _))
    first | replace C1 := Lib.hid (row_call hb2 C1.out) | replace C1 := Lib.hid (row_call hb2 (row_alloc C1.out _)) | replace C1 := Lib.hid (row_call hb2 (row_alloc (row_alloc C1.out _) _)) | replace C1 := Lib.hid (row_call hb2 (row_alloc (row_alloc (row_alloc C1.out _) _) _))
    clear hb2
    have A1_0 : V2.cell? ⟨w.heap.size, 0, none⟩ = some (.int .i64 h) := cell_of_row _ _ _ _ _ _ A1.out
    have A1_1 : V2.cell? ⟨w.heap.size, 1, none⟩ = some (.int .i64 m) := cell_of_row _ _ _ _ _ _ A1.out
    have A1_2 : V2.cell? ⟨w.heap.size, 2, none⟩ = some (.int .i64 s) := cell_of_row _ _ _ _ _ _ A1.out
    have A1_3 : V2.cell? ⟨w.heap.size, 3, none⟩ = some (.int .i64 n) := cell_of_row _ _ _ _ _ _ A1.out
    have C1_0 : V2.cell? ⟨w.heap.size + 1, 0, none⟩ = some (.int .i64 k) := cell_of_row _ _ _ _ _ _ C1.out
    have C1_1 : V2.cell? ⟨w.heap.size + 1, 1, none⟩ = some (.int .i64 i) := cell_of_row _ _ _ _ _ _ C1.out
    have C1_2 : V2.cell? ⟨w.heap.size + 1, 2, none⟩ = some (.int .i64 j) := cell_of_row _ _ _ _ _ _ C1.out
    have C1_3 : V2.cell? ⟨w.heap.size + 1, 3, none⟩ = some (.int .i64 o) := cell_of_row _ _ _ _ _ _ C1.out
    have zA1 := lt_of_heap A1.out
    have zC1 := lt_of_heap C1.out
    go_simp
    go_wp2_with fail
    refine (HK.out _ (by first | exact sz_keep hM (B2.out) | exact sz_keep hM ((B2.out).alloc (B2.out.size) _) | exact sz_keep hM (((B2.out).alloc (B2.out.size) _).alloc (by have := B2.out.size; simp <;> omega) _) | exact sz_keep hM ((((B2.out).alloc (B2.out.size) _).alloc (by have := B2.out.size; simp <;> omega) _).alloc (by have := B2.out.size; simp <;> omega) _))).mono ?_
    rintro e V3 ⟨rfl, hb3⟩
    clear A1_0 A1_1 A1_2 A1_3 zA1 C1_0 C1_1 C1_2 C1_3 zC1
    have B3 : Hid (Below w.heap.size w V3) := by first | exact Lib.hid ((B2.out).trans (hb3.mono (by have := B2.out.size; first | assumption | (simp <;> omega) | (simp; done)))) | exact Lib.hid (((B2.out).alloc (B2.out.size) _).trans (hb3.mono (by have := B2.out.size; first | assumption | (simp <;> omega) | (simp; done)))) | exact Lib.hid ((((B2.out).alloc (B2.out.size) _).alloc (by have := B2.out.size; simp <;> omega) _).trans (hb3.mono (by have := B2.out.size; first | assumption | (simp <;> omega) | (simp; done)))) | exact Lib.hid (((((B2.out).alloc (B2.out.size) _).alloc (by have := B2.out.size; simp <;> omega) _).alloc (by have := B2.out.size; simp <;> omega) _).trans (hb3.mono (by have := B2.out.size; first | assumption | (simp <;> omega) | (simp; done))))
    first | replace A1 := Lib.hid (row_call hb3 A1.out) | replace A1 := Lib.hid (row_call hb3 (row_alloc A1.out _)) | replace A1 := Lib.hid (row_call hb3 (row_alloc (row_alloc A1.out _) _)) | replace A1 := Lib.hid (row_call hb3 (row_alloc (row_alloc (row_alloc A1.out _) _) _))
    first | replace C1 := Lib.hid (row_call hb3 C1.out) | replace C1 := Lib.hid (row_call hb3 (row_alloc C1.out _)) | replace C1 := Lib.hid (row_call hb3 (row_alloc (row_alloc C1.out _) _)) | replace C1 := Lib.hid (row_call hb3 (row_alloc (row_alloc (row_alloc C1.out _) _) _))
    clear hb3
    have A1_0 : V3.cell? ⟨w.heap.size, 0, none⟩ = some (.int .i64 h) := cell_of_row _ _ _ _ _ _ A1.out
    have A1_1 : V3.cell? ⟨w.heap.size, 1, none⟩ = some (.int .i64 m) := cell_of_row _ _ _ _ _ _ A1.out
    have A1_2 : V3.cell? ⟨w.heap.size, 2, none⟩ = some (.int .i64 s) := cell_of_row _ _ _ _ _ _ A1.out
    have A1_3 : V3.cell? ⟨w.heap.size, 3, none⟩ = some (.int .i64 n) := cell_of_row _ _ _ _ _ _ A1.out
    have C1_0 : V3.cell? ⟨w.heap.size + 1, 0, none⟩ = some (.int .i64 k) := cell_of_row _ _ _ _ _ _ C1.out
    have C1_1 : V3.cell? ⟨w.heap.size + 1, 1, none⟩ = some (.int .i64 i) := cell_of_row _ _ _ _ _ _ C1.out
    have C1_2 : V3.cell? ⟨w.heap.size + 1, 2, none⟩ = some (.int .i64 j) := cell_of_row _ _ _ _ _ _ C1.out
    have C1_3 : V3.cell? ⟨w.heap.size + 1, 3, none⟩ = some (.int .i64 o) := cell_of_row _ _ _ _ _ _ C1.out
    have zA1 := lt_of_heap A1.out
    have zC1 := lt_of_heap C1.out
    go_simp
    go_wp2
    go_ret
    exact ⟨rfl, by first | exact B3.out | exact B3.out.alloc B3.out.size _⟩
end Go.Proofs.YtpkbcnofieinaaaDoor
