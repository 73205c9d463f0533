/- The walks of layer 6's laws: months, days, dates, the order. -/
import Derived.Test.YtbphbkllbdoldaaDoorCivJ
namespace Go.Proofs.YtbphbkllbdoldaaDoor
set_option linter.unusedVariables false
set_option linter.unusedSimpArgs false
open Go.ChangeShapes Go.WideShapes Go.ChangeAt Go.RowKit

set_option maxHeartbeats 3200000 in
set_option maxRecDepth 100000 in
theorem civilMonths_walk (y m : Int) (w : World) (hM : MD w) : Calls Tryd.prog 3 #[.int .i64 y, .int .i64 m] w fun e w' => e = .returned (.bool true) ∧ Below w.heap.size w w' := by
  have H1 := Lib.hid (fun w => grow_of (pLeap_p y w))
  have H2 := Lib.hid (fun w => grow_of (rLeap_p y w))
  have H3 := Lib.hid (fun w h => grow_of (pMonthDays_p y m w h))
  have H4 := Lib.hid (fun w => grow_of (rMonthDays_p y m w))
  have H5 := Lib.hid awake6_any
  replace hM := Lib.hid hM
  generalize lpB y = L at *
  generalize mdI y m = M at *
  have f1 : (L == L) = true := by cases L <;> rfl
  go_enter Tryd.func3, Tryd.ntmps3
  go_wp2_with fail
  
  refine (H1.out _).mono ?_
  rintro e V1 ⟨rfl, hb1⟩
  have B1 : Hid (Below w.heap.size w V1) := by first | exact Lib.hid ((Below.refl w.heap.size w).trans (hb1.mono (by first | assumption | (simp <;> omega) | (simp; done)))) | exact Lib.hid (((Below.refl w.heap.size w).alloc (Nat.le_refl _) _).trans (hb1.mono (by first | assumption | (simp <;> omega) | (simp; done)))) | exact Lib.hid ((((Below.refl w.heap.size w).alloc (Nat.le_refl _) _).alloc (by simp <;> omega) _).trans (hb1.mono (by first | assumption | (simp <;> omega) | (simp; done)))) | exact Lib.hid (((((Below.refl w.heap.size w).alloc (Nat.le_refl _) _).alloc (by simp <;> omega) _).alloc (by simp <;> omega) _).trans (hb1.mono (by first | assumption | (simp <;> omega) | (simp; done))))
  clear hb1
  go_simp
  go_wp2_with fail
  refine (H2.out _).mono ?_
  rintro e V2 ⟨rfl, hb2⟩
  have B2 : Hid (Below w.heap.size w V2) := by first | exact Lib.hid ((B1.out).trans (hb2.mono (by have := B1.out.size; first | assumption | (simp <;> omega) | (simp; done)))) | exact Lib.hid (((B1.out).alloc (B1.out.size) _).trans (hb2.mono (by have := B1.out.size; first | assumption | (simp <;> omega) | (simp; done)))) | exact Lib.hid ((((B1.out).alloc (B1.out.size) _).alloc (by have := B1.out.size; simp <;> omega) _).trans (hb2.mono (by have := B1.out.size; first | assumption | (simp <;> omega) | (simp; done)))) | exact Lib.hid (((((B1.out).alloc (B1.out.size) _).alloc (by have := B1.out.size; simp <;> omega) _).alloc (by have := B1.out.size; simp <;> omega) _).trans (hb2.mono (by have := B1.out.size; first | assumption | (simp <;> omega) | (simp; done))))
  clear hb2
  go_simp
  go_wp2_with fail
  refine (H3.out _ (by first | exact md_keep hM (B2.out) | exact md_keep hM ((B2.out).alloc (B2.out.size) _) | exact md_keep hM (((B2.out).alloc (B2.out.size) _).alloc (by have := B2.out.size; simp <;> omega) _) | exact md_keep hM ((((B2.out).alloc (B2.out.size) _).alloc (by have := B2.out.size; simp <;> omega) _).alloc (by have := B2.out.size; simp <;> omega) _))).mono ?_
  rintro e V3 ⟨rfl, hb3⟩
  have B3 : Hid (Below w.heap.size w V3) := by first | exact Lib.hid ((B2.out).trans (hb3.mono (by have := B2.out.size; first | assumption | (simp <;> omega) | (simp; done)))) | exact Lib.hid (((B2.out).alloc (B2.out.size) _).trans (hb3.mono (by have := B2.out.size; first | assumption | (simp <;> omega) | (simp; done)))) | exact Lib.hid ((((B2.out).alloc (B2.out.size) _).alloc (by have := B2.out.size; simp <;> omega) _).trans (hb3.mono (by have := B2.out.size; first | assumption | (simp <;> omega) | (simp; done)))) | exact Lib.hid (((((B2.out).alloc (B2.out.size) _).alloc (by have := B2.out.size; simp <;> omega) _).alloc (by have := B2.out.size; simp <;> omega) _).trans (hb3.mono (by have := B2.out.size; first | assumption | (simp <;> omega) | (simp; done))))
  clear hb3
  go_simp
  go_wp2_with fail
  refine (H4.out _).mono ?_
  rintro e V4 ⟨rfl, hb4⟩
  have B4 : Hid (Below w.heap.size w V4) := by first | exact Lib.hid ((B3.out).trans (hb4.mono (by have := B3.out.size; first | assumption | (simp <;> omega) | (simp; done)))) | exact Lib.hid (((B3.out).alloc (B3.out.size) _).trans (hb4.mono (by have := B3.out.size; first | assumption | (simp <;> omega) | (simp; done)))) | exact Lib.hid ((((B3.out).alloc (B3.out.size) _).alloc (by have := B3.out.size; simp <;> omega) _).trans (hb4.mono (by have := B3.out.size; first | assumption | (simp <;> omega) | (simp; done)))) | exact Lib.hid (((((B3.out).alloc (B3.out.size) _).alloc (by have := B3.out.size; simp <;> omega) _).alloc (by have := B3.out.size; simp <;> omega) _).trans (hb4.mono (by have := B3.out.size; first | assumption | (simp <;> omega) | (simp; done))))
  clear hb4
  go_simp
  go_wp2_with fail
  refine (H5.out _ (by first | exact md_keep hM (B4.out) | exact md_keep hM ((B4.out).alloc (B4.out.size) _) | exact md_keep hM (((B4.out).alloc (B4.out.size) _).alloc (by have := B4.out.size; simp <;> omega) _) | exact md_keep hM ((((B4.out).alloc (B4.out.size) _).alloc (by have := B4.out.size; simp <;> omega) _).alloc (by have := B4.out.size; simp <;> omega) _))).mono ?_
  rintro e V5 ⟨rfl, hb5⟩
  have B5 : Hid (Below w.heap.size w V5) := by first | exact Lib.hid ((B4.out).trans (hb5.mono (by have := B4.out.size; first | assumption | (simp <;> omega) | (simp; done)))) | exact Lib.hid (((B4.out).alloc (B4.out.size) _).trans (hb5.mono (by have := B4.out.size; first | assumption | (simp <;> omega) | (simp; done)))) | exact Lib.hid ((((B4.out).alloc (B4.out.size) _).alloc (by have := B4.out.size; simp <;> omega) _).trans (hb5.mono (by have := B4.out.size; first | assumption | (simp <;> omega) | (simp; done)))) | exact Lib.hid (((((B4.out).alloc (B4.out.size) _).alloc (by have := B4.out.size; simp <;> omega) _).alloc (by have := B4.out.size; simp <;> omega) _).trans (hb5.mono (by have := B4.out.size; first | assumption | (simp <;> omega) | (simp; done))))
  clear hb5
  go_simp
  go_wp2
  go_ret
  exact ⟨rfl, by first | exact B5.out | exact B5.out.alloc B5.out.size _⟩
set_option maxHeartbeats 3200000 in
set_option maxRecDepth 100000 in
theorem civilDays_walk (y m d : Int) (w : World) (hM : MD w) : Calls Tryd.prog 4 #[.agg #[.int .i64 y, .int .i64 m, .int .i64 d]] w fun e w' => e = .returned (.bool true) ∧ Below w.heap.size w w' := by
  have H1 := Lib.hid (pDays_any y m d)
  have H2 := Lib.hid (rDays_any y m d)
  have H3 := Lib.hid (pOrdinal_any y m d)
  have H4 := Lib.hid (rOrdinal_any y m d)
  have H5 := Lib.hid (pCheck_any y m d)
  have H6 := Lib.hid (rCkC_any y m d)
  have H7 := Lib.hid awake6_any
  replace hM := Lib.hid hM
  generalize dyV y m d = A at *
  generalize orV y m d = B at *
  generalize ckC y m d = C at *
  go_enter Tryd.func4, Tryd.ntmps4
  go_wp2_with fail
  
  refine (H1.out _ (by first | exact md_keep hM ((Below.refl w.heap.size w).alloc (Nat.le_refl _) _))).mono ?_
  rintro e V1 ⟨rfl, hb1⟩
  have B1 := Lib.hid (((Below.refl w.heap.size w).alloc (Nat.le_refl _) _).trans (hb1.mono (by first | assumption | (simp <;> omega) | (simp; done))))
  have A1 := Lib.hid (row_call hb1 (heap_alloc_new _ _))
  clear hb1
  have A1_0 : V1.cell? ⟨w.heap.size, 0, none⟩ = some (.int .i64 y) := cell_of_row _ _ _ _ _ _ A1.out
  have A1_1 : V1.cell? ⟨w.heap.size, 1, none⟩ = some (.int .i64 m) := cell_of_row _ _ _ _ _ _ A1.out
  have A1_2 : V1.cell? ⟨w.heap.size, 2, none⟩ = some (.int .i64 d) := cell_of_row _ _ _ _ _ _ A1.out
  have zA1 := lt_of_heap A1.out
  go_simp
  go_wp2_with fail
  refine (H2.out _).mono ?_
  rintro e V2 ⟨rfl, hb2⟩
  clear A1_0 A1_1 A1_2 zA1
  have B2 : Hid (Below w.heap.size w V2) := by first | exact Lib.hid ((B1.out).trans (hb2.mono (by have := B1.out.size; first | assumption | (simp <;> omega) | (simp; done)))) | exact Lib.hid (((B1.out).alloc (B1.out.size) _).trans (hb2.mono (by have := B1.out.size; first | assumption | (simp <;> omega) | (simp; done)))) | exact Lib.hid ((((B1.out).alloc (B1.out.size) _).alloc (by have := B1.out.size; simp <;> omega) _).trans (hb2.mono (by have := B1.out.size; first | assumption | (simp <;> omega) | (simp; done)))) | exact Lib.hid (((((B1.out).alloc (B1.out.size) _).alloc (by have := B1.out.size; simp <;> omega) _).alloc (by have := B1.out.size; simp <;> omega) _).trans (hb2.mono (by have := B1.out.size; first | assumption | (simp <;> omega) | (simp; done))))
  first | replace A1 := Lib.hid (row_call hb2 A1.out) | replace A1 := Lib.hid (row_call hb2 (row_alloc A1.out _)) | replace A1 := Lib.hid (row_call hb2 (row_alloc (row_alloc A1.out _) _)) | replace A1 := Lib.hid (row_call hb2 (row_alloc (row_alloc (row_alloc A1.out _) _) _))
  clear hb2
  have A1_0 : V2.cell? ⟨w.heap.size, 0, none⟩ = some (.int .i64 y) := cell_of_row _ _ _ _ _ _ A1.out
  have A1_1 : V2.cell? ⟨w.heap.size, 1, none⟩ = some (.int .i64 m) := cell_of_row _ _ _ _ _ _ A1.out
  have A1_2 : V2.cell? ⟨w.heap.size, 2, none⟩ = some (.int .i64 d) := cell_of_row _ _ _ _ _ _ A1.out
  have zA1 := lt_of_heap A1.out
  go_simp
  go_wp2_with fail
  refine (H3.out _ (by first | exact md_keep hM (B2.out) | exact md_keep hM ((B2.out).alloc (B2.out.size) _) | exact md_keep hM (((B2.out).alloc (B2.out.size) _).alloc (by have := B2.out.size; simp <;> omega) _) | exact md_keep hM ((((B2.out).alloc (B2.out.size) _).alloc (by have := B2.out.size; simp <;> omega) _).alloc (by have := B2.out.size; simp <;> omega) _))).mono ?_
  rintro e V3 ⟨rfl, hb3⟩
  clear A1_0 A1_1 A1_2 zA1
  have B3 : Hid (Below w.heap.size w V3) := by first | exact Lib.hid ((B2.out).trans (hb3.mono (by have := B2.out.size; first | assumption | (simp <;> omega) | (simp; done)))) | exact Lib.hid (((B2.out).alloc (B2.out.size) _).trans (hb3.mono (by have := B2.out.size; first | assumption | (simp <;> omega) | (simp; done)))) | exact Lib.hid ((((B2.out).alloc (B2.out.size) _).alloc (by have := B2.out.size; simp <;> omega) _).trans (hb3.mono (by have := B2.out.size; first | assumption | (simp <;> omega) | (simp; done)))) | exact Lib.hid (((((B2.out).alloc (B2.out.size) _).alloc (by have := B2.out.size; simp <;> omega) _).alloc (by have := B2.out.size; simp <;> omega) _).trans (hb3.mono (by have := B2.out.size; first | assumption | (simp <;> omega) | (simp; done))))
  first | replace A1 := Lib.hid (row_call hb3 A1.out) | replace A1 := Lib.hid (row_call hb3 (row_alloc A1.out _)) | replace A1 := Lib.hid (row_call hb3 (row_alloc (row_alloc A1.out _) _)) | replace A1 := Lib.hid (row_call hb3 (row_alloc (row_alloc (row_alloc A1.out _) _) _))
  clear hb3
  have A1_0 : V3.cell? ⟨w.heap.size, 0, none⟩ = some (.int .i64 y) := cell_of_row _ _ _ _ _ _ A1.out
  have A1_1 : V3.cell? ⟨w.heap.size, 1, none⟩ = some (.int .i64 m) := cell_of_row _ _ _ _ _ _ A1.out
  have A1_2 : V3.cell? ⟨w.heap.size, 2, none⟩ = some (.int .i64 d) := cell_of_row _ _ _ _ _ _ A1.out
  have zA1 := lt_of_heap A1.out
  go_simp
  go_wp2_with fail
  refine (H4.out _).mono ?_
  rintro e V4 ⟨rfl, hb4⟩
  clear A1_0 A1_1 A1_2 zA1
  have B4 : Hid (Below w.heap.size w V4) := by first | exact Lib.hid ((B3.out).trans (hb4.mono (by have := B3.out.size; first | assumption | (simp <;> omega) | (simp; done)))) | exact Lib.hid (((B3.out).alloc (B3.out.size) _).trans (hb4.mono (by have := B3.out.size; first | assumption | (simp <;> omega) | (simp; done)))) | exact Lib.hid ((((B3.out).alloc (B3.out.size) _).alloc (by have := B3.out.size; simp <;> omega) _).trans (hb4.mono (by have := B3.out.size; first | assumption | (simp <;> omega) | (simp; done)))) | exact Lib.hid (((((B3.out).alloc (B3.out.size) _).alloc (by have := B3.out.size; simp <;> omega) _).alloc (by have := B3.out.size; simp <;> omega) _).trans (hb4.mono (by have := B3.out.size; first | assumption | (simp <;> omega) | (simp; done))))
  first | replace A1 := Lib.hid (row_call hb4 A1.out) | replace A1 := Lib.hid (row_call hb4 (row_alloc A1.out _)) | replace A1 := Lib.hid (row_call hb4 (row_alloc (row_alloc A1.out _) _)) | replace A1 := Lib.hid (row_call hb4 (row_alloc (row_alloc (row_alloc A1.out _) _) _))
  clear hb4
  have A1_0 : V4.cell? ⟨w.heap.size, 0, none⟩ = some (.int .i64 y) := cell_of_row _ _ _ _ _ _ A1.out
  have A1_1 : V4.cell? ⟨w.heap.size, 1, none⟩ = some (.int .i64 m) := cell_of_row _ _ _ _ _ _ A1.out
  have A1_2 : V4.cell? ⟨w.heap.size, 2, none⟩ = some (.int .i64 d) := cell_of_row _ _ _ _ _ _ A1.out
  have zA1 := lt_of_heap A1.out
  go_simp
  go_wp2_with fail
  obtain ⟨W0, hW0⟩ : ∃ W0, W0 = V4 := ⟨_, rfl⟩
  replace A1 := Lib.hid (row_by hW0 A1.out)
  clear A1_0 A1_1 A1_2 zA1
  have A1_0 : W0.cell? ⟨w.heap.size, 0, none⟩ = some (.int .i64 y) := cell_of_row _ _ _ _ _ _ A1.out
  have A1_1 : W0.cell? ⟨w.heap.size, 1, none⟩ = some (.int .i64 m) := cell_of_row _ _ _ _ _ _ A1.out
  have A1_2 : W0.cell? ⟨w.heap.size, 2, none⟩ = some (.int .i64 d) := cell_of_row _ _ _ _ _ _ A1.out
  have zA1 := lt_of_heap A1.out
  have HB0 := Lib.hid (below_by hW0 (B4.out))
  have zW0 := HB0.out.size
  have HW0 := Lib.hid hW0
  clear hW0
  try go_simp
  rw [← HW0.out]
  have hk0 : ∀ w2, Below W0.heap.size W0 w2 → w2.cell? ⟨w.heap.size, 0, none⟩ = some (.int .i64 y) := fun w2 hb => (by rw [hb.cell (p := ⟨w.heap.size, 0, none⟩) (by assumption)]; assumption)
  have hk1 : ∀ w2, Below W0.heap.size W0 w2 → w2.cell? ⟨w.heap.size, 1, none⟩ = some (.int .i64 m) := fun w2 hb => (by rw [hb.cell (p := ⟨w.heap.size, 1, none⟩) (by assumption)]; assumption)
  have hk2 : ∀ w2, Below W0.heap.size W0 w2 → w2.cell? ⟨w.heap.size, 2, none⟩ = some (.int .i64 d) := fun w2 hb => (by rw [hb.cell (p := ⟨w.heap.size, 2, none⟩) (by assumption)]; assumption)
  clear A1_0 A1_1 A1_2
  refine region_plan (S := fun w2 => Below W0.heap.size W0 w2) [(0, true), (1, true), (2, true), (3, true), (4, true), (5, true), (6, true), (7, true), (8, true), (9, true), (10, true), (11, true), (12, true), (13, true), (14, true), (15, true), (16, true), (17, true), (18, true), (19, true), (21, true), (20, false), (22, false), (23, true), (24, true), (25, true), (26, false), (27, true), (28, true)] (by as_aux_lemma => kernel_rfl) (by as_aux_lemma => kernel_rfl) (by as_aux_lemma => kernel_rfl) (by as_aux_lemma => kernel_rfl) (Below.refl W0.heap.size W0).drew ?_
  have Y0 := Lib.hid (Below.refl W0.heap.size W0).drew
  refine plan_yes (v := ?v1) (by simp only [List.getElem?_toArray, List.getElem?_cons_zero, List.getElem?_cons_succ]; exact rfl) (Or.inl ⟨by as_aux_lemma => rfl, ?hy1⟩) ?rest1
  case hy1 => (intro w2 hSw; (try dsimp only at hSw); go_simp; try with_reducible rfl)
  try simp only [Act.put, List.setIfInBounds_toArray, List.set_cons_zero, List.set_cons_succ]
  refine plan_yes (v := ?v2) (by simp only [List.getElem?_toArray, List.getElem?_cons_zero, List.getElem?_cons_succ]; exact rfl) (Or.inl ⟨by as_aux_lemma => rfl, ?hy2⟩) ?rest2
  case hy2 => (intro w2 hSw; (try dsimp only at hSw); go_simp; try with_reducible rfl)
  try simp only [Act.put, List.setIfInBounds_toArray, List.set_cons_zero, List.set_cons_succ]
  refine plan_yes (v := ?v3) (by simp only [List.getElem?_toArray, List.getElem?_cons_zero, List.getElem?_cons_succ]; exact rfl) (Or.inl ⟨by as_aux_lemma => rfl, ?hy3⟩) ?rest3
  case hy3 => (intro w2 hSw; (try dsimp only at hSw); go_simp; try with_reducible rfl)
  try simp only [Act.put, List.setIfInBounds_toArray, List.set_cons_zero, List.set_cons_succ]
  refine plan_yes (v := ?v4) (by simp only [List.getElem?_toArray, List.getElem?_cons_zero, List.getElem?_cons_succ]; exact rfl) (Or.inl ⟨by as_aux_lemma => rfl, ?hy4⟩) ?rest4
  case hy4 => (intro w2 hSw; (try dsimp only at hSw); go_simp; try with_reducible rfl)
  try simp only [Act.put, List.setIfInBounds_toArray, List.set_cons_zero, List.set_cons_succ]
  refine plan_yes (v := ?v5) (by simp only [List.getElem?_toArray, List.getElem?_cons_zero, List.getElem?_cons_succ]; exact rfl) (Or.inl ⟨by as_aux_lemma => rfl, ?hy5⟩) ?rest5
  case hy5 => (intro w2 hSw; (try dsimp only at hSw); go_simp; try with_reducible rfl)
  try simp only [Act.put, List.setIfInBounds_toArray, List.set_cons_zero, List.set_cons_succ]
  refine plan_yes (v := ?v6) (by simp only [List.getElem?_toArray, List.getElem?_cons_zero, List.getElem?_cons_succ]; exact rfl) (Or.inl ⟨by as_aux_lemma => rfl, ?hy6⟩) ?rest6
  case hy6 => (intro w2 hSw; (try dsimp only at hSw); go_simp; try with_reducible rfl)
  try simp only [Act.put, List.setIfInBounds_toArray, List.set_cons_zero, List.set_cons_succ]
  refine plan_yes (v := ?v7) (by simp only [List.getElem?_toArray, List.getElem?_cons_zero, List.getElem?_cons_succ]; exact rfl) (Or.inl ⟨by as_aux_lemma => rfl, ?hy7⟩) ?rest7
  case hy7 => (intro w2 hSw; (try dsimp only at hSw); go_simp; try with_reducible rfl)
  try simp only [Act.put, List.setIfInBounds_toArray, List.set_cons_zero, List.set_cons_succ]
  refine plan_yes (v := ?v8) (by simp only [List.getElem?_toArray, List.getElem?_cons_zero, List.getElem?_cons_succ]; exact rfl) (Or.inl ⟨by as_aux_lemma => rfl, ?hy8⟩) ?rest8
  case hy8 => (intro w2 hSw; (try dsimp only at hSw); go_simp; try with_reducible rfl)
  try simp only [Act.put, List.setIfInBounds_toArray, List.set_cons_zero, List.set_cons_succ]
  refine plan_yes (v := ?v9) (by simp only [List.getElem?_toArray, List.getElem?_cons_zero, List.getElem?_cons_succ]; exact rfl) (Or.inl ⟨by as_aux_lemma => rfl, ?hy9⟩) ?rest9
  case hy9 => (intro w2 hSw; (try dsimp only at hSw); go_simp; try with_reducible rfl)
  try simp only [Act.put, List.setIfInBounds_toArray, List.set_cons_zero, List.set_cons_succ]
  refine plan_yes (v := ?v10) (by simp only [List.getElem?_toArray, List.getElem?_cons_zero, List.getElem?_cons_succ]; exact rfl) (Or.inl ⟨by as_aux_lemma => rfl, ?hy10⟩) ?rest10
  case hy10 => (intro w2 hSw; (try dsimp only at hSw); go_simp; try with_reducible rfl)
  try simp only [Act.put, List.setIfInBounds_toArray, List.set_cons_zero, List.set_cons_succ]
  refine plan_yes (v := ?v11) (by simp only [List.getElem?_toArray, List.getElem?_cons_zero, List.getElem?_cons_succ]; exact rfl) (Or.inl ⟨by as_aux_lemma => rfl, ?hy11⟩) ?rest11
  case hy11 => (intro w2 hSw; (try dsimp only at hSw); go_simp; try with_reducible rfl)
  try simp only [Act.put, List.setIfInBounds_toArray, List.set_cons_zero, List.set_cons_succ]
  refine plan_yes (v := ?v12) (by simp only [List.getElem?_toArray, List.getElem?_cons_zero, List.getElem?_cons_succ]; exact rfl) (Or.inl ⟨by as_aux_lemma => rfl, ?hy12⟩) ?rest12
  case hy12 => (intro w2 hSw; (try dsimp only at hSw); go_simp; try with_reducible rfl)
  try simp only [Act.put, List.setIfInBounds_toArray, List.set_cons_zero, List.set_cons_succ]
  refine plan_yes (v := ?v13) (by simp only [List.getElem?_toArray, List.getElem?_cons_zero, List.getElem?_cons_succ]; exact rfl) (Or.inl ⟨by as_aux_lemma => rfl, ?hy13⟩) ?rest13
  case hy13 => (intro w2 hSw; (try dsimp only at hSw); go_simp; try with_reducible rfl)
  try simp only [Act.put, List.setIfInBounds_toArray, List.set_cons_zero, List.set_cons_succ]
  refine plan_yes (v := ?v14) (by simp only [List.getElem?_toArray, List.getElem?_cons_zero, List.getElem?_cons_succ]; exact rfl) (Or.inl ⟨by as_aux_lemma => rfl, ?hy14⟩) ?rest14
  case hy14 => (intro w2 hSw; (try dsimp only at hSw); go_simp; try with_reducible rfl)
  try simp only [Act.put, List.setIfInBounds_toArray, List.set_cons_zero, List.set_cons_succ]
  refine plan_yes (v := ?v15) (by simp only [List.getElem?_toArray, List.getElem?_cons_zero, List.getElem?_cons_succ]; exact rfl) (Or.inl ⟨by as_aux_lemma => rfl, ?hy15⟩) ?rest15
  case hy15 => (intro w2 hSw; (try dsimp only at hSw); go_simp; try with_reducible rfl)
  try simp only [Act.put, List.setIfInBounds_toArray, List.set_cons_zero, List.set_cons_succ]
  refine plan_yes (v := ?v16) (by simp only [List.getElem?_toArray, List.getElem?_cons_zero, List.getElem?_cons_succ]; exact rfl) (Or.inl ⟨by as_aux_lemma => rfl, ?hy16⟩) ?rest16
  case hy16 => (intro w2 hSw; (try dsimp only at hSw); go_simp; try with_reducible rfl)
  try simp only [Act.put, List.setIfInBounds_toArray, List.set_cons_zero, List.set_cons_succ]
  refine plan_yes (v := ?v17) (by simp only [List.getElem?_toArray, List.getElem?_cons_zero, List.getElem?_cons_succ]; exact rfl) (Or.inl ⟨by as_aux_lemma => rfl, ?hy17⟩) ?rest17
  case hy17 => (intro w2 hSw; (try dsimp only at hSw); go_simp; try with_reducible rfl)
  try simp only [Act.put, List.setIfInBounds_toArray, List.set_cons_zero, List.set_cons_succ]
  refine plan_yes (v := ?v18) (by simp only [List.getElem?_toArray, List.getElem?_cons_zero, List.getElem?_cons_succ]; exact rfl) (Or.inl ⟨by as_aux_lemma => rfl, ?hy18⟩) ?rest18
  case hy18 => (intro w2 hSw; (try dsimp only at hSw); go_simp; try with_reducible rfl)
  try simp only [Act.put, List.setIfInBounds_toArray, List.set_cons_zero, List.set_cons_succ]
  refine plan_yes (v := ?v19) (by simp only [List.getElem?_toArray, List.getElem?_cons_zero, List.getElem?_cons_succ]; exact rfl) (Or.inl ⟨by as_aux_lemma => rfl, ?hy19⟩) ?rest19
  case hy19 => (intro w2 hSw; (try dsimp only at hSw); go_simp; try with_reducible rfl)
  try simp only [Act.put, List.setIfInBounds_toArray, List.set_cons_zero, List.set_cons_succ]
  refine plan_yes (v := ?v20) (by simp only [List.getElem?_toArray, List.getElem?_cons_zero, List.getElem?_cons_succ]; exact rfl) (Or.inl ⟨by as_aux_lemma => rfl, ?hy20⟩) ?rest20
  case hy20 => (intro w2 hSw; (try dsimp only at hSw); go_simp; try with_reducible rfl)
  try simp only [Act.put, List.setIfInBounds_toArray, List.set_cons_zero, List.set_cons_succ]
  refine plan_yes (v := ?v21) (by simp only [List.getElem?_toArray, List.getElem?_cons_zero, List.getElem?_cons_succ]; exact rfl) (Or.inl ⟨by as_aux_lemma => rfl, ?hy21⟩) ?rest21
  case hy21 => (intro w2 hSw; (try dsimp only at hSw); go_simp; try with_reducible rfl)
  try simp only [Act.put, List.setIfInBounds_toArray, List.set_cons_zero, List.set_cons_succ]
  refine plan_calls (by simp only [List.getElem?_toArray, List.getElem?_cons_zero, List.getElem?_cons_succ]; exact rfl) (by as_aux_lemma => rfl) (fun K hK => ?_)
  go_simp
  refine (H5.out _ (md_keep (Lib.hid (md_keep hM HB0.out)) Y0.out)).mono ?_
  rintro e Y1w ⟨rfl, hb1⟩
  have Y1 := Lib.hid (keepS (W0 := W0) Y0.out hb1)
  clear hb1
  refine hK.out _ _ Y1.out ?_
  clear hK K
  try simp only [Act.put, List.setIfInBounds_toArray, List.set_cons_zero, List.set_cons_succ]
  as_aux_lemma =>
   refine plan_calls (by simp only [List.getElem?_toArray, List.getElem?_cons_zero, List.getElem?_cons_succ]; exact rfl) (by as_aux_lemma => rfl) (fun K hK => ?_)
   go_simp
   refine (H6.out _).mono ?_
   rintro e Y2w ⟨rfl, hb1⟩
   have Y2 := Lib.hid (keepS (W0 := W0) Y1.out hb1)
   clear hb1
   refine hK.out _ _ Y2.out ?_
   clear hK K
   try simp only [Act.put, List.setIfInBounds_toArray, List.set_cons_zero, List.set_cons_succ]
   as_aux_lemma =>
    refine plan_yes (v := ?v22) (by simp only [List.getElem?_toArray, List.getElem?_cons_zero, List.getElem?_cons_succ]; exact rfl) (Or.inl ⟨by as_aux_lemma => rfl, ?hy22⟩) ?rest22
    case hy22 => (intro w2 hSw; (try dsimp only at hSw); go_simp; try with_reducible rfl)
    try simp only [Act.put, List.setIfInBounds_toArray, List.set_cons_zero, List.set_cons_succ]
    refine plan_yes (v := ?v23) (by simp only [List.getElem?_toArray, List.getElem?_cons_zero, List.getElem?_cons_succ]; exact rfl) (Or.inl ⟨by as_aux_lemma => rfl, ?hy23⟩) ?rest23
    case hy23 => (intro w2 hSw; (try dsimp only at hSw); go_simp; try with_reducible rfl)
    try simp only [Act.put, List.setIfInBounds_toArray, List.set_cons_zero, List.set_cons_succ]
    refine plan_yes (v := ?v24) (by simp only [List.getElem?_toArray, List.getElem?_cons_zero, List.getElem?_cons_succ]; exact rfl) (Or.inl ⟨by as_aux_lemma => rfl, ?hy24⟩) ?rest24
    case hy24 => (intro w2 hSw; (try dsimp only at hSw); go_simp; try with_reducible rfl)
    try simp only [Act.put, List.setIfInBounds_toArray, List.set_cons_zero, List.set_cons_succ]
    refine plan_calls (by simp only [List.getElem?_toArray, List.getElem?_cons_zero, List.getElem?_cons_succ]; exact rfl) (by as_aux_lemma => rfl) (fun K hK => ?_)
    go_simp
    refine (H7.out _ (md_keep (Lib.hid (md_keep hM HB0.out)) Y2.out)).mono ?_
    rintro e Y3w ⟨rfl, hb1⟩
    have Y3 := Lib.hid (keepS (W0 := W0) Y2.out hb1)
    clear hb1
    refine hK.out _ _ Y3.out ?_
    clear hK K
    try simp only [Act.put, List.setIfInBounds_toArray, List.set_cons_zero, List.set_cons_succ]
    as_aux_lemma =>
     refine plan_yes (v := ?v25) (by simp only [List.getElem?_toArray, List.getElem?_cons_zero, List.getElem?_cons_succ]; exact rfl) (Or.inl ⟨by as_aux_lemma => rfl, ?hy25⟩) ?rest25
     case hy25 => (intro w2 hSw; (try dsimp only at hSw); go_simp; try with_reducible rfl)
     try simp only [Act.put, List.setIfInBounds_toArray, List.set_cons_zero, List.set_cons_succ]
     refine plan_yes (v := ?v26) (by simp only [List.getElem?_toArray, List.getElem?_cons_zero, List.getElem?_cons_succ]; exact rfl) (Or.inl ⟨by as_aux_lemma => rfl, ?hy26⟩) ?rest26
     case hy26 => (intro w2 hSw; (try dsimp only at hSw); go_simp; try with_reducible rfl)
     try simp only [Act.put, List.setIfInBounds_toArray, List.set_cons_zero, List.set_cons_succ]
     refine plan_done (NoPanic.normal ?_)
     have B0 := Y3.out
     have BW := Lib.hid (HB0.out.trans (B0.mono zW0))
     go_simp
     go_wp2
     go_ret
     exact ⟨rfl, BW.out⟩
set_option maxHeartbeats 3200000 in
set_option maxRecDepth 100000 in
theorem civilDates_walk (n y k : Int) (b1 : -9223372036854775808 ≤ k) (b2 : k < 9223372036854775808) (w : World) (hM : MD w) : Calls Tryd.prog 5 #[.int .i64 n, .int .i64 y, .int .i64 k] w fun e w' => e = .returned (.bool true) ∧ Below w.heap.size w w' := by
  obtain ⟨Y, M, D, E, X1, X2⟩ := dateOf_both n
  obtain ⟨Y', M', D', E', X3, X4⟩ := ofOrd_both y k b1 b2
  have H1 := Lib.hid X1
  have H2 := Lib.hid X2
  have H3 := Lib.hid X3
  have H4 := Lib.hid X4
  have H5 := Lib.hid (fun w => grow_of (pWeekday_p n w))
  have H6 := Lib.hid (fun w => grow_of (rWeekday_p n w))
  have H7 := Lib.hid awake6_any
  replace hM := Lib.hid hM
  clear X1 X2 X3 X4 b1 b2
  generalize wdI n = W at *
  go_enter Tryd.func5, Tryd.ntmps5
  go_wp2_with fail
  
  refine (H1.out _ (by first | exact md_keep hM (Below.refl w.heap.size w) | exact md_keep hM ((Below.refl w.heap.size w).alloc (Nat.le_refl _) _) | exact md_keep hM (((Below.refl w.heap.size w).alloc (Nat.le_refl _) _).alloc (by simp <;> omega) _) | exact md_keep hM ((((Below.refl w.heap.size w).alloc (Nat.le_refl _) _).alloc (by simp <;> omega) _).alloc (by simp <;> omega) _))).mono ?_
  rintro e V1 ⟨rfl, hb1⟩
  have B1 : Hid (Below w.heap.size w V1) := by first | exact Lib.hid ((Below.refl w.heap.size w).trans (hb1.mono (by first | assumption | (simp <;> omega) | (simp; done)))) | exact Lib.hid (((Below.refl w.heap.size w).alloc (Nat.le_refl _) _).trans (hb1.mono (by first | assumption | (simp <;> omega) | (simp; done)))) | exact Lib.hid ((((Below.refl w.heap.size w).alloc (Nat.le_refl _) _).alloc (by simp <;> omega) _).trans (hb1.mono (by first | assumption | (simp <;> omega) | (simp; done)))) | exact Lib.hid (((((Below.refl w.heap.size w).alloc (Nat.le_refl _) _).alloc (by simp <;> omega) _).alloc (by simp <;> omega) _).trans (hb1.mono (by first | assumption | (simp <;> omega) | (simp; done))))
  clear hb1
  go_simp
  go_wp2_with fail
  refine (H2.out _).mono ?_
  rintro e V2 ⟨rfl, hb2⟩
  have B2 := Lib.hid (((B1.out).alloc (B1.out.size) _).trans (hb2.mono (by have := B1.out.size; first | assumption | (simp <;> omega) | (simp; done))))
  have I1 := Lib.hid (row_call hb2 (heap_alloc_new _ _))
  clear hb2
  have I1_0 : V2.cell? ⟨V1.heap.size, 0, none⟩ = some (.int .i64 Y) := cell_of_row _ _ _ _ _ _ I1.out
  have I1_1 : V2.cell? ⟨V1.heap.size, 1, none⟩ = some (.int .i64 M) := cell_of_row _ _ _ _ _ _ I1.out
  have I1_2 : V2.cell? ⟨V1.heap.size, 2, none⟩ = some (.int .i64 D) := cell_of_row _ _ _ _ _ _ I1.out
  have zI1 := lt_of_heap I1.out
  go_simp
  go_wp2_with fail
  refine (H3.out _ (by first | exact md_keep hM ((B2.out).alloc (B2.out.size) _))).mono ?_
  rintro e V3 ⟨rfl, hb3⟩
  clear I1_0 I1_1 I1_2 zI1
  have nI1J1 := Lib.hid (lt_of_heap I1.out)
  have B3 := Lib.hid (((B2.out).alloc (B2.out.size) _).trans (hb3.mono (by have := B2.out.size; first | assumption | (simp <;> omega) | (simp; done))))
  replace I1 := Lib.hid (row_call hb3 (row_alloc I1.out _))
  have J1 := Lib.hid (row_call hb3 (heap_alloc_new _ _))
  clear hb3
  have I1_0 : V3.cell? ⟨V1.heap.size, 0, none⟩ = some (.int .i64 Y) := cell_of_row _ _ _ _ _ _ I1.out
  have I1_1 : V3.cell? ⟨V1.heap.size, 1, none⟩ = some (.int .i64 M) := cell_of_row _ _ _ _ _ _ I1.out
  have I1_2 : V3.cell? ⟨V1.heap.size, 2, none⟩ = some (.int .i64 D) := cell_of_row _ _ _ _ _ _ I1.out
  have J1_0 : V3.cell? ⟨V2.heap.size, 0, none⟩ = some (.int .i64 Y) := cell_of_row _ _ _ _ _ _ J1.out
  have J1_1 : V3.cell? ⟨V2.heap.size, 1, none⟩ = some (.int .i64 M) := cell_of_row _ _ _ _ _ _ J1.out
  have J1_2 : V3.cell? ⟨V2.heap.size, 2, none⟩ = some (.int .i64 D) := cell_of_row _ _ _ _ _ _ J1.out
  have zI1 := lt_of_heap I1.out
  have zJ1 := lt_of_heap J1.out
  go_simp
  go_wp2_with fail
  refine (H4.out _).mono ?_
  rintro e V4 ⟨rfl, hb4⟩
  clear I1_0 I1_1 I1_2 zI1 J1_0 J1_1 J1_2 zJ1
  have nI1K1 := Lib.hid (lt_of_heap I1.out)
  have nJ1K1 := Lib.hid (lt_of_heap J1.out)
  have B4 := Lib.hid (((B3.out).alloc (B3.out.size) _).trans (hb4.mono (by have := B3.out.size; first | assumption | (simp <;> omega) | (simp; done))))
  replace I1 := Lib.hid (row_call hb4 (row_alloc I1.out _))
  replace J1 := Lib.hid (row_call hb4 (row_alloc J1.out _))
  have K1 := Lib.hid (row_call hb4 (heap_alloc_new _ _))
  clear hb4
  have I1_0 : V4.cell? ⟨V1.heap.size, 0, none⟩ = some (.int .i64 Y) := cell_of_row _ _ _ _ _ _ I1.out
  have I1_1 : V4.cell? ⟨V1.heap.size, 1, none⟩ = some (.int .i64 M) := cell_of_row _ _ _ _ _ _ I1.out
  have I1_2 : V4.cell? ⟨V1.heap.size, 2, none⟩ = some (.int .i64 D) := cell_of_row _ _ _ _ _ _ I1.out
  have J1_0 : V4.cell? ⟨V2.heap.size, 0, none⟩ = some (.int .i64 Y) := cell_of_row _ _ _ _ _ _ J1.out
  have J1_1 : V4.cell? ⟨V2.heap.size, 1, none⟩ = some (.int .i64 M) := cell_of_row _ _ _ _ _ _ J1.out
  have J1_2 : V4.cell? ⟨V2.heap.size, 2, none⟩ = some (.int .i64 D) := cell_of_row _ _ _ _ _ _ J1.out
  have K1_0 : V4.cell? ⟨V3.heap.size, 0, none⟩ = some (.int .i64 Y') := cell_of_row _ _ _ _ _ _ K1.out
  have K1_1 : V4.cell? ⟨V3.heap.size, 1, none⟩ = some (.int .i64 M') := cell_of_row _ _ _ _ _ _ K1.out
  have K1_2 : V4.cell? ⟨V3.heap.size, 2, none⟩ = some (.int .i64 D') := cell_of_row _ _ _ _ _ _ K1.out
  have zI1 := lt_of_heap I1.out
  have zJ1 := lt_of_heap J1.out
  have zK1 := lt_of_heap K1.out
  go_simp
  go_wp2_with fail
  refine (H5.out _).mono ?_
  rintro e V5 ⟨rfl, hb5⟩
  clear I1_0 I1_1 I1_2 zI1 J1_0 J1_1 J1_2 zJ1 K1_0 K1_1 K1_2 zK1
  have nI1L1 := Lib.hid (lt_of_heap I1.out)
  have nJ1L1 := Lib.hid (lt_of_heap J1.out)
  have nK1L1 := Lib.hid (lt_of_heap K1.out)
  have B5 := Lib.hid (((B4.out).alloc (B4.out.size) _).trans (hb5.mono (by have := B4.out.size; first | assumption | (simp <;> omega) | (simp; done))))
  replace I1 := Lib.hid (row_call hb5 (row_alloc I1.out _))
  replace J1 := Lib.hid (row_call hb5 (row_alloc J1.out _))
  replace K1 := Lib.hid (row_call hb5 (row_alloc K1.out _))
  have L1 := Lib.hid (row_call hb5 (heap_alloc_new _ _))
  clear hb5
  have I1_0 : V5.cell? ⟨V1.heap.size, 0, none⟩ = some (.int .i64 Y) := cell_of_row _ _ _ _ _ _ I1.out
  have I1_1 : V5.cell? ⟨V1.heap.size, 1, none⟩ = some (.int .i64 M) := cell_of_row _ _ _ _ _ _ I1.out
  have I1_2 : V5.cell? ⟨V1.heap.size, 2, none⟩ = some (.int .i64 D) := cell_of_row _ _ _ _ _ _ I1.out
  have J1_0 : V5.cell? ⟨V2.heap.size, 0, none⟩ = some (.int .i64 Y) := cell_of_row _ _ _ _ _ _ J1.out
  have J1_1 : V5.cell? ⟨V2.heap.size, 1, none⟩ = some (.int .i64 M) := cell_of_row _ _ _ _ _ _ J1.out
  have J1_2 : V5.cell? ⟨V2.heap.size, 2, none⟩ = some (.int .i64 D) := cell_of_row _ _ _ _ _ _ J1.out
  have K1_0 : V5.cell? ⟨V3.heap.size, 0, none⟩ = some (.int .i64 Y') := cell_of_row _ _ _ _ _ _ K1.out
  have K1_1 : V5.cell? ⟨V3.heap.size, 1, none⟩ = some (.int .i64 M') := cell_of_row _ _ _ _ _ _ K1.out
  have K1_2 : V5.cell? ⟨V3.heap.size, 2, none⟩ = some (.int .i64 D') := cell_of_row _ _ _ _ _ _ K1.out
  have L1_0 : V5.cell? ⟨V4.heap.size, 0, none⟩ = some (.int .i64 Y') := cell_of_row _ _ _ _ _ _ L1.out
  have L1_1 : V5.cell? ⟨V4.heap.size, 1, none⟩ = some (.int .i64 M') := cell_of_row _ _ _ _ _ _ L1.out
  have L1_2 : V5.cell? ⟨V4.heap.size, 2, none⟩ = some (.int .i64 D') := cell_of_row _ _ _ _ _ _ L1.out
  have zI1 := lt_of_heap I1.out
  have zJ1 := lt_of_heap J1.out
  have zK1 := lt_of_heap K1.out
  have zL1 := lt_of_heap L1.out
  go_simp
  go_wp2_with fail
  refine (H6.out _).mono ?_
  rintro e V6 ⟨rfl, hb6⟩
  clear I1_0 I1_1 I1_2 zI1 J1_0 J1_1 J1_2 zJ1 K1_0 K1_1 K1_2 zK1 L1_0 L1_1 L1_2 zL1
  have B6 : Hid (Below w.heap.size w V6) := by first | exact Lib.hid ((B5.out).trans (hb6.mono (by have := B5.out.size; first | assumption | (simp <;> omega) | (simp; done)))) | exact Lib.hid (((B5.out).alloc (B5.out.size) _).trans (hb6.mono (by have := B5.out.size; first | assumption | (simp <;> omega) | (simp; done)))) | exact Lib.hid ((((B5.out).alloc (B5.out.size) _).alloc (by have := B5.out.size; simp <;> omega) _).trans (hb6.mono (by have := B5.out.size; first | assumption | (simp <;> omega) | (simp; done)))) | exact Lib.hid (((((B5.out).alloc (B5.out.size) _).alloc (by have := B5.out.size; simp <;> omega) _).alloc (by have := B5.out.size; simp <;> omega) _).trans (hb6.mono (by have := B5.out.size; first | assumption | (simp <;> omega) | (simp; done))))
  first | replace I1 := Lib.hid (row_call hb6 I1.out) | replace I1 := Lib.hid (row_call hb6 (row_alloc I1.out _)) | replace I1 := Lib.hid (row_call hb6 (row_alloc (row_alloc I1.out _) _)) | replace I1 := Lib.hid (row_call hb6 (row_alloc (row_alloc (row_alloc I1.out _) _) _))
  first | replace J1 := Lib.hid (row_call hb6 J1.out) | replace J1 := Lib.hid (row_call hb6 (row_alloc J1.out _)) | replace J1 := Lib.hid (row_call hb6 (row_alloc (row_alloc J1.out _) _)) | replace J1 := Lib.hid (row_call hb6 (row_alloc (row_alloc (row_alloc J1.out _) _) _))
  first | replace K1 := Lib.hid (row_call hb6 K1.out) | replace K1 := Lib.hid (row_call hb6 (row_alloc K1.out _)) | replace K1 := Lib.hid (row_call hb6 (row_alloc (row_alloc K1.out _) _)) | replace K1 := Lib.hid (row_call hb6 (row_alloc (row_alloc (row_alloc K1.out _) _) _))
  first | replace L1 := Lib.hid (row_call hb6 L1.out) | replace L1 := Lib.hid (row_call hb6 (row_alloc L1.out _)) | replace L1 := Lib.hid (row_call hb6 (row_alloc (row_alloc L1.out _) _)) | replace L1 := Lib.hid (row_call hb6 (row_alloc (row_alloc (row_alloc L1.out _) _) _))
  clear hb6
  have I1_0 : V6.cell? ⟨V1.heap.size, 0, none⟩ = some (.int .i64 Y) := cell_of_row _ _ _ _ _ _ I1.out
  have I1_1 : V6.cell? ⟨V1.heap.size, 1, none⟩ = some (.int .i64 M) := cell_of_row _ _ _ _ _ _ I1.out
  have I1_2 : V6.cell? ⟨V1.heap.size, 2, none⟩ = some (.int .i64 D) := cell_of_row _ _ _ _ _ _ I1.out
  have J1_0 : V6.cell? ⟨V2.heap.size, 0, none⟩ = some (.int .i64 Y) := cell_of_row _ _ _ _ _ _ J1.out
  have J1_1 : V6.cell? ⟨V2.heap.size, 1, none⟩ = some (.int .i64 M) := cell_of_row _ _ _ _ _ _ J1.out
  have J1_2 : V6.cell? ⟨V2.heap.size, 2, none⟩ = some (.int .i64 D) := cell_of_row _ _ _ _ _ _ J1.out
  have K1_0 : V6.cell? ⟨V3.heap.size, 0, none⟩ = some (.int .i64 Y') := cell_of_row _ _ _ _ _ _ K1.out
  have K1_1 : V6.cell? ⟨V3.heap.size, 1, none⟩ = some (.int .i64 M') := cell_of_row _ _ _ _ _ _ K1.out
  have K1_2 : V6.cell? ⟨V3.heap.size, 2, none⟩ = some (.int .i64 D') := cell_of_row _ _ _ _ _ _ K1.out
  have L1_0 : V6.cell? ⟨V4.heap.size, 0, none⟩ = some (.int .i64 Y') := cell_of_row _ _ _ _ _ _ L1.out
  have L1_1 : V6.cell? ⟨V4.heap.size, 1, none⟩ = some (.int .i64 M') := cell_of_row _ _ _ _ _ _ L1.out
  have L1_2 : V6.cell? ⟨V4.heap.size, 2, none⟩ = some (.int .i64 D') := cell_of_row _ _ _ _ _ _ L1.out
  have zI1 := lt_of_heap I1.out
  have zJ1 := lt_of_heap J1.out
  have zK1 := lt_of_heap K1.out
  have zL1 := lt_of_heap L1.out
  go_simp
  go_wp2_with fail
  refine (H7.out _ (by first | exact md_keep hM (B6.out) | exact md_keep hM ((B6.out).alloc (B6.out.size) _) | exact md_keep hM (((B6.out).alloc (B6.out.size) _).alloc (by have := B6.out.size; simp <;> omega) _) | exact md_keep hM ((((B6.out).alloc (B6.out.size) _).alloc (by have := B6.out.size; simp <;> omega) _).alloc (by have := B6.out.size; simp <;> omega) _))).mono ?_
  rintro e V7 ⟨rfl, hb7⟩
  clear I1_0 I1_1 I1_2 zI1 J1_0 J1_1 J1_2 zJ1 K1_0 K1_1 K1_2 zK1 L1_0 L1_1 L1_2 zL1
  have B7 : Hid (Below w.heap.size w V7) := by first | exact Lib.hid ((B6.out).trans (hb7.mono (by have := B6.out.size; first | assumption | (simp <;> omega) | (simp; done)))) | exact Lib.hid (((B6.out).alloc (B6.out.size) _).trans (hb7.mono (by have := B6.out.size; first | assumption | (simp <;> omega) | (simp; done)))) | exact Lib.hid ((((B6.out).alloc (B6.out.size) _).alloc (by have := B6.out.size; simp <;> omega) _).trans (hb7.mono (by have := B6.out.size; first | assumption | (simp <;> omega) | (simp; done)))) | exact Lib.hid (((((B6.out).alloc (B6.out.size) _).alloc (by have := B6.out.size; simp <;> omega) _).alloc (by have := B6.out.size; simp <;> omega) _).trans (hb7.mono (by have := B6.out.size; first | assumption | (simp <;> omega) | (simp; done))))
  first | replace I1 := Lib.hid (row_call hb7 I1.out) | replace I1 := Lib.hid (row_call hb7 (row_alloc I1.out _)) | replace I1 := Lib.hid (row_call hb7 (row_alloc (row_alloc I1.out _) _)) | replace I1 := Lib.hid (row_call hb7 (row_alloc (row_alloc (row_alloc I1.out _) _) _))
  first | replace J1 := Lib.hid (row_call hb7 J1.out) | replace J1 := Lib.hid (row_call hb7 (row_alloc J1.out _)) | replace J1 := Lib.hid (row_call hb7 (row_alloc (row_alloc J1.out _) _)) | replace J1 := Lib.hid (row_call hb7 (row_alloc (row_alloc (row_alloc J1.out _) _) _))
  first | replace K1 := Lib.hid (row_call hb7 K1.out) | replace K1 := Lib.hid (row_call hb7 (row_alloc K1.out _)) | replace K1 := Lib.hid (row_call hb7 (row_alloc (row_alloc K1.out _) _)) | replace K1 := Lib.hid (row_call hb7 (row_alloc (row_alloc (row_alloc K1.out _) _) _))
  first | replace L1 := Lib.hid (row_call hb7 L1.out) | replace L1 := Lib.hid (row_call hb7 (row_alloc L1.out _)) | replace L1 := Lib.hid (row_call hb7 (row_alloc (row_alloc L1.out _) _)) | replace L1 := Lib.hid (row_call hb7 (row_alloc (row_alloc (row_alloc L1.out _) _) _))
  clear hb7
  have I1_0 : V7.cell? ⟨V1.heap.size, 0, none⟩ = some (.int .i64 Y) := cell_of_row _ _ _ _ _ _ I1.out
  have I1_1 : V7.cell? ⟨V1.heap.size, 1, none⟩ = some (.int .i64 M) := cell_of_row _ _ _ _ _ _ I1.out
  have I1_2 : V7.cell? ⟨V1.heap.size, 2, none⟩ = some (.int .i64 D) := cell_of_row _ _ _ _ _ _ I1.out
  have J1_0 : V7.cell? ⟨V2.heap.size, 0, none⟩ = some (.int .i64 Y) := cell_of_row _ _ _ _ _ _ J1.out
  have J1_1 : V7.cell? ⟨V2.heap.size, 1, none⟩ = some (.int .i64 M) := cell_of_row _ _ _ _ _ _ J1.out
  have J1_2 : V7.cell? ⟨V2.heap.size, 2, none⟩ = some (.int .i64 D) := cell_of_row _ _ _ _ _ _ J1.out
  have K1_0 : V7.cell? ⟨V3.heap.size, 0, none⟩ = some (.int .i64 Y') := cell_of_row _ _ _ _ _ _ K1.out
  have K1_1 : V7.cell? ⟨V3.heap.size, 1, none⟩ = some (.int .i64 M') := cell_of_row _ _ _ _ _ _ K1.out
  have K1_2 : V7.cell? ⟨V3.heap.size, 2, none⟩ = some (.int .i64 D') := cell_of_row _ _ _ _ _ _ K1.out
  have L1_0 : V7.cell? ⟨V4.heap.size, 0, none⟩ = some (.int .i64 Y') := cell_of_row _ _ _ _ _ _ L1.out
  have L1_1 : V7.cell? ⟨V4.heap.size, 1, none⟩ = some (.int .i64 M') := cell_of_row _ _ _ _ _ _ L1.out
  have L1_2 : V7.cell? ⟨V4.heap.size, 2, none⟩ = some (.int .i64 D') := cell_of_row _ _ _ _ _ _ L1.out
  have zI1 := lt_of_heap I1.out
  have zJ1 := lt_of_heap J1.out
  have zK1 := lt_of_heap K1.out
  have zL1 := lt_of_heap L1.out
  go_simp
  go_wp2
  go_ret
  exact ⟨rfl, by first | exact B7.out | exact B7.out.alloc B7.out.size _⟩
theorem dy_dn {y m d : Int} (h : ckC y m d = 0) : dyV y m d = dnI y m d := (dy_ok h).1
set_option maxHeartbeats 6400000 in
set_option maxRecDepth 100000 in
theorem civilOrder_walk (y m d y' m' d' : Int) (w : World) (hM : MD w) : Calls Tryd.prog 7 #[.agg #[.int .i64 y, .int .i64 m, .int .i64 d], .agg #[.int .i64 y', .int .i64 m', .int .i64 d']] w fun e w' => e = .returned (.bool true) ∧ Below w.heap.size w w' := by
  have H1 := Lib.hid (pCmp_any y m d y' m' d')
  have H2 := Lib.hid (rCmp6_any y m d y' m' d')
  have X3 := pDays_any y m d
  have X4 := pDays_any y' m' d'
  have H7 := Lib.hid awake6_any
  replace hM := Lib.hid hM
  by_cases h1 : ckC y m d = 0
  · by_cases h2 : ckC y' m' d' = 0
    · have m1 := (of_ckC h1).1
      have m2 := (of_ckC h2).1
      have K : (dnI y m d < dnI y' m' d' ∧ ord3 y m d y' m' d' = -1) ∨ (dnI y' m' d' < dnI y m d ∧ ord3 y m d y' m' d' = 1) ∨ (dnI y m d = dnI y' m' d' ∧ ord3 y m d y' m' d' = 0) := by
        rcases ord3_three y m d y' m' d' with h | h | ⟨rfl, rfl, rfl⟩
        · exact Or.inl ⟨dn_lt m1 m2 h, (ord3_lt h).1⟩
        · exact Or.inr (Or.inl ⟨dn_lt m2 m1 h, (ord3_lt h).2⟩)
        · exact Or.inr (Or.inr ⟨rfl, ord3_self _ _ _⟩)
      rw [h1, dy_dn h1] at X3
      rw [h2, dy_dn h2] at X4
      have H3 := Lib.hid X3
      have H4 := Lib.hid X4
      clear X3 X4 h1 h2 m1 m2
      generalize dnI y m d = A at *
      generalize dnI y' m' d' = B at *
      generalize ord3 y m d y' m' d' = O at *
      rcases K with ⟨k1, rfl⟩ | ⟨k1, rfl⟩ | ⟨rfl, rfl⟩
      · go_enter Tryd.func7, Tryd.ntmps7
        go_wp2_with fail
        
        obtain ⟨W0, hW0⟩ : ∃ W0, W0 = ((w.alloc (Obj.cells #[Value.int .i64 y, Value.int .i64 m, Value.int .i64 d] 27)).alloc (Obj.cells #[Value.int .i64 y', Value.int .i64 m', Value.int .i64 d'] 27)) := ⟨_, rfl⟩
        have A1 := Lib.hid (row_at (k' := w.heap.size) (by simp) (row_by hW0 (row_alloc (heap_alloc_new _ _) _)))
        have D1 := Lib.hid (row_at (k' := w.heap.size + 1) (by simp) (row_by hW0 (heap_alloc_new _ _)))
        have HB0 := Lib.hid (below_by hW0 (((Below.refl w.heap.size w).alloc (by simp <;> omega) _).alloc (by simp <;> omega) _))
        have HW0 := Lib.hid hW0
        clear hW0
        have A1_0 : W0.cell? ⟨w.heap.size, 0, none⟩ = some (.int .i64 y) := cell_of_row _ _ _ _ _ _ A1.out
        have A1_1 : W0.cell? ⟨w.heap.size, 1, none⟩ = some (.int .i64 m) := cell_of_row _ _ _ _ _ _ A1.out
        have A1_2 : W0.cell? ⟨w.heap.size, 2, none⟩ = some (.int .i64 d) := cell_of_row _ _ _ _ _ _ A1.out
        have zA1 := lt_of_heap A1.out
        have D1_0 : W0.cell? ⟨w.heap.size + 1, 0, none⟩ = some (.int .i64 y') := cell_of_row _ _ _ _ _ _ D1.out
        have D1_1 : W0.cell? ⟨w.heap.size + 1, 1, none⟩ = some (.int .i64 m') := cell_of_row _ _ _ _ _ _ D1.out
        have D1_2 : W0.cell? ⟨w.heap.size + 1, 2, none⟩ = some (.int .i64 d') := cell_of_row _ _ _ _ _ _ D1.out
        have zD1 := lt_of_heap D1.out
        try rw [← HW0.out]
        go_cut [16] (fun s16 wx => s16 = .bool false ∧ Below W0.heap.size W0 wx)
        case first =>
          go_region_held3 (fun w' => Below W0.heap.size W0 w' ∧ w'.cell? ⟨w.heap.size, 0, none⟩ = some (.int .i64 y) ∧ w'.cell? ⟨w.heap.size, 1, none⟩ = some (.int .i64 m) ∧ w'.cell? ⟨w.heap.size, 2, none⟩ = some (.int .i64 d) ∧ w'.cell? ⟨w.heap.size + 1, 0, none⟩ = some (.int .i64 y') ∧ w'.cell? ⟨w.heap.size + 1, 1, none⟩ = some (.int .i64 m') ∧ w'.cell? ⟨w.heap.size + 1, 2, none⟩ = some (.int .i64 d'))
    (first
      | ((try go_split_ands); refine ⟨(Below.refl _ _).drew, ?_, ?_, ?_, ?_, ?_, ?_⟩ <;> first | assumption | (rw [World.cell?_drew]; assumption))
      | ((try go_split_ands); refine ⟨keepS (W0 := W0) ?_ hb1, cellS (W0 := W0) ?_ hb1 ?_ ?_, cellS (W0 := W0) ?_ hb1 ?_ ?_, cellS (W0 := W0) ?_ hb1 ?_ ?_, cellS (W0 := W0) ?_ hb1 ?_ ?_, cellS (W0 := W0) ?_ hb1 ?_ ?_, cellS (W0 := W0) ?_ hb1 ?_ ?_⟩ <;> first | assumption | omega)
      | ((try go_split_ands); refine ⟨keepA (W0 := W0) ?_ _, cellA (W0 := W0) ?_ _ ?_ ?_, cellA (W0 := W0) ?_ _ ?_ ?_, cellA (W0 := W0) ?_ _ ?_ ?_, cellA (W0 := W0) ?_ _ ?_ ?_, cellA (W0 := W0) ?_ _ ?_ ?_, cellA (W0 := W0) ?_ _ ?_ ?_⟩ <;> first | assumption | omega)
      | ((try go_split_ands); refine ⟨keepAd (W0 := W0) ?_ _, cellAd (W0 := W0) ?_ _ ?_ ?_, cellAd (W0 := W0) ?_ _ ?_ ?_, cellAd (W0 := W0) ?_ _ ?_ ?_, cellAd (W0 := W0) ?_ _ ?_ ?_, cellAd (W0 := W0) ?_ _ ?_ ?_, cellAd (W0 := W0) ?_ _ ?_ ?_⟩ <;> first | assumption | omega | exact Below.refl _ _)
      | ((try go_split_ands); refine ⟨keep2 (W0 := W0) ?_ ?_ _ _, cell2 (W0 := W0) ?_ _ _ ?_ ?_, cell2 (W0 := W0) ?_ _ _ ?_ ?_, cell2 (W0 := W0) ?_ _ _ ?_ ?_, cell2 (W0 := W0) ?_ _ _ ?_ ?_, cell2 (W0 := W0) ?_ _ _ ?_ ?_, cell2 (W0 := W0) ?_ _ _ ?_ ?_⟩ <;> first | assumption | omega | exact Nat.le_refl _)
      | ((try go_split_ands); refine ⟨keepZ (W0 := W0) ?_ ?_ _, cellZ (W0 := W0) ?_ _ ?_ ?_, cellZ (W0 := W0) ?_ _ ?_ ?_, cellZ (W0 := W0) ?_ _ ?_ ?_, cellZ (W0 := W0) ?_ _ ?_ ?_, cellZ (W0 := W0) ?_ _ ?_ ?_, cellZ (W0 := W0) ?_ _ ?_ ?_⟩ <;> first | assumption | omega | exact Nat.le_refl _ | exact ⟨_, by assumption⟩))
    (first | (go_at_call 25; (with_reducible refine (H1.out _).mono ?_); rintro e w1 ⟨rfl, hb1⟩; (try go_split_ands); have hge : W0.heap.size ≤ w1.heap.size := (by first | (refine (keepS (W0 := W0) ?_ hb1).size; assumption) | exact (hb1.size : W0.heap.size ≤ w1.heap.size)); (try have hrow := row_call hb1 hrow); (try have hrow := row_new hb1); (try have hrow := row_newd hb1); have hl1 := lt_below hb1; obtain ⟨hc1, hf1⟩ := bcell hb1; (try (have hrc := row_cellA hrow; clear hc1 hf1)); (try have hrf := row_frozA hrow)) | (go_at_call 26; (with_reducible refine (H2.out _).mono ?_); rintro e w1 ⟨rfl, hb1⟩; (try go_split_ands); have hge : W0.heap.size ≤ w1.heap.size := (by first | (refine (keepS (W0 := W0) ?_ hb1).size; assumption) | exact (hb1.size : W0.heap.size ≤ w1.heap.size)); (try have hrow := row_call hb1 hrow); (try have hrow := row_new hb1); (try have hrow := row_newd hb1); have hl1 := lt_below hb1; obtain ⟨hc1, hf1⟩ := bcell hb1; (try (have hrc := row_cellA hrow; clear hc1 hf1)); (try have hrf := row_frozA hrow)))
          all_goals (try go_split_ands)
          all_goals (go_wp2_with fail; go_meet; refine ⟨rfl, ?_⟩)
          all_goals first | assumption | exact heap_alloc_new _ _ | exact row_set (by assumption) _ _
        case rest =>
          obtain ⟨rfl, hB⟩ := hcut
          obtain ⟨V1, rfl⟩ : ∃ V, V = wc := ⟨_, rfl⟩
          clear A1_0 A1_1 A1_2 zA1 D1_0 D1_1 D1_2 zD1
          replace A1 := Lib.hid (row_call hB A1.out)
          replace D1 := Lib.hid (row_call hB D1.out)
          have B1 := Lib.hid (HB0.out.trans (hB.mono HB0.out.size))
          clear hB
          have A1_0 : V1.cell? ⟨w.heap.size, 0, none⟩ = some (.int .i64 y) := cell_of_row _ _ _ _ _ _ A1.out
          have A1_1 : V1.cell? ⟨w.heap.size, 1, none⟩ = some (.int .i64 m) := cell_of_row _ _ _ _ _ _ A1.out
          have A1_2 : V1.cell? ⟨w.heap.size, 2, none⟩ = some (.int .i64 d) := cell_of_row _ _ _ _ _ _ A1.out
          have zA1 := lt_of_heap A1.out
          have D1_0 : V1.cell? ⟨w.heap.size + 1, 0, none⟩ = some (.int .i64 y') := cell_of_row _ _ _ _ _ _ D1.out
          have D1_1 : V1.cell? ⟨w.heap.size + 1, 1, none⟩ = some (.int .i64 m') := cell_of_row _ _ _ _ _ _ D1.out
          have D1_2 : V1.cell? ⟨w.heap.size + 1, 2, none⟩ = some (.int .i64 d') := cell_of_row _ _ _ _ _ _ D1.out
          have zD1 := lt_of_heap D1.out
          go_wp2_with fail
          refine (H3.out _ (by first | exact md_keep hM (B1.out) | exact md_keep hM ((B1.out).alloc (B1.out.size) _) | exact md_keep hM (((B1.out).alloc (B1.out.size) _).alloc (by have := B1.out.size; simp <;> omega) _) | exact md_keep hM ((((B1.out).alloc (B1.out.size) _).alloc (by have := B1.out.size; simp <;> omega) _).alloc (by have := B1.out.size; simp <;> omega) _))).mono ?_
          rintro e V2 ⟨rfl, hb2⟩
          clear A1_0 A1_1 A1_2 zA1 D1_0 D1_1 D1_2 zD1
          have B2 : Hid (Below w.heap.size w V2) := by first | exact Lib.hid ((B1.out).trans (hb2.mono (by have := B1.out.size; first | assumption | (simp <;> omega) | (simp; done)))) | exact Lib.hid (((B1.out).alloc (B1.out.size) _).trans (hb2.mono (by have := B1.out.size; first | assumption | (simp <;> omega) | (simp; done)))) | exact Lib.hid ((((B1.out).alloc (B1.out.size) _).alloc (by have := B1.out.size; simp <;> omega) _).trans (hb2.mono (by have := B1.out.size; first | assumption | (simp <;> omega) | (simp; done)))) | exact Lib.hid (((((B1.out).alloc (B1.out.size) _).alloc (by have := B1.out.size; simp <;> omega) _).alloc (by have := B1.out.size; simp <;> omega) _).trans (hb2.mono (by have := B1.out.size; first | assumption | (simp <;> omega) | (simp; done))))
          first | replace A1 := Lib.hid (row_call hb2 A1.out) | replace A1 := Lib.hid (row_call hb2 (row_alloc A1.out _)) | replace A1 := Lib.hid (row_call hb2 (row_alloc (row_alloc A1.out _) _)) | replace A1 := Lib.hid (row_call hb2 (row_alloc (row_alloc (row_alloc A1.out _) _) _))
          first | replace D1 := Lib.hid (row_call hb2 D1.out) | replace D1 := Lib.hid (row_call hb2 (row_alloc D1.out _)) | replace D1 := Lib.hid (row_call hb2 (row_alloc (row_alloc D1.out _) _)) | replace D1 := Lib.hid (row_call hb2 (row_alloc (row_alloc (row_alloc D1.out _) _) _))
          clear hb2
          have A1_0 : V2.cell? ⟨w.heap.size, 0, none⟩ = some (.int .i64 y) := cell_of_row _ _ _ _ _ _ A1.out
          have A1_1 : V2.cell? ⟨w.heap.size, 1, none⟩ = some (.int .i64 m) := cell_of_row _ _ _ _ _ _ A1.out
          have A1_2 : V2.cell? ⟨w.heap.size, 2, none⟩ = some (.int .i64 d) := cell_of_row _ _ _ _ _ _ A1.out
          have D1_0 : V2.cell? ⟨w.heap.size + 1, 0, none⟩ = some (.int .i64 y') := cell_of_row _ _ _ _ _ _ D1.out
          have D1_1 : V2.cell? ⟨w.heap.size + 1, 1, none⟩ = some (.int .i64 m') := cell_of_row _ _ _ _ _ _ D1.out
          have D1_2 : V2.cell? ⟨w.heap.size + 1, 2, none⟩ = some (.int .i64 d') := cell_of_row _ _ _ _ _ _ D1.out
          have zA1 := lt_of_heap A1.out
          have zD1 := lt_of_heap D1.out
          go_simp
          go_wp2_with fail
          refine (H4.out _ (by first | exact md_keep hM (B2.out) | exact md_keep hM ((B2.out).alloc (B2.out.size) _) | exact md_keep hM (((B2.out).alloc (B2.out.size) _).alloc (by have := B2.out.size; simp <;> omega) _) | exact md_keep hM ((((B2.out).alloc (B2.out.size) _).alloc (by have := B2.out.size; simp <;> omega) _).alloc (by have := B2.out.size; simp <;> omega) _))).mono ?_
          rintro e V3 ⟨rfl, hb3⟩
          clear A1_0 A1_1 A1_2 zA1 D1_0 D1_1 D1_2 zD1
          have B3 : Hid (Below w.heap.size w V3) := by first | exact Lib.hid ((B2.out).trans (hb3.mono (by have := B2.out.size; first | assumption | (simp <;> omega) | (simp; done)))) | exact Lib.hid (((B2.out).alloc (B2.out.size) _).trans (hb3.mono (by have := B2.out.size; first | assumption | (simp <;> omega) | (simp; done)))) | exact Lib.hid ((((B2.out).alloc (B2.out.size) _).alloc (by have := B2.out.size; simp <;> omega) _).trans (hb3.mono (by have := B2.out.size; first | assumption | (simp <;> omega) | (simp; done)))) | exact Lib.hid (((((B2.out).alloc (B2.out.size) _).alloc (by have := B2.out.size; simp <;> omega) _).alloc (by have := B2.out.size; simp <;> omega) _).trans (hb3.mono (by have := B2.out.size; first | assumption | (simp <;> omega) | (simp; done))))
          first | replace A1 := Lib.hid (row_call hb3 A1.out) | replace A1 := Lib.hid (row_call hb3 (row_alloc A1.out _)) | replace A1 := Lib.hid (row_call hb3 (row_alloc (row_alloc A1.out _) _)) | replace A1 := Lib.hid (row_call hb3 (row_alloc (row_alloc (row_alloc A1.out _) _) _))
          first | replace D1 := Lib.hid (row_call hb3 D1.out) | replace D1 := Lib.hid (row_call hb3 (row_alloc D1.out _)) | replace D1 := Lib.hid (row_call hb3 (row_alloc (row_alloc D1.out _) _)) | replace D1 := Lib.hid (row_call hb3 (row_alloc (row_alloc (row_alloc D1.out _) _) _))
          clear hb3
          have A1_0 : V3.cell? ⟨w.heap.size, 0, none⟩ = some (.int .i64 y) := cell_of_row _ _ _ _ _ _ A1.out
          have A1_1 : V3.cell? ⟨w.heap.size, 1, none⟩ = some (.int .i64 m) := cell_of_row _ _ _ _ _ _ A1.out
          have A1_2 : V3.cell? ⟨w.heap.size, 2, none⟩ = some (.int .i64 d) := cell_of_row _ _ _ _ _ _ A1.out
          have D1_0 : V3.cell? ⟨w.heap.size + 1, 0, none⟩ = some (.int .i64 y') := cell_of_row _ _ _ _ _ _ D1.out
          have D1_1 : V3.cell? ⟨w.heap.size + 1, 1, none⟩ = some (.int .i64 m') := cell_of_row _ _ _ _ _ _ D1.out
          have D1_2 : V3.cell? ⟨w.heap.size + 1, 2, none⟩ = some (.int .i64 d') := cell_of_row _ _ _ _ _ _ D1.out
          have zA1 := lt_of_heap A1.out
          have zD1 := lt_of_heap D1.out
          go_simp
          go_wp2_with fail
          refine (H1.out _).mono ?_
          rintro e V4 ⟨rfl, hb4⟩
          clear A1_0 A1_1 A1_2 zA1 D1_0 D1_1 D1_2 zD1
          have B4 : Hid (Below w.heap.size w V4) := by first | exact Lib.hid ((B3.out).trans (hb4.mono (by have := B3.out.size; first | assumption | (simp <;> omega) | (simp; done)))) | exact Lib.hid (((B3.out).alloc (B3.out.size) _).trans (hb4.mono (by have := B3.out.size; first | assumption | (simp <;> omega) | (simp; done)))) | exact Lib.hid ((((B3.out).alloc (B3.out.size) _).alloc (by have := B3.out.size; simp <;> omega) _).trans (hb4.mono (by have := B3.out.size; first | assumption | (simp <;> omega) | (simp; done)))) | exact Lib.hid (((((B3.out).alloc (B3.out.size) _).alloc (by have := B3.out.size; simp <;> omega) _).alloc (by have := B3.out.size; simp <;> omega) _).trans (hb4.mono (by have := B3.out.size; first | assumption | (simp <;> omega) | (simp; done))))
          first | replace A1 := Lib.hid (row_call hb4 A1.out) | replace A1 := Lib.hid (row_call hb4 (row_alloc A1.out _)) | replace A1 := Lib.hid (row_call hb4 (row_alloc (row_alloc A1.out _) _)) | replace A1 := Lib.hid (row_call hb4 (row_alloc (row_alloc (row_alloc A1.out _) _) _))
          first | replace D1 := Lib.hid (row_call hb4 D1.out) | replace D1 := Lib.hid (row_call hb4 (row_alloc D1.out _)) | replace D1 := Lib.hid (row_call hb4 (row_alloc (row_alloc D1.out _) _)) | replace D1 := Lib.hid (row_call hb4 (row_alloc (row_alloc (row_alloc D1.out _) _) _))
          clear hb4
          have A1_0 : V4.cell? ⟨w.heap.size, 0, none⟩ = some (.int .i64 y) := cell_of_row _ _ _ _ _ _ A1.out
          have A1_1 : V4.cell? ⟨w.heap.size, 1, none⟩ = some (.int .i64 m) := cell_of_row _ _ _ _ _ _ A1.out
          have A1_2 : V4.cell? ⟨w.heap.size, 2, none⟩ = some (.int .i64 d) := cell_of_row _ _ _ _ _ _ A1.out
          have D1_0 : V4.cell? ⟨w.heap.size + 1, 0, none⟩ = some (.int .i64 y') := cell_of_row _ _ _ _ _ _ D1.out
          have D1_1 : V4.cell? ⟨w.heap.size + 1, 1, none⟩ = some (.int .i64 m') := cell_of_row _ _ _ _ _ _ D1.out
          have D1_2 : V4.cell? ⟨w.heap.size + 1, 2, none⟩ = some (.int .i64 d') := cell_of_row _ _ _ _ _ _ D1.out
          have zA1 := lt_of_heap A1.out
          have zD1 := lt_of_heap D1.out
          go_simp
          go_wp2_with fail
          refine (H7.out _ (by first | exact md_keep hM (B4.out) | exact md_keep hM ((B4.out).alloc (B4.out.size) _) | exact md_keep hM (((B4.out).alloc (B4.out.size) _).alloc (by have := B4.out.size; simp <;> omega) _) | exact md_keep hM ((((B4.out).alloc (B4.out.size) _).alloc (by have := B4.out.size; simp <;> omega) _).alloc (by have := B4.out.size; simp <;> omega) _))).mono ?_
          rintro e V5 ⟨rfl, hb5⟩
          clear A1_0 A1_1 A1_2 zA1 D1_0 D1_1 D1_2 zD1
          have B5 : Hid (Below w.heap.size w V5) := by first | exact Lib.hid ((B4.out).trans (hb5.mono (by have := B4.out.size; first | assumption | (simp <;> omega) | (simp; done)))) | exact Lib.hid (((B4.out).alloc (B4.out.size) _).trans (hb5.mono (by have := B4.out.size; first | assumption | (simp <;> omega) | (simp; done)))) | exact Lib.hid ((((B4.out).alloc (B4.out.size) _).alloc (by have := B4.out.size; simp <;> omega) _).trans (hb5.mono (by have := B4.out.size; first | assumption | (simp <;> omega) | (simp; done)))) | exact Lib.hid (((((B4.out).alloc (B4.out.size) _).alloc (by have := B4.out.size; simp <;> omega) _).alloc (by have := B4.out.size; simp <;> omega) _).trans (hb5.mono (by have := B4.out.size; first | assumption | (simp <;> omega) | (simp; done))))
          first | replace A1 := Lib.hid (row_call hb5 A1.out) | replace A1 := Lib.hid (row_call hb5 (row_alloc A1.out _)) | replace A1 := Lib.hid (row_call hb5 (row_alloc (row_alloc A1.out _) _)) | replace A1 := Lib.hid (row_call hb5 (row_alloc (row_alloc (row_alloc A1.out _) _) _))
          first | replace D1 := Lib.hid (row_call hb5 D1.out) | replace D1 := Lib.hid (row_call hb5 (row_alloc D1.out _)) | replace D1 := Lib.hid (row_call hb5 (row_alloc (row_alloc D1.out _) _)) | replace D1 := Lib.hid (row_call hb5 (row_alloc (row_alloc (row_alloc D1.out _) _) _))
          clear hb5
          have A1_0 : V5.cell? ⟨w.heap.size, 0, none⟩ = some (.int .i64 y) := cell_of_row _ _ _ _ _ _ A1.out
          have A1_1 : V5.cell? ⟨w.heap.size, 1, none⟩ = some (.int .i64 m) := cell_of_row _ _ _ _ _ _ A1.out
          have A1_2 : V5.cell? ⟨w.heap.size, 2, none⟩ = some (.int .i64 d) := cell_of_row _ _ _ _ _ _ A1.out
          have D1_0 : V5.cell? ⟨w.heap.size + 1, 0, none⟩ = some (.int .i64 y') := cell_of_row _ _ _ _ _ _ D1.out
          have D1_1 : V5.cell? ⟨w.heap.size + 1, 1, none⟩ = some (.int .i64 m') := cell_of_row _ _ _ _ _ _ D1.out
          have D1_2 : V5.cell? ⟨w.heap.size + 1, 2, none⟩ = some (.int .i64 d') := cell_of_row _ _ _ _ _ _ D1.out
          have zA1 := lt_of_heap A1.out
          have zD1 := lt_of_heap D1.out
          go_simp
          go_wp2
          go_ret
          exact ⟨rfl, by first | exact B5.out | exact B5.out.alloc B5.out.size _⟩
      · have k2 : ¬ A < B := by omega
        go_enter Tryd.func7, Tryd.ntmps7
        go_wp2_with fail
        
        obtain ⟨W0, hW0⟩ : ∃ W0, W0 = ((w.alloc (Obj.cells #[Value.int .i64 y, Value.int .i64 m, Value.int .i64 d] 27)).alloc (Obj.cells #[Value.int .i64 y', Value.int .i64 m', Value.int .i64 d'] 27)) := ⟨_, rfl⟩
        have A1 := Lib.hid (row_at (k' := w.heap.size) (by simp) (row_by hW0 (row_alloc (heap_alloc_new _ _) _)))
        have D1 := Lib.hid (row_at (k' := w.heap.size + 1) (by simp) (row_by hW0 (heap_alloc_new _ _)))
        have HB0 := Lib.hid (below_by hW0 (((Below.refl w.heap.size w).alloc (by simp <;> omega) _).alloc (by simp <;> omega) _))
        have HW0 := Lib.hid hW0
        clear hW0
        have A1_0 : W0.cell? ⟨w.heap.size, 0, none⟩ = some (.int .i64 y) := cell_of_row _ _ _ _ _ _ A1.out
        have A1_1 : W0.cell? ⟨w.heap.size, 1, none⟩ = some (.int .i64 m) := cell_of_row _ _ _ _ _ _ A1.out
        have A1_2 : W0.cell? ⟨w.heap.size, 2, none⟩ = some (.int .i64 d) := cell_of_row _ _ _ _ _ _ A1.out
        have zA1 := lt_of_heap A1.out
        have D1_0 : W0.cell? ⟨w.heap.size + 1, 0, none⟩ = some (.int .i64 y') := cell_of_row _ _ _ _ _ _ D1.out
        have D1_1 : W0.cell? ⟨w.heap.size + 1, 1, none⟩ = some (.int .i64 m') := cell_of_row _ _ _ _ _ _ D1.out
        have D1_2 : W0.cell? ⟨w.heap.size + 1, 2, none⟩ = some (.int .i64 d') := cell_of_row _ _ _ _ _ _ D1.out
        have zD1 := lt_of_heap D1.out
        try rw [← HW0.out]
        go_cut [16] (fun s16 wx => s16 = .bool false ∧ Below W0.heap.size W0 wx)
        case first =>
          go_region_held3 (fun w' => Below W0.heap.size W0 w' ∧ w'.cell? ⟨w.heap.size, 0, none⟩ = some (.int .i64 y) ∧ w'.cell? ⟨w.heap.size, 1, none⟩ = some (.int .i64 m) ∧ w'.cell? ⟨w.heap.size, 2, none⟩ = some (.int .i64 d) ∧ w'.cell? ⟨w.heap.size + 1, 0, none⟩ = some (.int .i64 y') ∧ w'.cell? ⟨w.heap.size + 1, 1, none⟩ = some (.int .i64 m') ∧ w'.cell? ⟨w.heap.size + 1, 2, none⟩ = some (.int .i64 d'))
    (first
      | ((try go_split_ands); refine ⟨(Below.refl _ _).drew, ?_, ?_, ?_, ?_, ?_, ?_⟩ <;> first | assumption | (rw [World.cell?_drew]; assumption))
      | ((try go_split_ands); refine ⟨keepS (W0 := W0) ?_ hb1, cellS (W0 := W0) ?_ hb1 ?_ ?_, cellS (W0 := W0) ?_ hb1 ?_ ?_, cellS (W0 := W0) ?_ hb1 ?_ ?_, cellS (W0 := W0) ?_ hb1 ?_ ?_, cellS (W0 := W0) ?_ hb1 ?_ ?_, cellS (W0 := W0) ?_ hb1 ?_ ?_⟩ <;> first | assumption | omega)
      | ((try go_split_ands); refine ⟨keepA (W0 := W0) ?_ _, cellA (W0 := W0) ?_ _ ?_ ?_, cellA (W0 := W0) ?_ _ ?_ ?_, cellA (W0 := W0) ?_ _ ?_ ?_, cellA (W0 := W0) ?_ _ ?_ ?_, cellA (W0 := W0) ?_ _ ?_ ?_, cellA (W0 := W0) ?_ _ ?_ ?_⟩ <;> first | assumption | omega)
      | ((try go_split_ands); refine ⟨keepAd (W0 := W0) ?_ _, cellAd (W0 := W0) ?_ _ ?_ ?_, cellAd (W0 := W0) ?_ _ ?_ ?_, cellAd (W0 := W0) ?_ _ ?_ ?_, cellAd (W0 := W0) ?_ _ ?_ ?_, cellAd (W0 := W0) ?_ _ ?_ ?_, cellAd (W0 := W0) ?_ _ ?_ ?_⟩ <;> first | assumption | omega | exact Below.refl _ _)
      | ((try go_split_ands); refine ⟨keep2 (W0 := W0) ?_ ?_ _ _, cell2 (W0 := W0) ?_ _ _ ?_ ?_, cell2 (W0 := W0) ?_ _ _ ?_ ?_, cell2 (W0 := W0) ?_ _ _ ?_ ?_, cell2 (W0 := W0) ?_ _ _ ?_ ?_, cell2 (W0 := W0) ?_ _ _ ?_ ?_, cell2 (W0 := W0) ?_ _ _ ?_ ?_⟩ <;> first | assumption | omega | exact Nat.le_refl _)
      | ((try go_split_ands); refine ⟨keepZ (W0 := W0) ?_ ?_ _, cellZ (W0 := W0) ?_ _ ?_ ?_, cellZ (W0 := W0) ?_ _ ?_ ?_, cellZ (W0 := W0) ?_ _ ?_ ?_, cellZ (W0 := W0) ?_ _ ?_ ?_, cellZ (W0 := W0) ?_ _ ?_ ?_, cellZ (W0 := W0) ?_ _ ?_ ?_⟩ <;> first | assumption | omega | exact Nat.le_refl _ | exact ⟨_, by assumption⟩))
    (first | (go_at_call 25; (with_reducible refine (H1.out _).mono ?_); rintro e w1 ⟨rfl, hb1⟩; (try go_split_ands); have hge : W0.heap.size ≤ w1.heap.size := (by first | (refine (keepS (W0 := W0) ?_ hb1).size; assumption) | exact (hb1.size : W0.heap.size ≤ w1.heap.size)); (try have hrow := row_call hb1 hrow); (try have hrow := row_new hb1); (try have hrow := row_newd hb1); have hl1 := lt_below hb1; obtain ⟨hc1, hf1⟩ := bcell hb1; (try (have hrc := row_cellA hrow; clear hc1 hf1)); (try have hrf := row_frozA hrow)) | (go_at_call 26; (with_reducible refine (H2.out _).mono ?_); rintro e w1 ⟨rfl, hb1⟩; (try go_split_ands); have hge : W0.heap.size ≤ w1.heap.size := (by first | (refine (keepS (W0 := W0) ?_ hb1).size; assumption) | exact (hb1.size : W0.heap.size ≤ w1.heap.size)); (try have hrow := row_call hb1 hrow); (try have hrow := row_new hb1); (try have hrow := row_newd hb1); have hl1 := lt_below hb1; obtain ⟨hc1, hf1⟩ := bcell hb1; (try (have hrc := row_cellA hrow; clear hc1 hf1)); (try have hrf := row_frozA hrow)))
          all_goals (try go_split_ands)
          all_goals (go_wp2_with fail; go_meet; refine ⟨rfl, ?_⟩)
          all_goals first | assumption | exact heap_alloc_new _ _ | exact row_set (by assumption) _ _
        case rest =>
          obtain ⟨rfl, hB⟩ := hcut
          obtain ⟨V1, rfl⟩ : ∃ V, V = wc := ⟨_, rfl⟩
          clear A1_0 A1_1 A1_2 zA1 D1_0 D1_1 D1_2 zD1
          replace A1 := Lib.hid (row_call hB A1.out)
          replace D1 := Lib.hid (row_call hB D1.out)
          have B1 := Lib.hid (HB0.out.trans (hB.mono HB0.out.size))
          clear hB
          have A1_0 : V1.cell? ⟨w.heap.size, 0, none⟩ = some (.int .i64 y) := cell_of_row _ _ _ _ _ _ A1.out
          have A1_1 : V1.cell? ⟨w.heap.size, 1, none⟩ = some (.int .i64 m) := cell_of_row _ _ _ _ _ _ A1.out
          have A1_2 : V1.cell? ⟨w.heap.size, 2, none⟩ = some (.int .i64 d) := cell_of_row _ _ _ _ _ _ A1.out
          have zA1 := lt_of_heap A1.out
          have D1_0 : V1.cell? ⟨w.heap.size + 1, 0, none⟩ = some (.int .i64 y') := cell_of_row _ _ _ _ _ _ D1.out
          have D1_1 : V1.cell? ⟨w.heap.size + 1, 1, none⟩ = some (.int .i64 m') := cell_of_row _ _ _ _ _ _ D1.out
          have D1_2 : V1.cell? ⟨w.heap.size + 1, 2, none⟩ = some (.int .i64 d') := cell_of_row _ _ _ _ _ _ D1.out
          have zD1 := lt_of_heap D1.out
          go_wp2_with fail
          refine (H3.out _ (by first | exact md_keep hM (B1.out) | exact md_keep hM ((B1.out).alloc (B1.out.size) _) | exact md_keep hM (((B1.out).alloc (B1.out.size) _).alloc (by have := B1.out.size; simp <;> omega) _) | exact md_keep hM ((((B1.out).alloc (B1.out.size) _).alloc (by have := B1.out.size; simp <;> omega) _).alloc (by have := B1.out.size; simp <;> omega) _))).mono ?_
          rintro e V2 ⟨rfl, hb2⟩
          clear A1_0 A1_1 A1_2 zA1 D1_0 D1_1 D1_2 zD1
          have B2 : Hid (Below w.heap.size w V2) := by first | exact Lib.hid ((B1.out).trans (hb2.mono (by have := B1.out.size; first | assumption | (simp <;> omega) | (simp; done)))) | exact Lib.hid (((B1.out).alloc (B1.out.size) _).trans (hb2.mono (by have := B1.out.size; first | assumption | (simp <;> omega) | (simp; done)))) | exact Lib.hid ((((B1.out).alloc (B1.out.size) _).alloc (by have := B1.out.size; simp <;> omega) _).trans (hb2.mono (by have := B1.out.size; first | assumption | (simp <;> omega) | (simp; done)))) | exact Lib.hid (((((B1.out).alloc (B1.out.size) _).alloc (by have := B1.out.size; simp <;> omega) _).alloc (by have := B1.out.size; simp <;> omega) _).trans (hb2.mono (by have := B1.out.size; first | assumption | (simp <;> omega) | (simp; done))))
          first | replace A1 := Lib.hid (row_call hb2 A1.out) | replace A1 := Lib.hid (row_call hb2 (row_alloc A1.out _)) | replace A1 := Lib.hid (row_call hb2 (row_alloc (row_alloc A1.out _) _)) | replace A1 := Lib.hid (row_call hb2 (row_alloc (row_alloc (row_alloc A1.out _) _) _))
          first | replace D1 := Lib.hid (row_call hb2 D1.out) | replace D1 := Lib.hid (row_call hb2 (row_alloc D1.out _)) | replace D1 := Lib.hid (row_call hb2 (row_alloc (row_alloc D1.out _) _)) | replace D1 := Lib.hid (row_call hb2 (row_alloc (row_alloc (row_alloc D1.out _) _) _))
          clear hb2
          have A1_0 : V2.cell? ⟨w.heap.size, 0, none⟩ = some (.int .i64 y) := cell_of_row _ _ _ _ _ _ A1.out
          have A1_1 : V2.cell? ⟨w.heap.size, 1, none⟩ = some (.int .i64 m) := cell_of_row _ _ _ _ _ _ A1.out
          have A1_2 : V2.cell? ⟨w.heap.size, 2, none⟩ = some (.int .i64 d) := cell_of_row _ _ _ _ _ _ A1.out
          have D1_0 : V2.cell? ⟨w.heap.size + 1, 0, none⟩ = some (.int .i64 y') := cell_of_row _ _ _ _ _ _ D1.out
          have D1_1 : V2.cell? ⟨w.heap.size + 1, 1, none⟩ = some (.int .i64 m') := cell_of_row _ _ _ _ _ _ D1.out
          have D1_2 : V2.cell? ⟨w.heap.size + 1, 2, none⟩ = some (.int .i64 d') := cell_of_row _ _ _ _ _ _ D1.out
          have zA1 := lt_of_heap A1.out
          have zD1 := lt_of_heap D1.out
          go_simp
          go_wp2_with fail
          refine (H4.out _ (by first | exact md_keep hM (B2.out) | exact md_keep hM ((B2.out).alloc (B2.out.size) _) | exact md_keep hM (((B2.out).alloc (B2.out.size) _).alloc (by have := B2.out.size; simp <;> omega) _) | exact md_keep hM ((((B2.out).alloc (B2.out.size) _).alloc (by have := B2.out.size; simp <;> omega) _).alloc (by have := B2.out.size; simp <;> omega) _))).mono ?_
          rintro e V3 ⟨rfl, hb3⟩
          clear A1_0 A1_1 A1_2 zA1 D1_0 D1_1 D1_2 zD1
          have B3 : Hid (Below w.heap.size w V3) := by first | exact Lib.hid ((B2.out).trans (hb3.mono (by have := B2.out.size; first | assumption | (simp <;> omega) | (simp; done)))) | exact Lib.hid (((B2.out).alloc (B2.out.size) _).trans (hb3.mono (by have := B2.out.size; first | assumption | (simp <;> omega) | (simp; done)))) | exact Lib.hid ((((B2.out).alloc (B2.out.size) _).alloc (by have := B2.out.size; simp <;> omega) _).trans (hb3.mono (by have := B2.out.size; first | assumption | (simp <;> omega) | (simp; done)))) | exact Lib.hid (((((B2.out).alloc (B2.out.size) _).alloc (by have := B2.out.size; simp <;> omega) _).alloc (by have := B2.out.size; simp <;> omega) _).trans (hb3.mono (by have := B2.out.size; first | assumption | (simp <;> omega) | (simp; done))))
          first | replace A1 := Lib.hid (row_call hb3 A1.out) | replace A1 := Lib.hid (row_call hb3 (row_alloc A1.out _)) | replace A1 := Lib.hid (row_call hb3 (row_alloc (row_alloc A1.out _) _)) | replace A1 := Lib.hid (row_call hb3 (row_alloc (row_alloc (row_alloc A1.out _) _) _))
          first | replace D1 := Lib.hid (row_call hb3 D1.out) | replace D1 := Lib.hid (row_call hb3 (row_alloc D1.out _)) | replace D1 := Lib.hid (row_call hb3 (row_alloc (row_alloc D1.out _) _)) | replace D1 := Lib.hid (row_call hb3 (row_alloc (row_alloc (row_alloc D1.out _) _) _))
          clear hb3
          have A1_0 : V3.cell? ⟨w.heap.size, 0, none⟩ = some (.int .i64 y) := cell_of_row _ _ _ _ _ _ A1.out
          have A1_1 : V3.cell? ⟨w.heap.size, 1, none⟩ = some (.int .i64 m) := cell_of_row _ _ _ _ _ _ A1.out
          have A1_2 : V3.cell? ⟨w.heap.size, 2, none⟩ = some (.int .i64 d) := cell_of_row _ _ _ _ _ _ A1.out
          have D1_0 : V3.cell? ⟨w.heap.size + 1, 0, none⟩ = some (.int .i64 y') := cell_of_row _ _ _ _ _ _ D1.out
          have D1_1 : V3.cell? ⟨w.heap.size + 1, 1, none⟩ = some (.int .i64 m') := cell_of_row _ _ _ _ _ _ D1.out
          have D1_2 : V3.cell? ⟨w.heap.size + 1, 2, none⟩ = some (.int .i64 d') := cell_of_row _ _ _ _ _ _ D1.out
          have zA1 := lt_of_heap A1.out
          have zD1 := lt_of_heap D1.out
          go_simp
          go_wp2_with fail
          refine (H1.out _).mono ?_
          rintro e V4 ⟨rfl, hb4⟩
          clear A1_0 A1_1 A1_2 zA1 D1_0 D1_1 D1_2 zD1
          have B4 : Hid (Below w.heap.size w V4) := by first | exact Lib.hid ((B3.out).trans (hb4.mono (by have := B3.out.size; first | assumption | (simp <;> omega) | (simp; done)))) | exact Lib.hid (((B3.out).alloc (B3.out.size) _).trans (hb4.mono (by have := B3.out.size; first | assumption | (simp <;> omega) | (simp; done)))) | exact Lib.hid ((((B3.out).alloc (B3.out.size) _).alloc (by have := B3.out.size; simp <;> omega) _).trans (hb4.mono (by have := B3.out.size; first | assumption | (simp <;> omega) | (simp; done)))) | exact Lib.hid (((((B3.out).alloc (B3.out.size) _).alloc (by have := B3.out.size; simp <;> omega) _).alloc (by have := B3.out.size; simp <;> omega) _).trans (hb4.mono (by have := B3.out.size; first | assumption | (simp <;> omega) | (simp; done))))
          first | replace A1 := Lib.hid (row_call hb4 A1.out) | replace A1 := Lib.hid (row_call hb4 (row_alloc A1.out _)) | replace A1 := Lib.hid (row_call hb4 (row_alloc (row_alloc A1.out _) _)) | replace A1 := Lib.hid (row_call hb4 (row_alloc (row_alloc (row_alloc A1.out _) _) _))
          first | replace D1 := Lib.hid (row_call hb4 D1.out) | replace D1 := Lib.hid (row_call hb4 (row_alloc D1.out _)) | replace D1 := Lib.hid (row_call hb4 (row_alloc (row_alloc D1.out _) _)) | replace D1 := Lib.hid (row_call hb4 (row_alloc (row_alloc (row_alloc D1.out _) _) _))
          clear hb4
          have A1_0 : V4.cell? ⟨w.heap.size, 0, none⟩ = some (.int .i64 y) := cell_of_row _ _ _ _ _ _ A1.out
          have A1_1 : V4.cell? ⟨w.heap.size, 1, none⟩ = some (.int .i64 m) := cell_of_row _ _ _ _ _ _ A1.out
          have A1_2 : V4.cell? ⟨w.heap.size, 2, none⟩ = some (.int .i64 d) := cell_of_row _ _ _ _ _ _ A1.out
          have D1_0 : V4.cell? ⟨w.heap.size + 1, 0, none⟩ = some (.int .i64 y') := cell_of_row _ _ _ _ _ _ D1.out
          have D1_1 : V4.cell? ⟨w.heap.size + 1, 1, none⟩ = some (.int .i64 m') := cell_of_row _ _ _ _ _ _ D1.out
          have D1_2 : V4.cell? ⟨w.heap.size + 1, 2, none⟩ = some (.int .i64 d') := cell_of_row _ _ _ _ _ _ D1.out
          have zA1 := lt_of_heap A1.out
          have zD1 := lt_of_heap D1.out
          go_simp
          go_wp2_with fail
          refine (H7.out _ (by first | exact md_keep hM (B4.out) | exact md_keep hM ((B4.out).alloc (B4.out.size) _) | exact md_keep hM (((B4.out).alloc (B4.out.size) _).alloc (by have := B4.out.size; simp <;> omega) _) | exact md_keep hM ((((B4.out).alloc (B4.out.size) _).alloc (by have := B4.out.size; simp <;> omega) _).alloc (by have := B4.out.size; simp <;> omega) _))).mono ?_
          rintro e V5 ⟨rfl, hb5⟩
          clear A1_0 A1_1 A1_2 zA1 D1_0 D1_1 D1_2 zD1
          have B5 : Hid (Below w.heap.size w V5) := by first | exact Lib.hid ((B4.out).trans (hb5.mono (by have := B4.out.size; first | assumption | (simp <;> omega) | (simp; done)))) | exact Lib.hid (((B4.out).alloc (B4.out.size) _).trans (hb5.mono (by have := B4.out.size; first | assumption | (simp <;> omega) | (simp; done)))) | exact Lib.hid ((((B4.out).alloc (B4.out.size) _).alloc (by have := B4.out.size; simp <;> omega) _).trans (hb5.mono (by have := B4.out.size; first | assumption | (simp <;> omega) | (simp; done)))) | exact Lib.hid (((((B4.out).alloc (B4.out.size) _).alloc (by have := B4.out.size; simp <;> omega) _).alloc (by have := B4.out.size; simp <;> omega) _).trans (hb5.mono (by have := B4.out.size; first | assumption | (simp <;> omega) | (simp; done))))
          first | replace A1 := Lib.hid (row_call hb5 A1.out) | replace A1 := Lib.hid (row_call hb5 (row_alloc A1.out _)) | replace A1 := Lib.hid (row_call hb5 (row_alloc (row_alloc A1.out _) _)) | replace A1 := Lib.hid (row_call hb5 (row_alloc (row_alloc (row_alloc A1.out _) _) _))
          first | replace D1 := Lib.hid (row_call hb5 D1.out) | replace D1 := Lib.hid (row_call hb5 (row_alloc D1.out _)) | replace D1 := Lib.hid (row_call hb5 (row_alloc (row_alloc D1.out _) _)) | replace D1 := Lib.hid (row_call hb5 (row_alloc (row_alloc (row_alloc D1.out _) _) _))
          clear hb5
          have A1_0 : V5.cell? ⟨w.heap.size, 0, none⟩ = some (.int .i64 y) := cell_of_row _ _ _ _ _ _ A1.out
          have A1_1 : V5.cell? ⟨w.heap.size, 1, none⟩ = some (.int .i64 m) := cell_of_row _ _ _ _ _ _ A1.out
          have A1_2 : V5.cell? ⟨w.heap.size, 2, none⟩ = some (.int .i64 d) := cell_of_row _ _ _ _ _ _ A1.out
          have D1_0 : V5.cell? ⟨w.heap.size + 1, 0, none⟩ = some (.int .i64 y') := cell_of_row _ _ _ _ _ _ D1.out
          have D1_1 : V5.cell? ⟨w.heap.size + 1, 1, none⟩ = some (.int .i64 m') := cell_of_row _ _ _ _ _ _ D1.out
          have D1_2 : V5.cell? ⟨w.heap.size + 1, 2, none⟩ = some (.int .i64 d') := cell_of_row _ _ _ _ _ _ D1.out
          have zA1 := lt_of_heap A1.out
          have zD1 := lt_of_heap D1.out
          go_simp
          go_wp2
          go_ret
          exact ⟨rfl, by first | exact B5.out | exact B5.out.alloc B5.out.size _⟩
      · go_enter Tryd.func7, Tryd.ntmps7
        go_wp2_with fail
        
        obtain ⟨W0, hW0⟩ : ∃ W0, W0 = ((w.alloc (Obj.cells #[Value.int .i64 y, Value.int .i64 m, Value.int .i64 d] 27)).alloc (Obj.cells #[Value.int .i64 y', Value.int .i64 m', Value.int .i64 d'] 27)) := ⟨_, rfl⟩
        have A1 := Lib.hid (row_at (k' := w.heap.size) (by simp) (row_by hW0 (row_alloc (heap_alloc_new _ _) _)))
        have D1 := Lib.hid (row_at (k' := w.heap.size + 1) (by simp) (row_by hW0 (heap_alloc_new _ _)))
        have HB0 := Lib.hid (below_by hW0 (((Below.refl w.heap.size w).alloc (by simp <;> omega) _).alloc (by simp <;> omega) _))
        have HW0 := Lib.hid hW0
        clear hW0
        have A1_0 : W0.cell? ⟨w.heap.size, 0, none⟩ = some (.int .i64 y) := cell_of_row _ _ _ _ _ _ A1.out
        have A1_1 : W0.cell? ⟨w.heap.size, 1, none⟩ = some (.int .i64 m) := cell_of_row _ _ _ _ _ _ A1.out
        have A1_2 : W0.cell? ⟨w.heap.size, 2, none⟩ = some (.int .i64 d) := cell_of_row _ _ _ _ _ _ A1.out
        have zA1 := lt_of_heap A1.out
        have D1_0 : W0.cell? ⟨w.heap.size + 1, 0, none⟩ = some (.int .i64 y') := cell_of_row _ _ _ _ _ _ D1.out
        have D1_1 : W0.cell? ⟨w.heap.size + 1, 1, none⟩ = some (.int .i64 m') := cell_of_row _ _ _ _ _ _ D1.out
        have D1_2 : W0.cell? ⟨w.heap.size + 1, 2, none⟩ = some (.int .i64 d') := cell_of_row _ _ _ _ _ _ D1.out
        have zD1 := lt_of_heap D1.out
        try rw [← HW0.out]
        go_cut [16] (fun s16 wx => s16 = .bool false ∧ Below W0.heap.size W0 wx)
        case first =>
          go_region_held3 (fun w' => Below W0.heap.size W0 w' ∧ w'.cell? ⟨w.heap.size, 0, none⟩ = some (.int .i64 y) ∧ w'.cell? ⟨w.heap.size, 1, none⟩ = some (.int .i64 m) ∧ w'.cell? ⟨w.heap.size, 2, none⟩ = some (.int .i64 d) ∧ w'.cell? ⟨w.heap.size + 1, 0, none⟩ = some (.int .i64 y') ∧ w'.cell? ⟨w.heap.size + 1, 1, none⟩ = some (.int .i64 m') ∧ w'.cell? ⟨w.heap.size + 1, 2, none⟩ = some (.int .i64 d'))
    (first
      | ((try go_split_ands); refine ⟨(Below.refl _ _).drew, ?_, ?_, ?_, ?_, ?_, ?_⟩ <;> first | assumption | (rw [World.cell?_drew]; assumption))
      | ((try go_split_ands); refine ⟨keepS (W0 := W0) ?_ hb1, cellS (W0 := W0) ?_ hb1 ?_ ?_, cellS (W0 := W0) ?_ hb1 ?_ ?_, cellS (W0 := W0) ?_ hb1 ?_ ?_, cellS (W0 := W0) ?_ hb1 ?_ ?_, cellS (W0 := W0) ?_ hb1 ?_ ?_, cellS (W0 := W0) ?_ hb1 ?_ ?_⟩ <;> first | assumption | omega)
      | ((try go_split_ands); refine ⟨keepA (W0 := W0) ?_ _, cellA (W0 := W0) ?_ _ ?_ ?_, cellA (W0 := W0) ?_ _ ?_ ?_, cellA (W0 := W0) ?_ _ ?_ ?_, cellA (W0 := W0) ?_ _ ?_ ?_, cellA (W0 := W0) ?_ _ ?_ ?_, cellA (W0 := W0) ?_ _ ?_ ?_⟩ <;> first | assumption | omega)
      | ((try go_split_ands); refine ⟨keepAd (W0 := W0) ?_ _, cellAd (W0 := W0) ?_ _ ?_ ?_, cellAd (W0 := W0) ?_ _ ?_ ?_, cellAd (W0 := W0) ?_ _ ?_ ?_, cellAd (W0 := W0) ?_ _ ?_ ?_, cellAd (W0 := W0) ?_ _ ?_ ?_, cellAd (W0 := W0) ?_ _ ?_ ?_⟩ <;> first | assumption | omega | exact Below.refl _ _)
      | ((try go_split_ands); refine ⟨keep2 (W0 := W0) ?_ ?_ _ _, cell2 (W0 := W0) ?_ _ _ ?_ ?_, cell2 (W0 := W0) ?_ _ _ ?_ ?_, cell2 (W0 := W0) ?_ _ _ ?_ ?_, cell2 (W0 := W0) ?_ _ _ ?_ ?_, cell2 (W0 := W0) ?_ _ _ ?_ ?_, cell2 (W0 := W0) ?_ _ _ ?_ ?_⟩ <;> first | assumption | omega | exact Nat.le_refl _)
      | ((try go_split_ands); refine ⟨keepZ (W0 := W0) ?_ ?_ _, cellZ (W0 := W0) ?_ _ ?_ ?_, cellZ (W0 := W0) ?_ _ ?_ ?_, cellZ (W0 := W0) ?_ _ ?_ ?_, cellZ (W0 := W0) ?_ _ ?_ ?_, cellZ (W0 := W0) ?_ _ ?_ ?_, cellZ (W0 := W0) ?_ _ ?_ ?_⟩ <;> first | assumption | omega | exact Nat.le_refl _ | exact ⟨_, by assumption⟩))
    (first | (go_at_call 25; (with_reducible refine (H1.out _).mono ?_); rintro e w1 ⟨rfl, hb1⟩; (try go_split_ands); have hge : W0.heap.size ≤ w1.heap.size := (by first | (refine (keepS (W0 := W0) ?_ hb1).size; assumption) | exact (hb1.size : W0.heap.size ≤ w1.heap.size)); (try have hrow := row_call hb1 hrow); (try have hrow := row_new hb1); (try have hrow := row_newd hb1); have hl1 := lt_below hb1; obtain ⟨hc1, hf1⟩ := bcell hb1; (try (have hrc := row_cellA hrow; clear hc1 hf1)); (try have hrf := row_frozA hrow)) | (go_at_call 26; (with_reducible refine (H2.out _).mono ?_); rintro e w1 ⟨rfl, hb1⟩; (try go_split_ands); have hge : W0.heap.size ≤ w1.heap.size := (by first | (refine (keepS (W0 := W0) ?_ hb1).size; assumption) | exact (hb1.size : W0.heap.size ≤ w1.heap.size)); (try have hrow := row_call hb1 hrow); (try have hrow := row_new hb1); (try have hrow := row_newd hb1); have hl1 := lt_below hb1; obtain ⟨hc1, hf1⟩ := bcell hb1; (try (have hrc := row_cellA hrow; clear hc1 hf1)); (try have hrf := row_frozA hrow)))
          all_goals (try go_split_ands)
          all_goals (go_wp2_with fail; go_meet; refine ⟨rfl, ?_⟩)
          all_goals first | assumption | exact heap_alloc_new _ _ | exact row_set (by assumption) _ _
        case rest =>
          obtain ⟨rfl, hB⟩ := hcut
          obtain ⟨V1, rfl⟩ : ∃ V, V = wc := ⟨_, rfl⟩
          clear A1_0 A1_1 A1_2 zA1 D1_0 D1_1 D1_2 zD1
          replace A1 := Lib.hid (row_call hB A1.out)
          replace D1 := Lib.hid (row_call hB D1.out)
          have B1 := Lib.hid (HB0.out.trans (hB.mono HB0.out.size))
          clear hB
          have A1_0 : V1.cell? ⟨w.heap.size, 0, none⟩ = some (.int .i64 y) := cell_of_row _ _ _ _ _ _ A1.out
          have A1_1 : V1.cell? ⟨w.heap.size, 1, none⟩ = some (.int .i64 m) := cell_of_row _ _ _ _ _ _ A1.out
          have A1_2 : V1.cell? ⟨w.heap.size, 2, none⟩ = some (.int .i64 d) := cell_of_row _ _ _ _ _ _ A1.out
          have zA1 := lt_of_heap A1.out
          have D1_0 : V1.cell? ⟨w.heap.size + 1, 0, none⟩ = some (.int .i64 y') := cell_of_row _ _ _ _ _ _ D1.out
          have D1_1 : V1.cell? ⟨w.heap.size + 1, 1, none⟩ = some (.int .i64 m') := cell_of_row _ _ _ _ _ _ D1.out
          have D1_2 : V1.cell? ⟨w.heap.size + 1, 2, none⟩ = some (.int .i64 d') := cell_of_row _ _ _ _ _ _ D1.out
          have zD1 := lt_of_heap D1.out
          go_wp2_with fail
          refine (H3.out _ (by first | exact md_keep hM (B1.out) | exact md_keep hM ((B1.out).alloc (B1.out.size) _) | exact md_keep hM (((B1.out).alloc (B1.out.size) _).alloc (by have := B1.out.size; simp <;> omega) _) | exact md_keep hM ((((B1.out).alloc (B1.out.size) _).alloc (by have := B1.out.size; simp <;> omega) _).alloc (by have := B1.out.size; simp <;> omega) _))).mono ?_
          rintro e V2 ⟨rfl, hb2⟩
          clear A1_0 A1_1 A1_2 zA1 D1_0 D1_1 D1_2 zD1
          have B2 : Hid (Below w.heap.size w V2) := by first | exact Lib.hid ((B1.out).trans (hb2.mono (by have := B1.out.size; first | assumption | (simp <;> omega) | (simp; done)))) | exact Lib.hid (((B1.out).alloc (B1.out.size) _).trans (hb2.mono (by have := B1.out.size; first | assumption | (simp <;> omega) | (simp; done)))) | exact Lib.hid ((((B1.out).alloc (B1.out.size) _).alloc (by have := B1.out.size; simp <;> omega) _).trans (hb2.mono (by have := B1.out.size; first | assumption | (simp <;> omega) | (simp; done)))) | exact Lib.hid (((((B1.out).alloc (B1.out.size) _).alloc (by have := B1.out.size; simp <;> omega) _).alloc (by have := B1.out.size; simp <;> omega) _).trans (hb2.mono (by have := B1.out.size; first | assumption | (simp <;> omega) | (simp; done))))
          first | replace A1 := Lib.hid (row_call hb2 A1.out) | replace A1 := Lib.hid (row_call hb2 (row_alloc A1.out _)) | replace A1 := Lib.hid (row_call hb2 (row_alloc (row_alloc A1.out _) _)) | replace A1 := Lib.hid (row_call hb2 (row_alloc (row_alloc (row_alloc A1.out _) _) _))
          first | replace D1 := Lib.hid (row_call hb2 D1.out) | replace D1 := Lib.hid (row_call hb2 (row_alloc D1.out _)) | replace D1 := Lib.hid (row_call hb2 (row_alloc (row_alloc D1.out _) _)) | replace D1 := Lib.hid (row_call hb2 (row_alloc (row_alloc (row_alloc D1.out _) _) _))
          clear hb2
          have A1_0 : V2.cell? ⟨w.heap.size, 0, none⟩ = some (.int .i64 y) := cell_of_row _ _ _ _ _ _ A1.out
          have A1_1 : V2.cell? ⟨w.heap.size, 1, none⟩ = some (.int .i64 m) := cell_of_row _ _ _ _ _ _ A1.out
          have A1_2 : V2.cell? ⟨w.heap.size, 2, none⟩ = some (.int .i64 d) := cell_of_row _ _ _ _ _ _ A1.out
          have D1_0 : V2.cell? ⟨w.heap.size + 1, 0, none⟩ = some (.int .i64 y') := cell_of_row _ _ _ _ _ _ D1.out
          have D1_1 : V2.cell? ⟨w.heap.size + 1, 1, none⟩ = some (.int .i64 m') := cell_of_row _ _ _ _ _ _ D1.out
          have D1_2 : V2.cell? ⟨w.heap.size + 1, 2, none⟩ = some (.int .i64 d') := cell_of_row _ _ _ _ _ _ D1.out
          have zA1 := lt_of_heap A1.out
          have zD1 := lt_of_heap D1.out
          go_simp
          go_wp2_with fail
          refine (H4.out _ (by first | exact md_keep hM (B2.out) | exact md_keep hM ((B2.out).alloc (B2.out.size) _) | exact md_keep hM (((B2.out).alloc (B2.out.size) _).alloc (by have := B2.out.size; simp <;> omega) _) | exact md_keep hM ((((B2.out).alloc (B2.out.size) _).alloc (by have := B2.out.size; simp <;> omega) _).alloc (by have := B2.out.size; simp <;> omega) _))).mono ?_
          rintro e V3 ⟨rfl, hb3⟩
          clear A1_0 A1_1 A1_2 zA1 D1_0 D1_1 D1_2 zD1
          have B3 : Hid (Below w.heap.size w V3) := by first | exact Lib.hid ((B2.out).trans (hb3.mono (by have := B2.out.size; first | assumption | (simp <;> omega) | (simp; done)))) | exact Lib.hid (((B2.out).alloc (B2.out.size) _).trans (hb3.mono (by have := B2.out.size; first | assumption | (simp <;> omega) | (simp; done)))) | exact Lib.hid ((((B2.out).alloc (B2.out.size) _).alloc (by have := B2.out.size; simp <;> omega) _).trans (hb3.mono (by have := B2.out.size; first | assumption | (simp <;> omega) | (simp; done)))) | exact Lib.hid (((((B2.out).alloc (B2.out.size) _).alloc (by have := B2.out.size; simp <;> omega) _).alloc (by have := B2.out.size; simp <;> omega) _).trans (hb3.mono (by have := B2.out.size; first | assumption | (simp <;> omega) | (simp; done))))
          first | replace A1 := Lib.hid (row_call hb3 A1.out) | replace A1 := Lib.hid (row_call hb3 (row_alloc A1.out _)) | replace A1 := Lib.hid (row_call hb3 (row_alloc (row_alloc A1.out _) _)) | replace A1 := Lib.hid (row_call hb3 (row_alloc (row_alloc (row_alloc A1.out _) _) _))
          first | replace D1 := Lib.hid (row_call hb3 D1.out) | replace D1 := Lib.hid (row_call hb3 (row_alloc D1.out _)) | replace D1 := Lib.hid (row_call hb3 (row_alloc (row_alloc D1.out _) _)) | replace D1 := Lib.hid (row_call hb3 (row_alloc (row_alloc (row_alloc D1.out _) _) _))
          clear hb3
          have A1_0 : V3.cell? ⟨w.heap.size, 0, none⟩ = some (.int .i64 y) := cell_of_row _ _ _ _ _ _ A1.out
          have A1_1 : V3.cell? ⟨w.heap.size, 1, none⟩ = some (.int .i64 m) := cell_of_row _ _ _ _ _ _ A1.out
          have A1_2 : V3.cell? ⟨w.heap.size, 2, none⟩ = some (.int .i64 d) := cell_of_row _ _ _ _ _ _ A1.out
          have D1_0 : V3.cell? ⟨w.heap.size + 1, 0, none⟩ = some (.int .i64 y') := cell_of_row _ _ _ _ _ _ D1.out
          have D1_1 : V3.cell? ⟨w.heap.size + 1, 1, none⟩ = some (.int .i64 m') := cell_of_row _ _ _ _ _ _ D1.out
          have D1_2 : V3.cell? ⟨w.heap.size + 1, 2, none⟩ = some (.int .i64 d') := cell_of_row _ _ _ _ _ _ D1.out
          have zA1 := lt_of_heap A1.out
          have zD1 := lt_of_heap D1.out
          go_simp
          go_wp2_with fail
          refine (H1.out _).mono ?_
          rintro e V4 ⟨rfl, hb4⟩
          clear A1_0 A1_1 A1_2 zA1 D1_0 D1_1 D1_2 zD1
          have B4 : Hid (Below w.heap.size w V4) := by first | exact Lib.hid ((B3.out).trans (hb4.mono (by have := B3.out.size; first | assumption | (simp <;> omega) | (simp; done)))) | exact Lib.hid (((B3.out).alloc (B3.out.size) _).trans (hb4.mono (by have := B3.out.size; first | assumption | (simp <;> omega) | (simp; done)))) | exact Lib.hid ((((B3.out).alloc (B3.out.size) _).alloc (by have := B3.out.size; simp <;> omega) _).trans (hb4.mono (by have := B3.out.size; first | assumption | (simp <;> omega) | (simp; done)))) | exact Lib.hid (((((B3.out).alloc (B3.out.size) _).alloc (by have := B3.out.size; simp <;> omega) _).alloc (by have := B3.out.size; simp <;> omega) _).trans (hb4.mono (by have := B3.out.size; first | assumption | (simp <;> omega) | (simp; done))))
          first | replace A1 := Lib.hid (row_call hb4 A1.out) | replace A1 := Lib.hid (row_call hb4 (row_alloc A1.out _)) | replace A1 := Lib.hid (row_call hb4 (row_alloc (row_alloc A1.out _) _)) | replace A1 := Lib.hid (row_call hb4 (row_alloc (row_alloc (row_alloc A1.out _) _) _))
          first | replace D1 := Lib.hid (row_call hb4 D1.out) | replace D1 := Lib.hid (row_call hb4 (row_alloc D1.out _)) | replace D1 := Lib.hid (row_call hb4 (row_alloc (row_alloc D1.out _) _)) | replace D1 := Lib.hid (row_call hb4 (row_alloc (row_alloc (row_alloc D1.out _) _) _))
          clear hb4
          have A1_0 : V4.cell? ⟨w.heap.size, 0, none⟩ = some (.int .i64 y) := cell_of_row _ _ _ _ _ _ A1.out
          have A1_1 : V4.cell? ⟨w.heap.size, 1, none⟩ = some (.int .i64 m) := cell_of_row _ _ _ _ _ _ A1.out
          have A1_2 : V4.cell? ⟨w.heap.size, 2, none⟩ = some (.int .i64 d) := cell_of_row _ _ _ _ _ _ A1.out
          have D1_0 : V4.cell? ⟨w.heap.size + 1, 0, none⟩ = some (.int .i64 y') := cell_of_row _ _ _ _ _ _ D1.out
          have D1_1 : V4.cell? ⟨w.heap.size + 1, 1, none⟩ = some (.int .i64 m') := cell_of_row _ _ _ _ _ _ D1.out
          have D1_2 : V4.cell? ⟨w.heap.size + 1, 2, none⟩ = some (.int .i64 d') := cell_of_row _ _ _ _ _ _ D1.out
          have zA1 := lt_of_heap A1.out
          have zD1 := lt_of_heap D1.out
          go_simp
          go_wp2_with fail
          refine (H7.out _ (by first | exact md_keep hM (B4.out) | exact md_keep hM ((B4.out).alloc (B4.out.size) _) | exact md_keep hM (((B4.out).alloc (B4.out.size) _).alloc (by have := B4.out.size; simp <;> omega) _) | exact md_keep hM ((((B4.out).alloc (B4.out.size) _).alloc (by have := B4.out.size; simp <;> omega) _).alloc (by have := B4.out.size; simp <;> omega) _))).mono ?_
          rintro e V5 ⟨rfl, hb5⟩
          clear A1_0 A1_1 A1_2 zA1 D1_0 D1_1 D1_2 zD1
          have B5 : Hid (Below w.heap.size w V5) := by first | exact Lib.hid ((B4.out).trans (hb5.mono (by have := B4.out.size; first | assumption | (simp <;> omega) | (simp; done)))) | exact Lib.hid (((B4.out).alloc (B4.out.size) _).trans (hb5.mono (by have := B4.out.size; first | assumption | (simp <;> omega) | (simp; done)))) | exact Lib.hid ((((B4.out).alloc (B4.out.size) _).alloc (by have := B4.out.size; simp <;> omega) _).trans (hb5.mono (by have := B4.out.size; first | assumption | (simp <;> omega) | (simp; done)))) | exact Lib.hid (((((B4.out).alloc (B4.out.size) _).alloc (by have := B4.out.size; simp <;> omega) _).alloc (by have := B4.out.size; simp <;> omega) _).trans (hb5.mono (by have := B4.out.size; first | assumption | (simp <;> omega) | (simp; done))))
          first | replace A1 := Lib.hid (row_call hb5 A1.out) | replace A1 := Lib.hid (row_call hb5 (row_alloc A1.out _)) | replace A1 := Lib.hid (row_call hb5 (row_alloc (row_alloc A1.out _) _)) | replace A1 := Lib.hid (row_call hb5 (row_alloc (row_alloc (row_alloc A1.out _) _) _))
          first | replace D1 := Lib.hid (row_call hb5 D1.out) | replace D1 := Lib.hid (row_call hb5 (row_alloc D1.out _)) | replace D1 := Lib.hid (row_call hb5 (row_alloc (row_alloc D1.out _) _)) | replace D1 := Lib.hid (row_call hb5 (row_alloc (row_alloc (row_alloc D1.out _) _) _))
          clear hb5
          have A1_0 : V5.cell? ⟨w.heap.size, 0, none⟩ = some (.int .i64 y) := cell_of_row _ _ _ _ _ _ A1.out
          have A1_1 : V5.cell? ⟨w.heap.size, 1, none⟩ = some (.int .i64 m) := cell_of_row _ _ _ _ _ _ A1.out
          have A1_2 : V5.cell? ⟨w.heap.size, 2, none⟩ = some (.int .i64 d) := cell_of_row _ _ _ _ _ _ A1.out
          have D1_0 : V5.cell? ⟨w.heap.size + 1, 0, none⟩ = some (.int .i64 y') := cell_of_row _ _ _ _ _ _ D1.out
          have D1_1 : V5.cell? ⟨w.heap.size + 1, 1, none⟩ = some (.int .i64 m') := cell_of_row _ _ _ _ _ _ D1.out
          have D1_2 : V5.cell? ⟨w.heap.size + 1, 2, none⟩ = some (.int .i64 d') := cell_of_row _ _ _ _ _ _ D1.out
          have zA1 := lt_of_heap A1.out
          have zD1 := lt_of_heap D1.out
          go_simp
          go_wp2
          go_ret
          exact ⟨rfl, by first | exact B5.out | exact B5.out.alloc B5.out.size _⟩
    · rw [h1] at X3
      have H3 := Lib.hid X3
      have H4 := Lib.hid X4
      clear X3 X4 h1
      generalize dyV y m d = A at *
      generalize dyV y' m' d' = B at *
      generalize ckC y' m' d' = E at *
      generalize ord3 y m d y' m' d' = O at *
      have f1 : (E != 0) = true := by rw [bne_iff_ne]; exact h2
      go_enter Tryd.func7, Tryd.ntmps7
      go_wp2_with fail
      
      obtain ⟨W0, hW0⟩ : ∃ W0, W0 = ((w.alloc (Obj.cells #[Value.int .i64 y, Value.int .i64 m, Value.int .i64 d] 27)).alloc (Obj.cells #[Value.int .i64 y', Value.int .i64 m', Value.int .i64 d'] 27)) := ⟨_, rfl⟩
      have A1 := Lib.hid (row_at (k' := w.heap.size) (by simp) (row_by hW0 (row_alloc (heap_alloc_new _ _) _)))
      have D1 := Lib.hid (row_at (k' := w.heap.size + 1) (by simp) (row_by hW0 (heap_alloc_new _ _)))
      have HB0 := Lib.hid (below_by hW0 (((Below.refl w.heap.size w).alloc (by simp <;> omega) _).alloc (by simp <;> omega) _))
      have HW0 := Lib.hid hW0
      clear hW0
      have A1_0 : W0.cell? ⟨w.heap.size, 0, none⟩ = some (.int .i64 y) := cell_of_row _ _ _ _ _ _ A1.out
      have A1_1 : W0.cell? ⟨w.heap.size, 1, none⟩ = some (.int .i64 m) := cell_of_row _ _ _ _ _ _ A1.out
      have A1_2 : W0.cell? ⟨w.heap.size, 2, none⟩ = some (.int .i64 d) := cell_of_row _ _ _ _ _ _ A1.out
      have zA1 := lt_of_heap A1.out
      have D1_0 : W0.cell? ⟨w.heap.size + 1, 0, none⟩ = some (.int .i64 y') := cell_of_row _ _ _ _ _ _ D1.out
      have D1_1 : W0.cell? ⟨w.heap.size + 1, 1, none⟩ = some (.int .i64 m') := cell_of_row _ _ _ _ _ _ D1.out
      have D1_2 : W0.cell? ⟨w.heap.size + 1, 2, none⟩ = some (.int .i64 d') := cell_of_row _ _ _ _ _ _ D1.out
      have zD1 := lt_of_heap D1.out
      try rw [← HW0.out]
      go_cut [16] (fun s16 wx => s16 = .bool false ∧ Below W0.heap.size W0 wx)
      case first =>
        go_region_held3 (fun w' => Below W0.heap.size W0 w' ∧ w'.cell? ⟨w.heap.size, 0, none⟩ = some (.int .i64 y) ∧ w'.cell? ⟨w.heap.size, 1, none⟩ = some (.int .i64 m) ∧ w'.cell? ⟨w.heap.size, 2, none⟩ = some (.int .i64 d) ∧ w'.cell? ⟨w.heap.size + 1, 0, none⟩ = some (.int .i64 y') ∧ w'.cell? ⟨w.heap.size + 1, 1, none⟩ = some (.int .i64 m') ∧ w'.cell? ⟨w.heap.size + 1, 2, none⟩ = some (.int .i64 d'))
    (first
      | ((try go_split_ands); refine ⟨(Below.refl _ _).drew, ?_, ?_, ?_, ?_, ?_, ?_⟩ <;> first | assumption | (rw [World.cell?_drew]; assumption))
      | ((try go_split_ands); refine ⟨keepS (W0 := W0) ?_ hb1, cellS (W0 := W0) ?_ hb1 ?_ ?_, cellS (W0 := W0) ?_ hb1 ?_ ?_, cellS (W0 := W0) ?_ hb1 ?_ ?_, cellS (W0 := W0) ?_ hb1 ?_ ?_, cellS (W0 := W0) ?_ hb1 ?_ ?_, cellS (W0 := W0) ?_ hb1 ?_ ?_⟩ <;> first | assumption | omega)
      | ((try go_split_ands); refine ⟨keepA (W0 := W0) ?_ _, cellA (W0 := W0) ?_ _ ?_ ?_, cellA (W0 := W0) ?_ _ ?_ ?_, cellA (W0 := W0) ?_ _ ?_ ?_, cellA (W0 := W0) ?_ _ ?_ ?_, cellA (W0 := W0) ?_ _ ?_ ?_, cellA (W0 := W0) ?_ _ ?_ ?_⟩ <;> first | assumption | omega)
      | ((try go_split_ands); refine ⟨keepAd (W0 := W0) ?_ _, cellAd (W0 := W0) ?_ _ ?_ ?_, cellAd (W0 := W0) ?_ _ ?_ ?_, cellAd (W0 := W0) ?_ _ ?_ ?_, cellAd (W0 := W0) ?_ _ ?_ ?_, cellAd (W0 := W0) ?_ _ ?_ ?_, cellAd (W0 := W0) ?_ _ ?_ ?_⟩ <;> first | assumption | omega | exact Below.refl _ _)
      | ((try go_split_ands); refine ⟨keep2 (W0 := W0) ?_ ?_ _ _, cell2 (W0 := W0) ?_ _ _ ?_ ?_, cell2 (W0 := W0) ?_ _ _ ?_ ?_, cell2 (W0 := W0) ?_ _ _ ?_ ?_, cell2 (W0 := W0) ?_ _ _ ?_ ?_, cell2 (W0 := W0) ?_ _ _ ?_ ?_, cell2 (W0 := W0) ?_ _ _ ?_ ?_⟩ <;> first | assumption | omega | exact Nat.le_refl _)
      | ((try go_split_ands); refine ⟨keepZ (W0 := W0) ?_ ?_ _, cellZ (W0 := W0) ?_ _ ?_ ?_, cellZ (W0 := W0) ?_ _ ?_ ?_, cellZ (W0 := W0) ?_ _ ?_ ?_, cellZ (W0 := W0) ?_ _ ?_ ?_, cellZ (W0 := W0) ?_ _ ?_ ?_, cellZ (W0 := W0) ?_ _ ?_ ?_⟩ <;> first | assumption | omega | exact Nat.le_refl _ | exact ⟨_, by assumption⟩))
    (first | (go_at_call 25; (with_reducible refine (H1.out _).mono ?_); rintro e w1 ⟨rfl, hb1⟩; (try go_split_ands); have hge : W0.heap.size ≤ w1.heap.size := (by first | (refine (keepS (W0 := W0) ?_ hb1).size; assumption) | exact (hb1.size : W0.heap.size ≤ w1.heap.size)); (try have hrow := row_call hb1 hrow); (try have hrow := row_new hb1); (try have hrow := row_newd hb1); have hl1 := lt_below hb1; obtain ⟨hc1, hf1⟩ := bcell hb1; (try (have hrc := row_cellA hrow; clear hc1 hf1)); (try have hrf := row_frozA hrow)) | (go_at_call 26; (with_reducible refine (H2.out _).mono ?_); rintro e w1 ⟨rfl, hb1⟩; (try go_split_ands); have hge : W0.heap.size ≤ w1.heap.size := (by first | (refine (keepS (W0 := W0) ?_ hb1).size; assumption) | exact (hb1.size : W0.heap.size ≤ w1.heap.size)); (try have hrow := row_call hb1 hrow); (try have hrow := row_new hb1); (try have hrow := row_newd hb1); have hl1 := lt_below hb1; obtain ⟨hc1, hf1⟩ := bcell hb1; (try (have hrc := row_cellA hrow; clear hc1 hf1)); (try have hrf := row_frozA hrow)))
        all_goals (try go_split_ands)
        all_goals (go_wp2_with fail; go_meet; refine ⟨rfl, ?_⟩)
        all_goals first | assumption | exact heap_alloc_new _ _ | exact row_set (by assumption) _ _
      case rest =>
        obtain ⟨rfl, hB⟩ := hcut
        obtain ⟨V1, rfl⟩ : ∃ V, V = wc := ⟨_, rfl⟩
        clear A1_0 A1_1 A1_2 zA1 D1_0 D1_1 D1_2 zD1
        replace A1 := Lib.hid (row_call hB A1.out)
        replace D1 := Lib.hid (row_call hB D1.out)
        have B1 := Lib.hid (HB0.out.trans (hB.mono HB0.out.size))
        clear hB
        have A1_0 : V1.cell? ⟨w.heap.size, 0, none⟩ = some (.int .i64 y) := cell_of_row _ _ _ _ _ _ A1.out
        have A1_1 : V1.cell? ⟨w.heap.size, 1, none⟩ = some (.int .i64 m) := cell_of_row _ _ _ _ _ _ A1.out
        have A1_2 : V1.cell? ⟨w.heap.size, 2, none⟩ = some (.int .i64 d) := cell_of_row _ _ _ _ _ _ A1.out
        have zA1 := lt_of_heap A1.out
        have D1_0 : V1.cell? ⟨w.heap.size + 1, 0, none⟩ = some (.int .i64 y') := cell_of_row _ _ _ _ _ _ D1.out
        have D1_1 : V1.cell? ⟨w.heap.size + 1, 1, none⟩ = some (.int .i64 m') := cell_of_row _ _ _ _ _ _ D1.out
        have D1_2 : V1.cell? ⟨w.heap.size + 1, 2, none⟩ = some (.int .i64 d') := cell_of_row _ _ _ _ _ _ D1.out
        have zD1 := lt_of_heap D1.out
        go_wp2_with fail
        refine (H3.out _ (by first | exact md_keep hM (B1.out) | exact md_keep hM ((B1.out).alloc (B1.out.size) _) | exact md_keep hM (((B1.out).alloc (B1.out.size) _).alloc (by have := B1.out.size; simp <;> omega) _) | exact md_keep hM ((((B1.out).alloc (B1.out.size) _).alloc (by have := B1.out.size; simp <;> omega) _).alloc (by have := B1.out.size; simp <;> omega) _))).mono ?_
        rintro e V2 ⟨rfl, hb2⟩
        clear A1_0 A1_1 A1_2 zA1 D1_0 D1_1 D1_2 zD1
        have B2 : Hid (Below w.heap.size w V2) := by first | exact Lib.hid ((B1.out).trans (hb2.mono (by have := B1.out.size; first | assumption | (simp <;> omega) | (simp; done)))) | exact Lib.hid (((B1.out).alloc (B1.out.size) _).trans (hb2.mono (by have := B1.out.size; first | assumption | (simp <;> omega) | (simp; done)))) | exact Lib.hid ((((B1.out).alloc (B1.out.size) _).alloc (by have := B1.out.size; simp <;> omega) _).trans (hb2.mono (by have := B1.out.size; first | assumption | (simp <;> omega) | (simp; done)))) | exact Lib.hid (((((B1.out).alloc (B1.out.size) _).alloc (by have := B1.out.size; simp <;> omega) _).alloc (by have := B1.out.size; simp <;> omega) _).trans (hb2.mono (by have := B1.out.size; first | assumption | (simp <;> omega) | (simp; done))))
        first | replace A1 := Lib.hid (row_call hb2 A1.out) | replace A1 := Lib.hid (row_call hb2 (row_alloc A1.out _)) | replace A1 := Lib.hid (row_call hb2 (row_alloc (row_alloc A1.out _) _)) | replace A1 := Lib.hid (row_call hb2 (row_alloc (row_alloc (row_alloc A1.out _) _) _))
        first | replace D1 := Lib.hid (row_call hb2 D1.out) | replace D1 := Lib.hid (row_call hb2 (row_alloc D1.out _)) | replace D1 := Lib.hid (row_call hb2 (row_alloc (row_alloc D1.out _) _)) | replace D1 := Lib.hid (row_call hb2 (row_alloc (row_alloc (row_alloc D1.out _) _) _))
        clear hb2
        have A1_0 : V2.cell? ⟨w.heap.size, 0, none⟩ = some (.int .i64 y) := cell_of_row _ _ _ _ _ _ A1.out
        have A1_1 : V2.cell? ⟨w.heap.size, 1, none⟩ = some (.int .i64 m) := cell_of_row _ _ _ _ _ _ A1.out
        have A1_2 : V2.cell? ⟨w.heap.size, 2, none⟩ = some (.int .i64 d) := cell_of_row _ _ _ _ _ _ A1.out
        have D1_0 : V2.cell? ⟨w.heap.size + 1, 0, none⟩ = some (.int .i64 y') := cell_of_row _ _ _ _ _ _ D1.out
        have D1_1 : V2.cell? ⟨w.heap.size + 1, 1, none⟩ = some (.int .i64 m') := cell_of_row _ _ _ _ _ _ D1.out
        have D1_2 : V2.cell? ⟨w.heap.size + 1, 2, none⟩ = some (.int .i64 d') := cell_of_row _ _ _ _ _ _ D1.out
        have zA1 := lt_of_heap A1.out
        have zD1 := lt_of_heap D1.out
        go_simp
        go_wp2_with fail
        refine (H4.out _ (by first | exact md_keep hM (B2.out) | exact md_keep hM ((B2.out).alloc (B2.out.size) _) | exact md_keep hM (((B2.out).alloc (B2.out.size) _).alloc (by have := B2.out.size; simp <;> omega) _) | exact md_keep hM ((((B2.out).alloc (B2.out.size) _).alloc (by have := B2.out.size; simp <;> omega) _).alloc (by have := B2.out.size; simp <;> omega) _))).mono ?_
        rintro e V3 ⟨rfl, hb3⟩
        clear A1_0 A1_1 A1_2 zA1 D1_0 D1_1 D1_2 zD1
        have B3 : Hid (Below w.heap.size w V3) := by first | exact Lib.hid ((B2.out).trans (hb3.mono (by have := B2.out.size; first | assumption | (simp <;> omega) | (simp; done)))) | exact Lib.hid (((B2.out).alloc (B2.out.size) _).trans (hb3.mono (by have := B2.out.size; first | assumption | (simp <;> omega) | (simp; done)))) | exact Lib.hid ((((B2.out).alloc (B2.out.size) _).alloc (by have := B2.out.size; simp <;> omega) _).trans (hb3.mono (by have := B2.out.size; first | assumption | (simp <;> omega) | (simp; done)))) | exact Lib.hid (((((B2.out).alloc (B2.out.size) _).alloc (by have := B2.out.size; simp <;> omega) _).alloc (by have := B2.out.size; simp <;> omega) _).trans (hb3.mono (by have := B2.out.size; first | assumption | (simp <;> omega) | (simp; done))))
        first | replace A1 := Lib.hid (row_call hb3 A1.out) | replace A1 := Lib.hid (row_call hb3 (row_alloc A1.out _)) | replace A1 := Lib.hid (row_call hb3 (row_alloc (row_alloc A1.out _) _)) | replace A1 := Lib.hid (row_call hb3 (row_alloc (row_alloc (row_alloc A1.out _) _) _))
        first | replace D1 := Lib.hid (row_call hb3 D1.out) | replace D1 := Lib.hid (row_call hb3 (row_alloc D1.out _)) | replace D1 := Lib.hid (row_call hb3 (row_alloc (row_alloc D1.out _) _)) | replace D1 := Lib.hid (row_call hb3 (row_alloc (row_alloc (row_alloc D1.out _) _) _))
        clear hb3
        have A1_0 : V3.cell? ⟨w.heap.size, 0, none⟩ = some (.int .i64 y) := cell_of_row _ _ _ _ _ _ A1.out
        have A1_1 : V3.cell? ⟨w.heap.size, 1, none⟩ = some (.int .i64 m) := cell_of_row _ _ _ _ _ _ A1.out
        have A1_2 : V3.cell? ⟨w.heap.size, 2, none⟩ = some (.int .i64 d) := cell_of_row _ _ _ _ _ _ A1.out
        have D1_0 : V3.cell? ⟨w.heap.size + 1, 0, none⟩ = some (.int .i64 y') := cell_of_row _ _ _ _ _ _ D1.out
        have D1_1 : V3.cell? ⟨w.heap.size + 1, 1, none⟩ = some (.int .i64 m') := cell_of_row _ _ _ _ _ _ D1.out
        have D1_2 : V3.cell? ⟨w.heap.size + 1, 2, none⟩ = some (.int .i64 d') := cell_of_row _ _ _ _ _ _ D1.out
        have zA1 := lt_of_heap A1.out
        have zD1 := lt_of_heap D1.out
        go_simp
        go_wp2_with fail
        refine (H7.out _ (by first | exact md_keep hM (B3.out) | exact md_keep hM ((B3.out).alloc (B3.out.size) _) | exact md_keep hM (((B3.out).alloc (B3.out.size) _).alloc (by have := B3.out.size; simp <;> omega) _) | exact md_keep hM ((((B3.out).alloc (B3.out.size) _).alloc (by have := B3.out.size; simp <;> omega) _).alloc (by have := B3.out.size; simp <;> omega) _))).mono ?_
        rintro e V4 ⟨rfl, hb4⟩
        clear A1_0 A1_1 A1_2 zA1 D1_0 D1_1 D1_2 zD1
        have B4 : Hid (Below w.heap.size w V4) := by first | exact Lib.hid ((B3.out).trans (hb4.mono (by have := B3.out.size; first | assumption | (simp <;> omega) | (simp; done)))) | exact Lib.hid (((B3.out).alloc (B3.out.size) _).trans (hb4.mono (by have := B3.out.size; first | assumption | (simp <;> omega) | (simp; done)))) | exact Lib.hid ((((B3.out).alloc (B3.out.size) _).alloc (by have := B3.out.size; simp <;> omega) _).trans (hb4.mono (by have := B3.out.size; first | assumption | (simp <;> omega) | (simp; done)))) | exact Lib.hid (((((B3.out).alloc (B3.out.size) _).alloc (by have := B3.out.size; simp <;> omega) _).alloc (by have := B3.out.size; simp <;> omega) _).trans (hb4.mono (by have := B3.out.size; first | assumption | (simp <;> omega) | (simp; done))))
        first | replace A1 := Lib.hid (row_call hb4 A1.out) | replace A1 := Lib.hid (row_call hb4 (row_alloc A1.out _)) | replace A1 := Lib.hid (row_call hb4 (row_alloc (row_alloc A1.out _) _)) | replace A1 := Lib.hid (row_call hb4 (row_alloc (row_alloc (row_alloc A1.out _) _) _))
        first | replace D1 := Lib.hid (row_call hb4 D1.out) | replace D1 := Lib.hid (row_call hb4 (row_alloc D1.out _)) | replace D1 := Lib.hid (row_call hb4 (row_alloc (row_alloc D1.out _) _)) | replace D1 := Lib.hid (row_call hb4 (row_alloc (row_alloc (row_alloc D1.out _) _) _))
        clear hb4
        have A1_0 : V4.cell? ⟨w.heap.size, 0, none⟩ = some (.int .i64 y) := cell_of_row _ _ _ _ _ _ A1.out
        have A1_1 : V4.cell? ⟨w.heap.size, 1, none⟩ = some (.int .i64 m) := cell_of_row _ _ _ _ _ _ A1.out
        have A1_2 : V4.cell? ⟨w.heap.size, 2, none⟩ = some (.int .i64 d) := cell_of_row _ _ _ _ _ _ A1.out
        have D1_0 : V4.cell? ⟨w.heap.size + 1, 0, none⟩ = some (.int .i64 y') := cell_of_row _ _ _ _ _ _ D1.out
        have D1_1 : V4.cell? ⟨w.heap.size + 1, 1, none⟩ = some (.int .i64 m') := cell_of_row _ _ _ _ _ _ D1.out
        have D1_2 : V4.cell? ⟨w.heap.size + 1, 2, none⟩ = some (.int .i64 d') := cell_of_row _ _ _ _ _ _ D1.out
        have zA1 := lt_of_heap A1.out
        have zD1 := lt_of_heap D1.out
        go_simp
        go_wp2
        go_ret
        exact ⟨rfl, by first | exact B4.out | exact B4.out.alloc B4.out.size _⟩
  · have H3 := Lib.hid X3
    have H4 := Lib.hid X4
    clear X3 X4
    generalize dyV y m d = A at *
    generalize dyV y' m' d' = B at *
    generalize ckC y m d = E at *
    generalize ckC y' m' d' = E' at *
    generalize ord3 y m d y' m' d' = O at *
    have f1 : (E != 0) = true := by rw [bne_iff_ne]; exact h1
    go_enter Tryd.func7, Tryd.ntmps7
    go_wp2_with fail
    
    obtain ⟨W0, hW0⟩ : ∃ W0, W0 = ((w.alloc (Obj.cells #[Value.int .i64 y, Value.int .i64 m, Value.int .i64 d] 27)).alloc (Obj.cells #[Value.int .i64 y', Value.int .i64 m', Value.int .i64 d'] 27)) := ⟨_, rfl⟩
    have A1 := Lib.hid (row_at (k' := w.heap.size) (by simp) (row_by hW0 (row_alloc (heap_alloc_new _ _) _)))
    have D1 := Lib.hid (row_at (k' := w.heap.size + 1) (by simp) (row_by hW0 (heap_alloc_new _ _)))
    have HB0 := Lib.hid (below_by hW0 (((Below.refl w.heap.size w).alloc (by simp <;> omega) _).alloc (by simp <;> omega) _))
    have HW0 := Lib.hid hW0
    clear hW0
    have A1_0 : W0.cell? ⟨w.heap.size, 0, none⟩ = some (.int .i64 y) := cell_of_row _ _ _ _ _ _ A1.out
    have A1_1 : W0.cell? ⟨w.heap.size, 1, none⟩ = some (.int .i64 m) := cell_of_row _ _ _ _ _ _ A1.out
    have A1_2 : W0.cell? ⟨w.heap.size, 2, none⟩ = some (.int .i64 d) := cell_of_row _ _ _ _ _ _ A1.out
    have zA1 := lt_of_heap A1.out
    have D1_0 : W0.cell? ⟨w.heap.size + 1, 0, none⟩ = some (.int .i64 y') := cell_of_row _ _ _ _ _ _ D1.out
    have D1_1 : W0.cell? ⟨w.heap.size + 1, 1, none⟩ = some (.int .i64 m') := cell_of_row _ _ _ _ _ _ D1.out
    have D1_2 : W0.cell? ⟨w.heap.size + 1, 2, none⟩ = some (.int .i64 d') := cell_of_row _ _ _ _ _ _ D1.out
    have zD1 := lt_of_heap D1.out
    try rw [← HW0.out]
    go_cut [16] (fun s16 wx => s16 = .bool false ∧ Below W0.heap.size W0 wx)
    case first =>
      go_region_held3 (fun w' => Below W0.heap.size W0 w' ∧ w'.cell? ⟨w.heap.size, 0, none⟩ = some (.int .i64 y) ∧ w'.cell? ⟨w.heap.size, 1, none⟩ = some (.int .i64 m) ∧ w'.cell? ⟨w.heap.size, 2, none⟩ = some (.int .i64 d) ∧ w'.cell? ⟨w.heap.size + 1, 0, none⟩ = some (.int .i64 y') ∧ w'.cell? ⟨w.heap.size + 1, 1, none⟩ = some (.int .i64 m') ∧ w'.cell? ⟨w.heap.size + 1, 2, none⟩ = some (.int .i64 d'))
    (first
      | ((try go_split_ands); refine ⟨(Below.refl _ _).drew, ?_, ?_, ?_, ?_, ?_, ?_⟩ <;> first | assumption | (rw [World.cell?_drew]; assumption))
      | ((try go_split_ands); refine ⟨keepS (W0 := W0) ?_ hb1, cellS (W0 := W0) ?_ hb1 ?_ ?_, cellS (W0 := W0) ?_ hb1 ?_ ?_, cellS (W0 := W0) ?_ hb1 ?_ ?_, cellS (W0 := W0) ?_ hb1 ?_ ?_, cellS (W0 := W0) ?_ hb1 ?_ ?_, cellS (W0 := W0) ?_ hb1 ?_ ?_⟩ <;> first | assumption | omega)
      | ((try go_split_ands); refine ⟨keepA (W0 := W0) ?_ _, cellA (W0 := W0) ?_ _ ?_ ?_, cellA (W0 := W0) ?_ _ ?_ ?_, cellA (W0 := W0) ?_ _ ?_ ?_, cellA (W0 := W0) ?_ _ ?_ ?_, cellA (W0 := W0) ?_ _ ?_ ?_, cellA (W0 := W0) ?_ _ ?_ ?_⟩ <;> first | assumption | omega)
      | ((try go_split_ands); refine ⟨keepAd (W0 := W0) ?_ _, cellAd (W0 := W0) ?_ _ ?_ ?_, cellAd (W0 := W0) ?_ _ ?_ ?_, cellAd (W0 := W0) ?_ _ ?_ ?_, cellAd (W0 := W0) ?_ _ ?_ ?_, cellAd (W0 := W0) ?_ _ ?_ ?_, cellAd (W0 := W0) ?_ _ ?_ ?_⟩ <;> first | assumption | omega | exact Below.refl _ _)
      | ((try go_split_ands); refine ⟨keep2 (W0 := W0) ?_ ?_ _ _, cell2 (W0 := W0) ?_ _ _ ?_ ?_, cell2 (W0 := W0) ?_ _ _ ?_ ?_, cell2 (W0 := W0) ?_ _ _ ?_ ?_, cell2 (W0 := W0) ?_ _ _ ?_ ?_, cell2 (W0 := W0) ?_ _ _ ?_ ?_, cell2 (W0 := W0) ?_ _ _ ?_ ?_⟩ <;> first | assumption | omega | exact Nat.le_refl _)
      | ((try go_split_ands); refine ⟨keepZ (W0 := W0) ?_ ?_ _, cellZ (W0 := W0) ?_ _ ?_ ?_, cellZ (W0 := W0) ?_ _ ?_ ?_, cellZ (W0 := W0) ?_ _ ?_ ?_, cellZ (W0 := W0) ?_ _ ?_ ?_, cellZ (W0 := W0) ?_ _ ?_ ?_, cellZ (W0 := W0) ?_ _ ?_ ?_⟩ <;> first | assumption | omega | exact Nat.le_refl _ | exact ⟨_, by assumption⟩))
    (first | (go_at_call 25; (with_reducible refine (H1.out _).mono ?_); rintro e w1 ⟨rfl, hb1⟩; (try go_split_ands); have hge : W0.heap.size ≤ w1.heap.size := (by first | (refine (keepS (W0 := W0) ?_ hb1).size; assumption) | exact (hb1.size : W0.heap.size ≤ w1.heap.size)); (try have hrow := row_call hb1 hrow); (try have hrow := row_new hb1); (try have hrow := row_newd hb1); have hl1 := lt_below hb1; obtain ⟨hc1, hf1⟩ := bcell hb1; (try (have hrc := row_cellA hrow; clear hc1 hf1)); (try have hrf := row_frozA hrow)) | (go_at_call 26; (with_reducible refine (H2.out _).mono ?_); rintro e w1 ⟨rfl, hb1⟩; (try go_split_ands); have hge : W0.heap.size ≤ w1.heap.size := (by first | (refine (keepS (W0 := W0) ?_ hb1).size; assumption) | exact (hb1.size : W0.heap.size ≤ w1.heap.size)); (try have hrow := row_call hb1 hrow); (try have hrow := row_new hb1); (try have hrow := row_newd hb1); have hl1 := lt_below hb1; obtain ⟨hc1, hf1⟩ := bcell hb1; (try (have hrc := row_cellA hrow; clear hc1 hf1)); (try have hrf := row_frozA hrow)))
      all_goals (try go_split_ands)
      all_goals (go_wp2_with fail; go_meet; refine ⟨rfl, ?_⟩)
      all_goals first | assumption | exact heap_alloc_new _ _ | exact row_set (by assumption) _ _
    case rest =>
      obtain ⟨rfl, hB⟩ := hcut
      obtain ⟨V1, rfl⟩ : ∃ V, V = wc := ⟨_, rfl⟩
      clear A1_0 A1_1 A1_2 zA1 D1_0 D1_1 D1_2 zD1
      replace A1 := Lib.hid (row_call hB A1.out)
      replace D1 := Lib.hid (row_call hB D1.out)
      have B1 := Lib.hid (HB0.out.trans (hB.mono HB0.out.size))
      clear hB
      have A1_0 : V1.cell? ⟨w.heap.size, 0, none⟩ = some (.int .i64 y) := cell_of_row _ _ _ _ _ _ A1.out
      have A1_1 : V1.cell? ⟨w.heap.size, 1, none⟩ = some (.int .i64 m) := cell_of_row _ _ _ _ _ _ A1.out
      have A1_2 : V1.cell? ⟨w.heap.size, 2, none⟩ = some (.int .i64 d) := cell_of_row _ _ _ _ _ _ A1.out
      have zA1 := lt_of_heap A1.out
      have D1_0 : V1.cell? ⟨w.heap.size + 1, 0, none⟩ = some (.int .i64 y') := cell_of_row _ _ _ _ _ _ D1.out
      have D1_1 : V1.cell? ⟨w.heap.size + 1, 1, none⟩ = some (.int .i64 m') := cell_of_row _ _ _ _ _ _ D1.out
      have D1_2 : V1.cell? ⟨w.heap.size + 1, 2, none⟩ = some (.int .i64 d') := cell_of_row _ _ _ _ _ _ D1.out
      have zD1 := lt_of_heap D1.out
      go_wp2_with fail
      refine (H3.out _ (by first | exact md_keep hM (B1.out) | exact md_keep hM ((B1.out).alloc (B1.out.size) _) | exact md_keep hM (((B1.out).alloc (B1.out.size) _).alloc (by have := B1.out.size; simp <;> omega) _) | exact md_keep hM ((((B1.out).alloc (B1.out.size) _).alloc (by have := B1.out.size; simp <;> omega) _).alloc (by have := B1.out.size; simp <;> omega) _))).mono ?_
      rintro e V2 ⟨rfl, hb2⟩
      clear A1_0 A1_1 A1_2 zA1 D1_0 D1_1 D1_2 zD1
      have B2 : Hid (Below w.heap.size w V2) := by first | exact Lib.hid ((B1.out).trans (hb2.mono (by have := B1.out.size; first | assumption | (simp <;> omega) | (simp; done)))) | exact Lib.hid (((B1.out).alloc (B1.out.size) _).trans (hb2.mono (by have := B1.out.size; first | assumption | (simp <;> omega) | (simp; done)))) | exact Lib.hid ((((B1.out).alloc (B1.out.size) _).alloc (by have := B1.out.size; simp <;> omega) _).trans (hb2.mono (by have := B1.out.size; first | assumption | (simp <;> omega) | (simp; done)))) | exact Lib.hid (((((B1.out).alloc (B1.out.size) _).alloc (by have := B1.out.size; simp <;> omega) _).alloc (by have := B1.out.size; simp <;> omega) _).trans (hb2.mono (by have := B1.out.size; first | assumption | (simp <;> omega) | (simp; done))))
      first | replace A1 := Lib.hid (row_call hb2 A1.out) | replace A1 := Lib.hid (row_call hb2 (row_alloc A1.out _)) | replace A1 := Lib.hid (row_call hb2 (row_alloc (row_alloc A1.out _) _)) | replace A1 := Lib.hid (row_call hb2 (row_alloc (row_alloc (row_alloc A1.out _) _) _))
      first | replace D1 := Lib.hid (row_call hb2 D1.out) | replace D1 := Lib.hid (row_call hb2 (row_alloc D1.out _)) | replace D1 := Lib.hid (row_call hb2 (row_alloc (row_alloc D1.out _) _)) | replace D1 := Lib.hid (row_call hb2 (row_alloc (row_alloc (row_alloc D1.out _) _) _))
      clear hb2
      have A1_0 : V2.cell? ⟨w.heap.size, 0, none⟩ = some (.int .i64 y) := cell_of_row _ _ _ _ _ _ A1.out
      have A1_1 : V2.cell? ⟨w.heap.size, 1, none⟩ = some (.int .i64 m) := cell_of_row _ _ _ _ _ _ A1.out
      have A1_2 : V2.cell? ⟨w.heap.size, 2, none⟩ = some (.int .i64 d) := cell_of_row _ _ _ _ _ _ A1.out
      have D1_0 : V2.cell? ⟨w.heap.size + 1, 0, none⟩ = some (.int .i64 y') := cell_of_row _ _ _ _ _ _ D1.out
      have D1_1 : V2.cell? ⟨w.heap.size + 1, 1, none⟩ = some (.int .i64 m') := cell_of_row _ _ _ _ _ _ D1.out
      have D1_2 : V2.cell? ⟨w.heap.size + 1, 2, none⟩ = some (.int .i64 d') := cell_of_row _ _ _ _ _ _ D1.out
      have zA1 := lt_of_heap A1.out
      have zD1 := lt_of_heap D1.out
      go_simp
      go_wp2_with fail
      refine (H4.out _ (by first | exact md_keep hM (B2.out) | exact md_keep hM ((B2.out).alloc (B2.out.size) _) | exact md_keep hM (((B2.out).alloc (B2.out.size) _).alloc (by have := B2.out.size; simp <;> omega) _) | exact md_keep hM ((((B2.out).alloc (B2.out.size) _).alloc (by have := B2.out.size; simp <;> omega) _).alloc (by have := B2.out.size; simp <;> omega) _))).mono ?_
      rintro e V3 ⟨rfl, hb3⟩
      clear A1_0 A1_1 A1_2 zA1 D1_0 D1_1 D1_2 zD1
      have B3 : Hid (Below w.heap.size w V3) := by first | exact Lib.hid ((B2.out).trans (hb3.mono (by have := B2.out.size; first | assumption | (simp <;> omega) | (simp; done)))) | exact Lib.hid (((B2.out).alloc (B2.out.size) _).trans (hb3.mono (by have := B2.out.size; first | assumption | (simp <;> omega) | (simp; done)))) | exact Lib.hid ((((B2.out).alloc (B2.out.size) _).alloc (by have := B2.out.size; simp <;> omega) _).trans (hb3.mono (by have := B2.out.size; first | assumption | (simp <;> omega) | (simp; done)))) | exact Lib.hid (((((B2.out).alloc (B2.out.size) _).alloc (by have := B2.out.size; simp <;> omega) _).alloc (by have := B2.out.size; simp <;> omega) _).trans (hb3.mono (by have := B2.out.size; first | assumption | (simp <;> omega) | (simp; done))))
      first | replace A1 := Lib.hid (row_call hb3 A1.out) | replace A1 := Lib.hid (row_call hb3 (row_alloc A1.out _)) | replace A1 := Lib.hid (row_call hb3 (row_alloc (row_alloc A1.out _) _)) | replace A1 := Lib.hid (row_call hb3 (row_alloc (row_alloc (row_alloc A1.out _) _) _))
      first | replace D1 := Lib.hid (row_call hb3 D1.out) | replace D1 := Lib.hid (row_call hb3 (row_alloc D1.out _)) | replace D1 := Lib.hid (row_call hb3 (row_alloc (row_alloc D1.out _) _)) | replace D1 := Lib.hid (row_call hb3 (row_alloc (row_alloc (row_alloc D1.out _) _) _))
      clear hb3
      have A1_0 : V3.cell? ⟨w.heap.size, 0, none⟩ = some (.int .i64 y) := cell_of_row _ _ _ _ _ _ A1.out
      have A1_1 : V3.cell? ⟨w.heap.size, 1, none⟩ = some (.int .i64 m) := cell_of_row _ _ _ _ _ _ A1.out
      have A1_2 : V3.cell? ⟨w.heap.size, 2, none⟩ = some (.int .i64 d) := cell_of_row _ _ _ _ _ _ A1.out
      have D1_0 : V3.cell? ⟨w.heap.size + 1, 0, none⟩ = some (.int .i64 y') := cell_of_row _ _ _ _ _ _ D1.out
      have D1_1 : V3.cell? ⟨w.heap.size + 1, 1, none⟩ = some (.int .i64 m') := cell_of_row _ _ _ _ _ _ D1.out
      have D1_2 : V3.cell? ⟨w.heap.size + 1, 2, none⟩ = some (.int .i64 d') := cell_of_row _ _ _ _ _ _ D1.out
      have zA1 := lt_of_heap A1.out
      have zD1 := lt_of_heap D1.out
      go_simp
      go_wp2_with fail
      refine (H7.out _ (by first | exact md_keep hM (B3.out) | exact md_keep hM ((B3.out).alloc (B3.out.size) _) | exact md_keep hM (((B3.out).alloc (B3.out.size) _).alloc (by have := B3.out.size; simp <;> omega) _) | exact md_keep hM ((((B3.out).alloc (B3.out.size) _).alloc (by have := B3.out.size; simp <;> omega) _).alloc (by have := B3.out.size; simp <;> omega) _))).mono ?_
      rintro e V4 ⟨rfl, hb4⟩
      clear A1_0 A1_1 A1_2 zA1 D1_0 D1_1 D1_2 zD1
      have B4 : Hid (Below w.heap.size w V4) := by first | exact Lib.hid ((B3.out).trans (hb4.mono (by have := B3.out.size; first | assumption | (simp <;> omega) | (simp; done)))) | exact Lib.hid (((B3.out).alloc (B3.out.size) _).trans (hb4.mono (by have := B3.out.size; first | assumption | (simp <;> omega) | (simp; done)))) | exact Lib.hid ((((B3.out).alloc (B3.out.size) _).alloc (by have := B3.out.size; simp <;> omega) _).trans (hb4.mono (by have := B3.out.size; first | assumption | (simp <;> omega) | (simp; done)))) | exact Lib.hid (((((B3.out).alloc (B3.out.size) _).alloc (by have := B3.out.size; simp <;> omega) _).alloc (by have := B3.out.size; simp <;> omega) _).trans (hb4.mono (by have := B3.out.size; first | assumption | (simp <;> omega) | (simp; done))))
      first | replace A1 := Lib.hid (row_call hb4 A1.out) | replace A1 := Lib.hid (row_call hb4 (row_alloc A1.out _)) | replace A1 := Lib.hid (row_call hb4 (row_alloc (row_alloc A1.out _) _)) | replace A1 := Lib.hid (row_call hb4 (row_alloc (row_alloc (row_alloc A1.out _) _) _))
      first | replace D1 := Lib.hid (row_call hb4 D1.out) | replace D1 := Lib.hid (row_call hb4 (row_alloc D1.out _)) | replace D1 := Lib.hid (row_call hb4 (row_alloc (row_alloc D1.out _) _)) | replace D1 := Lib.hid (row_call hb4 (row_alloc (row_alloc (row_alloc D1.out _) _) _))
      clear hb4
      have A1_0 : V4.cell? ⟨w.heap.size, 0, none⟩ = some (.int .i64 y) := cell_of_row _ _ _ _ _ _ A1.out
      have A1_1 : V4.cell? ⟨w.heap.size, 1, none⟩ = some (.int .i64 m) := cell_of_row _ _ _ _ _ _ A1.out
      have A1_2 : V4.cell? ⟨w.heap.size, 2, none⟩ = some (.int .i64 d) := cell_of_row _ _ _ _ _ _ A1.out
      have D1_0 : V4.cell? ⟨w.heap.size + 1, 0, none⟩ = some (.int .i64 y') := cell_of_row _ _ _ _ _ _ D1.out
      have D1_1 : V4.cell? ⟨w.heap.size + 1, 1, none⟩ = some (.int .i64 m') := cell_of_row _ _ _ _ _ _ D1.out
      have D1_2 : V4.cell? ⟨w.heap.size + 1, 2, none⟩ = some (.int .i64 d') := cell_of_row _ _ _ _ _ _ D1.out
      have zA1 := lt_of_heap A1.out
      have zD1 := lt_of_heap D1.out
      go_simp
      go_wp2
      go_ret
      exact ⟨rfl, by first | exact B4.out | exact B4.out.alloc B4.out.size _⟩
end Go.Proofs.YtbphbkllbdoldaaDoor
