/- Several texts in one: UnP, UnL. -/
import Derived.Test.YtoopbgpoelpjfaaDoorZOrE1
import Derived.Test.YtoopbgpoelpjfaaDoorZMo2
import Derived.Test.YtoopbgpoelpjfaaDoorZUn2
import Derived.WalkMore
namespace Go.Proofs.YtoopbgpoelpjfaaDoor
set_option linter.unusedVariables false
set_option linter.unusedSimpArgs false
open Go.ChangeShapes Go.WideShapes Go.ChangeAt Go.RowKit
set_option maxHeartbeats 1600000 in
set_option maxRecDepth 100000 in
theorem pUMonths_no (y m d Y M D : Int) (h : unE y m d Y M D ≠ 0) (w : World) (hM : MD w) : Calls Tryd.prog 9 #[.agg #[.int .i64 y, .int .i64 m, .int .i64 d], .agg #[.int .i64 Y, .int .i64 M, .int .i64 D]] w fun e w' => e = .returned (.tuple #[.int .i64 0, .int .i64 (unE y m d Y M D)]) ∧ Below w.heap.size w w' := by
  have H1 := Lib.hid (pCheck_any y m d)
  have H2 := Lib.hid (pCheck_any Y M D)
  have X3 := or2_any (ckC y m d) (ckC Y M D)
  rw [or2_unE] at X3
  have H3 := Lib.hid X3
  clear X3
  generalize unE y m d Y M D = E at *
  generalize ckC y m d = c1 at *
  generalize ckC Y M D = c2 at *
  have f1 : (E != 0) = true := by rw [bne_iff_ne]; exact h
  clear h
  replace hM := Lib.hid hM
  go_enter Tryd.func9, Tryd.ntmps9
  go_wp2_with fail
  
  obtain ⟨W0, hW0⟩ : ∃ W0, W0 = ((w.alloc (Obj.cells #[Value.int .i64 y, Value.int .i64 m, Value.int .i64 d] 23)).alloc (Obj.cells #[Value.int .i64 Y, Value.int .i64 M, Value.int .i64 D] 23)) := ⟨_, rfl⟩
  have A1 := Lib.hid (row_at (k' := w.heap.size) (by simp) (row_by hW0 (row_alloc (heap_alloc_new _ _) _)))
  have C1 := Lib.hid (row_at (k' := w.heap.size + 1) (by simp) (row_by hW0 (heap_alloc_new _ _)))
  have HB0 := Lib.hid (below_by hW0 (((Below.refl w.heap.size w).alloc (by simp <;> omega) _).alloc (by simp <;> omega) _))
  have HW0 := Lib.hid hW0
  clear hW0
  have A1_0 : W0.cell? ⟨w.heap.size, 0, none⟩ = some (.int .i64 y) := cell_of_row _ _ _ _ _ _ A1.out
  have A1_1 : W0.cell? ⟨w.heap.size, 1, none⟩ = some (.int .i64 m) := cell_of_row _ _ _ _ _ _ A1.out
  have A1_2 : W0.cell? ⟨w.heap.size, 2, none⟩ = some (.int .i64 d) := cell_of_row _ _ _ _ _ _ A1.out
  have zA1 := lt_of_heap A1.out
  have C1_0 : W0.cell? ⟨w.heap.size + 1, 0, none⟩ = some (.int .i64 Y) := cell_of_row _ _ _ _ _ _ C1.out
  have C1_1 : W0.cell? ⟨w.heap.size + 1, 1, none⟩ = some (.int .i64 M) := cell_of_row _ _ _ _ _ _ C1.out
  have C1_2 : W0.cell? ⟨w.heap.size + 1, 2, none⟩ = some (.int .i64 D) := cell_of_row _ _ _ _ _ _ C1.out
  have zC1 := lt_of_heap C1.out
  try rw [← HW0.out]
  go_cut [6] (fun s6 wx => s6 = .int .i64 E ∧ Below W0.heap.size W0 wx)
  case first =>
    go_region_held3 (fun w' => Below W0.heap.size W0 w' ∧ w'.cell? ⟨w.heap.size, 0, none⟩ = some (.int .i64 y) ∧ w'.cell? ⟨w.heap.size, 1, none⟩ = some (.int .i64 m) ∧ w'.cell? ⟨w.heap.size, 2, none⟩ = some (.int .i64 d) ∧ w'.cell? ⟨w.heap.size + 1, 0, none⟩ = some (.int .i64 Y) ∧ w'.cell? ⟨w.heap.size + 1, 1, none⟩ = some (.int .i64 M) ∧ w'.cell? ⟨w.heap.size + 1, 2, none⟩ = some (.int .i64 D))
    (first
      | ((try go_split_ands); refine ⟨(Below.refl _ _).drew, ?_, ?_, ?_, ?_, ?_, ?_⟩ <;> first | assumption | (rw [World.cell?_drew]; assumption))
      | ((try go_split_ands); refine ⟨keepS (W0 := W0) ?_ hb1, cellS (W0 := W0) ?_ hb1 ?_ ?_, cellS (W0 := W0) ?_ hb1 ?_ ?_, cellS (W0 := W0) ?_ hb1 ?_ ?_, cellS (W0 := W0) ?_ hb1 ?_ ?_, cellS (W0 := W0) ?_ hb1 ?_ ?_, cellS (W0 := W0) ?_ hb1 ?_ ?_⟩ <;> first | assumption | omega)
      | ((try go_split_ands); refine ⟨keepA (W0 := W0) ?_ _, cellA (W0 := W0) ?_ _ ?_ ?_, cellA (W0 := W0) ?_ _ ?_ ?_, cellA (W0 := W0) ?_ _ ?_ ?_, cellA (W0 := W0) ?_ _ ?_ ?_, cellA (W0 := W0) ?_ _ ?_ ?_, cellA (W0 := W0) ?_ _ ?_ ?_⟩ <;> first | assumption | omega)
      | ((try go_split_ands); refine ⟨keepAd (W0 := W0) ?_ _, cellAd (W0 := W0) ?_ _ ?_ ?_, cellAd (W0 := W0) ?_ _ ?_ ?_, cellAd (W0 := W0) ?_ _ ?_ ?_, cellAd (W0 := W0) ?_ _ ?_ ?_, cellAd (W0 := W0) ?_ _ ?_ ?_, cellAd (W0 := W0) ?_ _ ?_ ?_⟩ <;> first | assumption | omega | exact Below.refl _ _)
      | ((try go_split_ands); (with_reducible refine ⟨keep3 (W0 := W0) ?_ ?_ _ _ _, cell3 (W0 := W0) ?_ _ _ _ ?_ ?_, cell3 (W0 := W0) ?_ _ _ _ ?_ ?_, cell3 (W0 := W0) ?_ _ _ _ ?_ ?_, cell3 (W0 := W0) ?_ _ _ _ ?_ ?_, cell3 (W0 := W0) ?_ _ _ _ ?_ ?_, cell3 (W0 := W0) ?_ _ _ _ ?_ ?_⟩) <;> first | assumption | omega | exact Nat.le_refl _)
      | ((try go_split_ands); refine ⟨keep2 (W0 := W0) ?_ ?_ _ _, cell2 (W0 := W0) ?_ _ _ ?_ ?_, cell2 (W0 := W0) ?_ _ _ ?_ ?_, cell2 (W0 := W0) ?_ _ _ ?_ ?_, cell2 (W0 := W0) ?_ _ _ ?_ ?_, cell2 (W0 := W0) ?_ _ _ ?_ ?_, cell2 (W0 := W0) ?_ _ _ ?_ ?_⟩ <;> first | assumption | omega | exact Nat.le_refl _)
      | ((try go_split_ands); refine ⟨keepZ (W0 := W0) ?_ ?_ _, cellZ (W0 := W0) ?_ _ ?_ ?_, cellZ (W0 := W0) ?_ _ ?_ ?_, cellZ (W0 := W0) ?_ _ ?_ ?_, cellZ (W0 := W0) ?_ _ ?_ ?_, cellZ (W0 := W0) ?_ _ ?_ ?_, cellZ (W0 := W0) ?_ _ ?_ ?_⟩ <;> first | assumption | omega | exact Nat.le_refl _ | exact ⟨_, by assumption⟩))
    (first | (go_at_call 22; (with_reducible refine (H1.out _ ?_).mono ?_); (focus (refine md_keep (Lib.hid (md_keep hM HB0.out)) ?_; first | assumption | (with_reducible exact (Below.refl _ _).drew) | (go_split_ands; done) | ((try go_split_ands); assumption))); rintro e w1 ⟨rfl, hb1⟩; (try go_split_ands); have hge : W0.heap.size ≤ w1.heap.size := (by first | (refine (keepS (W0 := W0) ?_ hb1).size; assumption) | exact (hb1.size : W0.heap.size ≤ w1.heap.size)); (try have hrow := row_call hb1 hrow); (try have hrow := row_new hb1); (try have hrow := row_newd hb1); have hl1 := lt_below hb1; obtain ⟨hc1, hf1⟩ := bcell hb1; (try (have hrc := row_cellA hrow; clear hc1 hf1)); (try have hrf := row_frozA hrow)) | (go_at_call 22; (with_reducible refine (H2.out _ ?_).mono ?_); (focus (refine md_keep (Lib.hid (md_keep hM HB0.out)) ?_; first | assumption | (with_reducible exact (Below.refl _ _).drew) | (go_split_ands; done) | ((try go_split_ands); assumption))); rintro e w1 ⟨rfl, hb1⟩; (try go_split_ands); have hge : W0.heap.size ≤ w1.heap.size := (by first | (refine (keepS (W0 := W0) ?_ hb1).size; assumption) | exact (hb1.size : W0.heap.size ≤ w1.heap.size)); (try have hrow := row_call hb1 hrow); (try have hrow := row_new hb1); (try have hrow := row_newd hb1); have hl1 := lt_below hb1; obtain ⟨hc1, hf1⟩ := bcell hb1; (try (have hrc := row_cellA hrow; clear hc1 hf1)); (try have hrf := row_frozA hrow)) | (go_at_call 21; refine (H3.out _ _ (by simp [go_sem]) (by simp [go_sem])).mono ?_; rintro e w1 ⟨rfl, hb1⟩; (try go_split_ands); have hge : W0.heap.size ≤ w1.heap.size := (by first | (refine (keepS (W0 := W0) ?_ hb1).size; assumption) | exact (hb1.size : W0.heap.size ≤ w1.heap.size)); (try have hrow := row_call hb1 hrow); (try have hrow := row_new hb1); (try have hrow := row_newd hb1); have hl1 := lt_below hb1; obtain ⟨hc1, hf1⟩ := bcell hb1; (try (have hrc := row_cellA hrow; clear hc1 hf1)); (try have hrf := row_frozA hrow)) | (go_at_call 22; refine (H1.out _ (by first | exact md_keep (Lib.hid (md_keep hM HB0.out)) (by assumption) | exact md_keep (Lib.hid (md_keep hM HB0.out)) (by (try go_split_ands); assumption) | exact md_keep (Lib.hid (md_keep hM HB0.out)) (Below.refl _ _).drew)).mono ?_; rintro e w1 ⟨rfl, hb1⟩; (try go_split_ands); have hge : W0.heap.size ≤ w1.heap.size := (by first | (refine (keepS (W0 := W0) ?_ hb1).size; assumption) | exact (hb1.size : W0.heap.size ≤ w1.heap.size)); (try have hrow := row_call hb1 hrow); (try have hrow := row_new hb1); (try have hrow := row_newd hb1); have hl1 := lt_below hb1; obtain ⟨hc1, hf1⟩ := bcell hb1; (try (have hrc := row_cellA hrow; clear hc1 hf1)); (try have hrf := row_frozA hrow)) | (go_at_call 22; refine (H2.out _ (by first | exact md_keep (Lib.hid (md_keep hM HB0.out)) (by assumption) | exact md_keep (Lib.hid (md_keep hM HB0.out)) (by (try go_split_ands); assumption) | exact md_keep (Lib.hid (md_keep hM HB0.out)) (Below.refl _ _).drew)).mono ?_; rintro e w1 ⟨rfl, hb1⟩; (try go_split_ands); have hge : W0.heap.size ≤ w1.heap.size := (by first | (refine (keepS (W0 := W0) ?_ hb1).size; assumption) | exact (hb1.size : W0.heap.size ≤ w1.heap.size)); (try have hrow := row_call hb1 hrow); (try have hrow := row_new hb1); (try have hrow := row_newd hb1); have hl1 := lt_below hb1; obtain ⟨hc1, hf1⟩ := bcell hb1; (try (have hrc := row_cellA hrow; clear hc1 hf1)); (try have hrf := row_frozA hrow)))
    all_goals (try go_split_ands)
    all_goals (go_wp2_with fail; go_meet; refine ⟨rfl, ?_⟩)
    all_goals first | (with_reducible assumption) | (with_reducible exact heap_alloc_new _ _) | (with_reducible exact row_set3 (by assumption) _ _ _) | assumption | exact heap_alloc_new _ _ | exact row_set (by assumption) _ _
  case rest =>
    obtain ⟨rfl, hB⟩ := hcut
    obtain ⟨V1, rfl⟩ : ∃ V, V = wc := ⟨_, rfl⟩
    clear A1_0 A1_1 A1_2 zA1 C1_0 C1_1 C1_2 zC1
    replace A1 := Lib.hid (row_call hB A1.out)
    replace C1 := Lib.hid (row_call hB C1.out)
    have B1 := Lib.hid (HB0.out.trans (hB.mono HB0.out.size))
    clear hB
    have A1_0 : V1.cell? ⟨w.heap.size, 0, none⟩ = some (.int .i64 y) := cell_of_row _ _ _ _ _ _ A1.out
    have A1_1 : V1.cell? ⟨w.heap.size, 1, none⟩ = some (.int .i64 m) := cell_of_row _ _ _ _ _ _ A1.out
    have A1_2 : V1.cell? ⟨w.heap.size, 2, none⟩ = some (.int .i64 d) := cell_of_row _ _ _ _ _ _ A1.out
    have zA1 := lt_of_heap A1.out
    have C1_0 : V1.cell? ⟨w.heap.size + 1, 0, none⟩ = some (.int .i64 Y) := cell_of_row _ _ _ _ _ _ C1.out
    have C1_1 : V1.cell? ⟨w.heap.size + 1, 1, none⟩ = some (.int .i64 M) := cell_of_row _ _ _ _ _ _ C1.out
    have C1_2 : V1.cell? ⟨w.heap.size + 1, 2, none⟩ = some (.int .i64 D) := cell_of_row _ _ _ _ _ _ C1.out
    have zC1 := lt_of_heap C1.out
    go_wp2
    go_ret2
    exact ⟨rfl, B1.out⟩
set_option maxHeartbeats 1600000 in
set_option maxRecDepth 100000 in
theorem pUMonths_any (y m d Y M D : Int) (h : unE y m d Y M D = 0) (w : World) (hM : MD w) : Calls Tryd.prog 9 #[.agg #[.int .i64 y, .int .i64 m, .int .i64 d], .agg #[.int .i64 Y, .int .i64 M, .int .i64 D]] w fun e w' => e = .returned (.tuple #[.int .i64 (unN y m d Y M D), .int .i64 0]) ∧ Below w.heap.size w w' := by
  obtain ⟨ha, hb⟩ := unE_zero h
  have H1 := Lib.hid (pCheck_any y m d)
  have H2 := Lib.hid (pCheck_any Y M D)
  have X3 := or2_any (ckC y m d) (ckC Y M D)
  rw [or2_unE, h] at X3
  have H3 := Lib.hid X3
  have H4 := Lib.hid (most_any y m d Y M D ha hb)
  clear X3 h ha hb
  generalize unN y m d Y M D = N at *
  generalize ckC y m d = c1 at *
  generalize ckC Y M D = c2 at *
  replace hM := Lib.hid hM
  go_enter Tryd.func9, Tryd.ntmps9
  go_wp2_with fail
  
  obtain ⟨W0, hW0⟩ : ∃ W0, W0 = ((w.alloc (Obj.cells #[Value.int .i64 y, Value.int .i64 m, Value.int .i64 d] 23)).alloc (Obj.cells #[Value.int .i64 Y, Value.int .i64 M, Value.int .i64 D] 23)) := ⟨_, rfl⟩
  have A1 := Lib.hid (row_at (k' := w.heap.size) (by simp) (row_by hW0 (row_alloc (heap_alloc_new _ _) _)))
  have C1 := Lib.hid (row_at (k' := w.heap.size + 1) (by simp) (row_by hW0 (heap_alloc_new _ _)))
  have HB0 := Lib.hid (below_by hW0 (((Below.refl w.heap.size w).alloc (by simp <;> omega) _).alloc (by simp <;> omega) _))
  have HW0 := Lib.hid hW0
  clear hW0
  have A1_0 : W0.cell? ⟨w.heap.size, 0, none⟩ = some (.int .i64 y) := cell_of_row _ _ _ _ _ _ A1.out
  have A1_1 : W0.cell? ⟨w.heap.size, 1, none⟩ = some (.int .i64 m) := cell_of_row _ _ _ _ _ _ A1.out
  have A1_2 : W0.cell? ⟨w.heap.size, 2, none⟩ = some (.int .i64 d) := cell_of_row _ _ _ _ _ _ A1.out
  have zA1 := lt_of_heap A1.out
  have C1_0 : W0.cell? ⟨w.heap.size + 1, 0, none⟩ = some (.int .i64 Y) := cell_of_row _ _ _ _ _ _ C1.out
  have C1_1 : W0.cell? ⟨w.heap.size + 1, 1, none⟩ = some (.int .i64 M) := cell_of_row _ _ _ _ _ _ C1.out
  have C1_2 : W0.cell? ⟨w.heap.size + 1, 2, none⟩ = some (.int .i64 D) := cell_of_row _ _ _ _ _ _ C1.out
  have zC1 := lt_of_heap C1.out
  try rw [← HW0.out]
  go_cut [6] (fun s6 wx => s6 = .int .i64 0 ∧ Below W0.heap.size W0 wx)
  case first =>
    go_region_held3 (fun w' => Below W0.heap.size W0 w' ∧ w'.cell? ⟨w.heap.size, 0, none⟩ = some (.int .i64 y) ∧ w'.cell? ⟨w.heap.size, 1, none⟩ = some (.int .i64 m) ∧ w'.cell? ⟨w.heap.size, 2, none⟩ = some (.int .i64 d) ∧ w'.cell? ⟨w.heap.size + 1, 0, none⟩ = some (.int .i64 Y) ∧ w'.cell? ⟨w.heap.size + 1, 1, none⟩ = some (.int .i64 M) ∧ w'.cell? ⟨w.heap.size + 1, 2, none⟩ = some (.int .i64 D))
    (first
      | ((try go_split_ands); refine ⟨(Below.refl _ _).drew, ?_, ?_, ?_, ?_, ?_, ?_⟩ <;> first | assumption | (rw [World.cell?_drew]; assumption))
      | ((try go_split_ands); refine ⟨keepS (W0 := W0) ?_ hb1, cellS (W0 := W0) ?_ hb1 ?_ ?_, cellS (W0 := W0) ?_ hb1 ?_ ?_, cellS (W0 := W0) ?_ hb1 ?_ ?_, cellS (W0 := W0) ?_ hb1 ?_ ?_, cellS (W0 := W0) ?_ hb1 ?_ ?_, cellS (W0 := W0) ?_ hb1 ?_ ?_⟩ <;> first | assumption | omega)
      | ((try go_split_ands); refine ⟨keepA (W0 := W0) ?_ _, cellA (W0 := W0) ?_ _ ?_ ?_, cellA (W0 := W0) ?_ _ ?_ ?_, cellA (W0 := W0) ?_ _ ?_ ?_, cellA (W0 := W0) ?_ _ ?_ ?_, cellA (W0 := W0) ?_ _ ?_ ?_, cellA (W0 := W0) ?_ _ ?_ ?_⟩ <;> first | assumption | omega)
      | ((try go_split_ands); refine ⟨keepAd (W0 := W0) ?_ _, cellAd (W0 := W0) ?_ _ ?_ ?_, cellAd (W0 := W0) ?_ _ ?_ ?_, cellAd (W0 := W0) ?_ _ ?_ ?_, cellAd (W0 := W0) ?_ _ ?_ ?_, cellAd (W0 := W0) ?_ _ ?_ ?_, cellAd (W0 := W0) ?_ _ ?_ ?_⟩ <;> first | assumption | omega | exact Below.refl _ _)
      | ((try go_split_ands); (with_reducible refine ⟨keep3 (W0 := W0) ?_ ?_ _ _ _, cell3 (W0 := W0) ?_ _ _ _ ?_ ?_, cell3 (W0 := W0) ?_ _ _ _ ?_ ?_, cell3 (W0 := W0) ?_ _ _ _ ?_ ?_, cell3 (W0 := W0) ?_ _ _ _ ?_ ?_, cell3 (W0 := W0) ?_ _ _ _ ?_ ?_, cell3 (W0 := W0) ?_ _ _ _ ?_ ?_⟩) <;> first | assumption | omega | exact Nat.le_refl _)
      | ((try go_split_ands); refine ⟨keep2 (W0 := W0) ?_ ?_ _ _, cell2 (W0 := W0) ?_ _ _ ?_ ?_, cell2 (W0 := W0) ?_ _ _ ?_ ?_, cell2 (W0 := W0) ?_ _ _ ?_ ?_, cell2 (W0 := W0) ?_ _ _ ?_ ?_, cell2 (W0 := W0) ?_ _ _ ?_ ?_, cell2 (W0 := W0) ?_ _ _ ?_ ?_⟩ <;> first | assumption | omega | exact Nat.le_refl _)
      | ((try go_split_ands); refine ⟨keepZ (W0 := W0) ?_ ?_ _, cellZ (W0 := W0) ?_ _ ?_ ?_, cellZ (W0 := W0) ?_ _ ?_ ?_, cellZ (W0 := W0) ?_ _ ?_ ?_, cellZ (W0 := W0) ?_ _ ?_ ?_, cellZ (W0 := W0) ?_ _ ?_ ?_, cellZ (W0 := W0) ?_ _ ?_ ?_⟩ <;> first | assumption | omega | exact Nat.le_refl _ | exact ⟨_, by assumption⟩))
    (first | (go_at_call 22; (with_reducible refine (H1.out _ ?_).mono ?_); (focus (refine md_keep (Lib.hid (md_keep hM HB0.out)) ?_; first | assumption | (with_reducible exact (Below.refl _ _).drew) | (go_split_ands; done) | ((try go_split_ands); assumption))); rintro e w1 ⟨rfl, hb1⟩; (try go_split_ands); have hge : W0.heap.size ≤ w1.heap.size := (by first | (refine (keepS (W0 := W0) ?_ hb1).size; assumption) | exact (hb1.size : W0.heap.size ≤ w1.heap.size)); (try have hrow := row_call hb1 hrow); (try have hrow := row_new hb1); (try have hrow := row_newd hb1); have hl1 := lt_below hb1; obtain ⟨hc1, hf1⟩ := bcell hb1; (try (have hrc := row_cellA hrow; clear hc1 hf1)); (try have hrf := row_frozA hrow)) | (go_at_call 22; (with_reducible refine (H2.out _ ?_).mono ?_); (focus (refine md_keep (Lib.hid (md_keep hM HB0.out)) ?_; first | assumption | (with_reducible exact (Below.refl _ _).drew) | (go_split_ands; done) | ((try go_split_ands); assumption))); rintro e w1 ⟨rfl, hb1⟩; (try go_split_ands); have hge : W0.heap.size ≤ w1.heap.size := (by first | (refine (keepS (W0 := W0) ?_ hb1).size; assumption) | exact (hb1.size : W0.heap.size ≤ w1.heap.size)); (try have hrow := row_call hb1 hrow); (try have hrow := row_new hb1); (try have hrow := row_newd hb1); have hl1 := lt_below hb1; obtain ⟨hc1, hf1⟩ := bcell hb1; (try (have hrc := row_cellA hrow; clear hc1 hf1)); (try have hrf := row_frozA hrow)) | (go_at_call 21; refine (H3.out _ _ (by simp [go_sem]) (by simp [go_sem])).mono ?_; rintro e w1 ⟨rfl, hb1⟩; (try go_split_ands); have hge : W0.heap.size ≤ w1.heap.size := (by first | (refine (keepS (W0 := W0) ?_ hb1).size; assumption) | exact (hb1.size : W0.heap.size ≤ w1.heap.size)); (try have hrow := row_call hb1 hrow); (try have hrow := row_new hb1); (try have hrow := row_newd hb1); have hl1 := lt_below hb1; obtain ⟨hc1, hf1⟩ := bcell hb1; (try (have hrc := row_cellA hrow; clear hc1 hf1)); (try have hrf := row_frozA hrow)) | (go_at_call 22; refine (H1.out _ (by first | exact md_keep (Lib.hid (md_keep hM HB0.out)) (by assumption) | exact md_keep (Lib.hid (md_keep hM HB0.out)) (by (try go_split_ands); assumption) | exact md_keep (Lib.hid (md_keep hM HB0.out)) (Below.refl _ _).drew)).mono ?_; rintro e w1 ⟨rfl, hb1⟩; (try go_split_ands); have hge : W0.heap.size ≤ w1.heap.size := (by first | (refine (keepS (W0 := W0) ?_ hb1).size; assumption) | exact (hb1.size : W0.heap.size ≤ w1.heap.size)); (try have hrow := row_call hb1 hrow); (try have hrow := row_new hb1); (try have hrow := row_newd hb1); have hl1 := lt_below hb1; obtain ⟨hc1, hf1⟩ := bcell hb1; (try (have hrc := row_cellA hrow; clear hc1 hf1)); (try have hrf := row_frozA hrow)) | (go_at_call 22; refine (H2.out _ (by first | exact md_keep (Lib.hid (md_keep hM HB0.out)) (by assumption) | exact md_keep (Lib.hid (md_keep hM HB0.out)) (by (try go_split_ands); assumption) | exact md_keep (Lib.hid (md_keep hM HB0.out)) (Below.refl _ _).drew)).mono ?_; rintro e w1 ⟨rfl, hb1⟩; (try go_split_ands); have hge : W0.heap.size ≤ w1.heap.size := (by first | (refine (keepS (W0 := W0) ?_ hb1).size; assumption) | exact (hb1.size : W0.heap.size ≤ w1.heap.size)); (try have hrow := row_call hb1 hrow); (try have hrow := row_new hb1); (try have hrow := row_newd hb1); have hl1 := lt_below hb1; obtain ⟨hc1, hf1⟩ := bcell hb1; (try (have hrc := row_cellA hrow; clear hc1 hf1)); (try have hrf := row_frozA hrow)))
    all_goals (try go_split_ands)
    all_goals (go_wp2_with fail; go_meet; refine ⟨rfl, ?_⟩)
    all_goals first | (with_reducible assumption) | (with_reducible exact heap_alloc_new _ _) | (with_reducible exact row_set3 (by assumption) _ _ _) | assumption | exact heap_alloc_new _ _ | exact row_set (by assumption) _ _
  case rest =>
    obtain ⟨rfl, hB⟩ := hcut
    obtain ⟨V1, rfl⟩ : ∃ V, V = wc := ⟨_, rfl⟩
    clear A1_0 A1_1 A1_2 zA1 C1_0 C1_1 C1_2 zC1
    replace A1 := Lib.hid (row_call hB A1.out)
    replace C1 := Lib.hid (row_call hB C1.out)
    have B1 := Lib.hid (HB0.out.trans (hB.mono HB0.out.size))
    clear hB
    have A1_0 : V1.cell? ⟨w.heap.size, 0, none⟩ = some (.int .i64 y) := cell_of_row _ _ _ _ _ _ A1.out
    have A1_1 : V1.cell? ⟨w.heap.size, 1, none⟩ = some (.int .i64 m) := cell_of_row _ _ _ _ _ _ A1.out
    have A1_2 : V1.cell? ⟨w.heap.size, 2, none⟩ = some (.int .i64 d) := cell_of_row _ _ _ _ _ _ A1.out
    have zA1 := lt_of_heap A1.out
    have C1_0 : V1.cell? ⟨w.heap.size + 1, 0, none⟩ = some (.int .i64 Y) := cell_of_row _ _ _ _ _ _ C1.out
    have C1_1 : V1.cell? ⟨w.heap.size + 1, 1, none⟩ = some (.int .i64 M) := cell_of_row _ _ _ _ _ _ C1.out
    have C1_2 : V1.cell? ⟨w.heap.size + 1, 2, none⟩ = some (.int .i64 D) := cell_of_row _ _ _ _ _ _ C1.out
    have zC1 := lt_of_heap C1.out
    go_wp2_with fail
    refine (H4.out _ (by first | exact md_keep hM (B1.out) | exact md_keep hM ((B1.out).alloc (B1.out.size) _) | exact md_keep hM (((B1.out).alloc (B1.out.size) _).alloc (by have := B1.out.size; simp <;> omega) _) | exact md_keep hM ((((B1.out).alloc (B1.out.size) _).alloc (by have := B1.out.size; simp <;> omega) _).alloc (by have := B1.out.size; simp <;> omega) _))).mono ?_
    rintro e V2 ⟨rfl, hb2⟩
    clear A1_0 A1_1 A1_2 zA1 C1_0 C1_1 C1_2 zC1
    have B2 : Hid (Below w.heap.size w V2) := by first | exact Lib.hid ((B1.out).trans (hb2.mono (by have := B1.out.size; first | assumption | (simp <;> omega) | (simp; done)))) | exact Lib.hid (((B1.out).alloc (B1.out.size) _).trans (hb2.mono (by have := B1.out.size; first | assumption | (simp <;> omega) | (simp; done)))) | exact Lib.hid ((((B1.out).alloc (B1.out.size) _).alloc (by have := B1.out.size; simp <;> omega) _).trans (hb2.mono (by have := B1.out.size; first | assumption | (simp <;> omega) | (simp; done)))) | exact Lib.hid (((((B1.out).alloc (B1.out.size) _).alloc (by have := B1.out.size; simp <;> omega) _).alloc (by have := B1.out.size; simp <;> omega) _).trans (hb2.mono (by have := B1.out.size; first | assumption | (simp <;> omega) | (simp; done))))
    first | replace A1 := Lib.hid (row_call hb2 A1.out) | replace A1 := Lib.hid (row_call hb2 (row_alloc A1.out _)) | replace A1 := Lib.hid (row_call hb2 (row_alloc (row_alloc A1.out _) _)) | replace A1 := Lib.hid (row_call hb2 (row_alloc (row_alloc (row_alloc A1.out _) _) _))
    first | replace C1 := Lib.hid (row_call hb2 C1.out) | replace C1 := Lib.hid (row_call hb2 (row_alloc C1.out _)) | replace C1 := Lib.hid (row_call hb2 (row_alloc (row_alloc C1.out _) _)) | replace C1 := Lib.hid (row_call hb2 (row_alloc (row_alloc (row_alloc C1.out _) _) _))
    clear hb2
    have A1_0 : V2.cell? ⟨w.heap.size, 0, none⟩ = some (.int .i64 y) := cell_of_row _ _ _ _ _ _ A1.out
    have A1_1 : V2.cell? ⟨w.heap.size, 1, none⟩ = some (.int .i64 m) := cell_of_row _ _ _ _ _ _ A1.out
    have A1_2 : V2.cell? ⟨w.heap.size, 2, none⟩ = some (.int .i64 d) := cell_of_row _ _ _ _ _ _ A1.out
    have C1_0 : V2.cell? ⟨w.heap.size + 1, 0, none⟩ = some (.int .i64 Y) := cell_of_row _ _ _ _ _ _ C1.out
    have C1_1 : V2.cell? ⟨w.heap.size + 1, 1, none⟩ = some (.int .i64 M) := cell_of_row _ _ _ _ _ _ C1.out
    have C1_2 : V2.cell? ⟨w.heap.size + 1, 2, none⟩ = some (.int .i64 D) := cell_of_row _ _ _ _ _ _ C1.out
    have zA1 := lt_of_heap A1.out
    have zC1 := lt_of_heap C1.out
    go_simp
    go_wp2
    go_ret2
    exact ⟨rfl, B2.out⟩
set_option maxHeartbeats 1600000 in
set_option maxRecDepth 100000 in
theorem pUntil_no (y m d Y M D : Int) (h : unE y m d Y M D ≠ 0) (w : World) (hM : MD w) : Calls Tryd.prog 7 #[.agg #[.int .i64 y, .int .i64 m, .int .i64 d], .agg #[.int .i64 Y, .int .i64 M, .int .i64 D]] w fun e w' => e = .returned (.tuple #[.agg #[.int .i64 0, .int .i64 0, .int .i64 0], .int .i64 (unE y m d Y M D)]) ∧ Below w.heap.size w w' := by
  have H1 := Lib.hid (pUMonths_no y m d Y M D h)
  generalize unE y m d Y M D = E at *
  have f1 : (E != 0) = true := by rw [bne_iff_ne]; exact h
  replace hM := Lib.hid hM
  go_enter Tryd.func7, Tryd.ntmps7
  refine wp_shut ?_
  go_wp2_with fail
  
  refine (H1.out _ (by first | exact md_keep hM ((((Below.refl w.heap.size w).alloc (Nat.le_refl _) _).alloc (by simp <;> omega) _).alloc (by simp <;> omega) _))).mono ?_
  rintro e V1 ⟨rfl, hb1⟩
  have B1 := Lib.hid (((((Below.refl w.heap.size w).alloc (Nat.le_refl _) _).alloc (by simp <;> omega) _).alloc (by simp <;> omega) _).trans (hb1.mono (by first | assumption | (simp <;> omega) | (simp; done))))
  have A1 := Lib.hid (row_call hb1 (row_alloc (row_alloc (heap_alloc_new _ _) _) _))
  have C1 := Lib.hid (row_at (k' := w.heap.size + 1) (by simp) (row_call hb1 (row_alloc (heap_alloc_new _ _) _)))
  have Z1 := Lib.hid (row_at (k' := w.heap.size + 1 + 1) (by simp) (row_call hb1 (heap_alloc_new _ _)))
  clear hb1
  have A1_0 : V1.cell? ⟨w.heap.size, 0, none⟩ = some (.int .i64 y) := cell_of_row _ _ _ _ _ _ A1.out
  have A1_1 : V1.cell? ⟨w.heap.size, 1, none⟩ = some (.int .i64 m) := cell_of_row _ _ _ _ _ _ A1.out
  have A1_2 : V1.cell? ⟨w.heap.size, 2, none⟩ = some (.int .i64 d) := cell_of_row _ _ _ _ _ _ A1.out
  have C1_0 : V1.cell? ⟨w.heap.size + 1, 0, none⟩ = some (.int .i64 Y) := cell_of_row _ _ _ _ _ _ C1.out
  have C1_1 : V1.cell? ⟨w.heap.size + 1, 1, none⟩ = some (.int .i64 M) := cell_of_row _ _ _ _ _ _ C1.out
  have C1_2 : V1.cell? ⟨w.heap.size + 1, 2, none⟩ = some (.int .i64 D) := cell_of_row _ _ _ _ _ _ C1.out
  have Z1_0 : V1.cell? ⟨w.heap.size + 1 + 1, 0, none⟩ = some (.int .i64 0) := cell_of_row _ _ _ _ _ _ Z1.out
  have Z1_1 : V1.cell? ⟨w.heap.size + 1 + 1, 1, none⟩ = some (.int .i64 0) := cell_of_row _ _ _ _ _ _ Z1.out
  have Z1_2 : V1.cell? ⟨w.heap.size + 1 + 1, 2, none⟩ = some (.int .i64 0) := cell_of_row _ _ _ _ _ _ Z1.out
  have Z1_f0 : V1.frozen? ⟨w.heap.size + 1 + 1, 0, none⟩ = false := by simp [World.frozen?, Z1.out]
  have Z1_f1 : V1.frozen? ⟨w.heap.size + 1 + 1, 1, none⟩ = false := by simp [World.frozen?, Z1.out]
  have Z1_f2 : V1.frozen? ⟨w.heap.size + 1 + 1, 2, none⟩ = false := by simp [World.frozen?, Z1.out]
  have zA1 := lt_of_heap A1.out
  have zC1 := lt_of_heap C1.out
  have zZ1 := lt_of_heap Z1.out
  go_simp
  go_wp2
  refine shut_ret (v := .tuple #[.agg #[.int .i64 0, .int .i64 0, .int .i64 0], .int .i64 E]) (by simp [results, Tryd.results7, go_sem, zZ1, Z1_0, Z1_1, Z1_2]) rfl ⟨rfl, ?_⟩
  exact keep3 B1.out (by omega) _ _ _
set_option maxHeartbeats 3200000 in
set_option maxRecDepth 100000 in
theorem puntil_of (y m d Y M D N X1 X2 X3 p q R : Int)
    (H1 : Hid (∀ w, MD w → Calls Tryd.prog 9 #[.agg #[.int .i64 y, .int .i64 m, .int .i64 d], .agg #[.int .i64 Y, .int .i64 M, .int .i64 D]] w fun e w' => e = .returned (.tuple #[.int .i64 N, .int .i64 0]) ∧ Below w.heap.size w w'))
    (H2 : Hid (∀ w, MD w → Calls Tryd.prog 19 #[.agg #[.int .i64 y, .int .i64 m, .int .i64 d], .int .i64 N] w fun e w' => e = .returned (.agg #[.int .i64 X1, .int .i64 X2, .int .i64 X3]) ∧ Below w.heap.size w w'))
    (H3 : Hid (∀ w, MD w → Calls Tryd.prog 18 #[.agg #[.int .i64 X1, .int .i64 X2, .int .i64 X3], .agg #[.int .i64 Y, .int .i64 M, .int .i64 D]] w fun e w' => e = .returned (.int .i64 R) ∧ Below w.heap.size w w'))
    (H4 : Hid (∀ w, Calls Tryd.prog 17 #[.agg #[.int .i64 0, .int .i64 N, .int .i64 R]] w fun e w' => e = .returned (.tuple #[.agg #[.int .i64 p, .int .i64 q, .int .i64 R], .int .i64 0]) ∧ Below w.heap.size w w')) (w : World) (hM : MD w) :
    Calls Tryd.prog 7 #[.agg #[.int .i64 y, .int .i64 m, .int .i64 d], .agg #[.int .i64 Y, .int .i64 M, .int .i64 D]] w fun e w' => e = .returned (.tuple #[.agg #[.int .i64 p, .int .i64 q, .int .i64 R], .int .i64 0]) ∧ Below w.heap.size w w' := by
  replace hM := Lib.hid hM
  go_enter Tryd.func7, Tryd.ntmps7
  refine wp_shut ?_
  go_wp2_with fail
  
  refine (H1.out _ (by first | exact md_keep hM ((((Below.refl w.heap.size w).alloc (Nat.le_refl _) _).alloc (by simp <;> omega) _).alloc (by simp <;> omega) _))).mono ?_
  rintro e V1 ⟨rfl, hb1⟩
  have B1 := Lib.hid (((((Below.refl w.heap.size w).alloc (Nat.le_refl _) _).alloc (by simp <;> omega) _).alloc (by simp <;> omega) _).trans (hb1.mono (by first | assumption | (simp <;> omega) | (simp; done))))
  have A1 := Lib.hid (row_call hb1 (row_alloc (row_alloc (heap_alloc_new _ _) _) _))
  have C1 := Lib.hid (row_at (k' := w.heap.size + 1) (by simp) (row_call hb1 (row_alloc (heap_alloc_new _ _) _)))
  have Z1 := Lib.hid (row_at (k' := w.heap.size + 1 + 1) (by simp) (row_call hb1 (heap_alloc_new _ _)))
  clear hb1
  have A1_0 : V1.cell? ⟨w.heap.size, 0, none⟩ = some (.int .i64 y) := cell_of_row _ _ _ _ _ _ A1.out
  have A1_1 : V1.cell? ⟨w.heap.size, 1, none⟩ = some (.int .i64 m) := cell_of_row _ _ _ _ _ _ A1.out
  have A1_2 : V1.cell? ⟨w.heap.size, 2, none⟩ = some (.int .i64 d) := cell_of_row _ _ _ _ _ _ A1.out
  have C1_0 : V1.cell? ⟨w.heap.size + 1, 0, none⟩ = some (.int .i64 Y) := cell_of_row _ _ _ _ _ _ C1.out
  have C1_1 : V1.cell? ⟨w.heap.size + 1, 1, none⟩ = some (.int .i64 M) := cell_of_row _ _ _ _ _ _ C1.out
  have C1_2 : V1.cell? ⟨w.heap.size + 1, 2, none⟩ = some (.int .i64 D) := cell_of_row _ _ _ _ _ _ C1.out
  have Z1_0 : V1.cell? ⟨w.heap.size + 1 + 1, 0, none⟩ = some (.int .i64 0) := cell_of_row _ _ _ _ _ _ Z1.out
  have Z1_1 : V1.cell? ⟨w.heap.size + 1 + 1, 1, none⟩ = some (.int .i64 0) := cell_of_row _ _ _ _ _ _ Z1.out
  have Z1_2 : V1.cell? ⟨w.heap.size + 1 + 1, 2, none⟩ = some (.int .i64 0) := cell_of_row _ _ _ _ _ _ Z1.out
  have Z1_f0 : V1.frozen? ⟨w.heap.size + 1 + 1, 0, none⟩ = false := by simp [World.frozen?, Z1.out]
  have Z1_f1 : V1.frozen? ⟨w.heap.size + 1 + 1, 1, none⟩ = false := by simp [World.frozen?, Z1.out]
  have Z1_f2 : V1.frozen? ⟨w.heap.size + 1 + 1, 2, none⟩ = false := by simp [World.frozen?, Z1.out]
  have zA1 := lt_of_heap A1.out
  have zC1 := lt_of_heap C1.out
  have zZ1 := lt_of_heap Z1.out
  go_simp
  go_wp2_with fail
  obtain ⟨W0, hW0⟩ : ∃ W0, W0 = V1 := ⟨_, rfl⟩
  replace A1 := Lib.hid (row_by hW0 A1.out)
  replace C1 := Lib.hid (row_by hW0 C1.out)
  replace Z1 := Lib.hid (row_by hW0 Z1.out)
  clear A1_0 A1_1 A1_2 zA1 C1_0 C1_1 C1_2 zC1 Z1_0 Z1_1 Z1_2 Z1_f0 Z1_f1 Z1_f2 zZ1
  have A1_0 : W0.cell? ⟨w.heap.size, 0, none⟩ = some (.int .i64 y) := cell_of_row _ _ _ _ _ _ A1.out
  have A1_1 : W0.cell? ⟨w.heap.size, 1, none⟩ = some (.int .i64 m) := cell_of_row _ _ _ _ _ _ A1.out
  have A1_2 : W0.cell? ⟨w.heap.size, 2, none⟩ = some (.int .i64 d) := cell_of_row _ _ _ _ _ _ A1.out
  have zA1 := lt_of_heap A1.out
  have C1_0 : W0.cell? ⟨w.heap.size + 1, 0, none⟩ = some (.int .i64 Y) := cell_of_row _ _ _ _ _ _ C1.out
  have C1_1 : W0.cell? ⟨w.heap.size + 1, 1, none⟩ = some (.int .i64 M) := cell_of_row _ _ _ _ _ _ C1.out
  have C1_2 : W0.cell? ⟨w.heap.size + 1, 2, none⟩ = some (.int .i64 D) := cell_of_row _ _ _ _ _ _ C1.out
  have zC1 := lt_of_heap C1.out
  have Z1_0 : W0.cell? ⟨w.heap.size + 1 + 1, 0, none⟩ = some (.int .i64 0) := cell_of_row _ _ _ _ _ _ Z1.out
  have Z1_1 : W0.cell? ⟨w.heap.size + 1 + 1, 1, none⟩ = some (.int .i64 0) := cell_of_row _ _ _ _ _ _ Z1.out
  have Z1_2 : W0.cell? ⟨w.heap.size + 1 + 1, 2, none⟩ = some (.int .i64 0) := cell_of_row _ _ _ _ _ _ Z1.out
  have zZ1 := lt_of_heap Z1.out
  have HB0 := Lib.hid (below_by hW0 (B1.out))
  have zW0 := HB0.out.size
  have HW0 := Lib.hid hW0
  clear hW0
  try go_simp
  rw [← HW0.out]
  refine region_plan (S := fun w2 => w2.cell? ⟨w.heap.size, 0, none⟩ = some (.int .i64 y) ∧ w2.cell? ⟨w.heap.size, 1, none⟩ = some (.int .i64 m) ∧ w2.cell? ⟨w.heap.size, 2, none⟩ = some (.int .i64 d) ∧ w2.cell? ⟨w.heap.size + 1, 0, none⟩ = some (.int .i64 Y) ∧ w2.cell? ⟨w.heap.size + 1, 1, none⟩ = some (.int .i64 M) ∧ w2.cell? ⟨w.heap.size + 1, 2, none⟩ = some (.int .i64 D)) [(0, true), (1, true), (2, true), (4, true), (3, false), (5, false), (6, true), (7, false), (8, true), (9, true), (10, false), (11, true)] (by as_aux_lemma => kernel_rfl) (by as_aux_lemma => kernel_rfl) (by as_aux_lemma => kernel_rfl) (by as_aux_lemma => kernel_rfl) ⟨(by rw [World.cell?_drew]; exact A1_0), (by rw [World.cell?_drew]; exact A1_1), (by rw [World.cell?_drew]; exact A1_2), (by rw [World.cell?_drew]; exact C1_0), (by rw [World.cell?_drew]; exact C1_1), (by rw [World.cell?_drew]; exact C1_2)⟩ ?_
  have Y0 := Lib.hid (Below.refl W0.heap.size W0).drew
  refine plan_yes (v := ?v1_1) (by simp only [List.getElem?_toArray, List.getElem?_cons_zero, List.getElem?_cons_succ]; exact rfl) (Or.inl ⟨by as_aux_lemma => rfl, ?hy1_1⟩) ?rest1_1
  case hy1_1 => (intro w2 hSw; (try dsimp only at hSw); obtain ⟨s0, s1, s2, s3, s4, s5⟩ := hSw; go_simp; try with_reducible rfl)
  try simp only [Act.put, List.setIfInBounds_toArray, List.set_cons_zero, List.set_cons_succ]
  refine plan_yes (v := ?v2_1) (by simp only [List.getElem?_toArray, List.getElem?_cons_zero, List.getElem?_cons_succ]; exact rfl) (Or.inl ⟨by as_aux_lemma => rfl, ?hy2_1⟩) ?rest2_1
  case hy2_1 => (intro w2 hSw; (try dsimp only at hSw); obtain ⟨s0, s1, s2, s3, s4, s5⟩ := hSw; go_simp; try with_reducible rfl)
  try simp only [Act.put, List.setIfInBounds_toArray, List.set_cons_zero, List.set_cons_succ]
  refine plan_yes (v := ?v3_1) (by simp only [List.getElem?_toArray, List.getElem?_cons_zero, List.getElem?_cons_succ]; exact rfl) (Or.inl ⟨by as_aux_lemma => rfl, ?hy3_1⟩) ?rest3_1
  case hy3_1 => (intro w2 hSw; (try dsimp only at hSw); obtain ⟨s0, s1, s2, s3, s4, s5⟩ := hSw; go_simp; try with_reducible rfl)
  try simp only [Act.put, List.setIfInBounds_toArray, List.set_cons_zero, List.set_cons_succ]
  refine plan_yes (v := ?v4_1) (by simp only [List.getElem?_toArray, List.getElem?_cons_zero, List.getElem?_cons_succ]; exact rfl) (Or.inl ⟨by as_aux_lemma => rfl, ?hy4_1⟩) ?rest4_1
  case hy4_1 => (intro w2 hSw; (try dsimp only at hSw); obtain ⟨s0, s1, s2, s3, s4, s5⟩ := hSw; go_simp; try with_reducible rfl)
  try simp only [Act.put, List.setIfInBounds_toArray, List.set_cons_zero, List.set_cons_succ]
  refine plan_calls (by simp only [List.getElem?_toArray, List.getElem?_cons_zero, List.getElem?_cons_succ]; exact rfl) (by as_aux_lemma => rfl) (fun K hK => ?_)
  go_simp
  refine (H2.out _ (md_keep (Lib.hid (md_keep hM HB0.out)) Y0.out)).mono ?_
  rintro e Y1w ⟨rfl, hb1⟩
  have Y1 := Lib.hid (keepS (W0 := W0) Y0.out hb1)
  clear hb1
  refine hK.out _ _ ⟨((Y1.out.cell (p := ⟨w.heap.size, 0, none⟩) zA1).trans A1_0), ((Y1.out.cell (p := ⟨w.heap.size, 1, none⟩) zA1).trans A1_1), ((Y1.out.cell (p := ⟨w.heap.size, 2, none⟩) zA1).trans A1_2), ((Y1.out.cell (p := ⟨w.heap.size + 1, 0, none⟩) zC1).trans C1_0), ((Y1.out.cell (p := ⟨w.heap.size + 1, 1, none⟩) zC1).trans C1_1), ((Y1.out.cell (p := ⟨w.heap.size + 1, 2, none⟩) zC1).trans C1_2)⟩ ?_
  clear hK K
  try simp only [Act.put, List.setIfInBounds_toArray, List.set_cons_zero, List.set_cons_succ]
  focus
   refine plan_calls (by simp only [List.getElem?_toArray, List.getElem?_cons_zero, List.getElem?_cons_succ]; exact rfl) (by as_aux_lemma => rfl) (fun K hK => ?_)
   go_simp
   refine (H3.out _ (md_keep (Lib.hid (md_keep hM HB0.out)) Y1.out)).mono ?_
   rintro e Y2w ⟨rfl, hb1⟩
   have Y2 := Lib.hid (keepS (W0 := W0) Y1.out hb1)
   clear hb1
   refine hK.out _ _ ⟨((Y2.out.cell (p := ⟨w.heap.size, 0, none⟩) zA1).trans A1_0), ((Y2.out.cell (p := ⟨w.heap.size, 1, none⟩) zA1).trans A1_1), ((Y2.out.cell (p := ⟨w.heap.size, 2, none⟩) zA1).trans A1_2), ((Y2.out.cell (p := ⟨w.heap.size + 1, 0, none⟩) zC1).trans C1_0), ((Y2.out.cell (p := ⟨w.heap.size + 1, 1, none⟩) zC1).trans C1_1), ((Y2.out.cell (p := ⟨w.heap.size + 1, 2, none⟩) zC1).trans C1_2)⟩ ?_
   clear hK K
   try simp only [Act.put, List.setIfInBounds_toArray, List.set_cons_zero, List.set_cons_succ]
   focus
    refine plan_yes (v := .agg #[.int .i64 0, .int .i64 N, .int .i64 R]) (by simp only [List.getElem?_toArray, List.getElem?_cons_zero, List.getElem?_cons_succ]; exact rfl) (Or.inl ⟨by as_aux_lemma => rfl, fun w2 _ => run_buildop rfl (by as_aux_lemma => kernel_rfl) w2⟩) ?_
    try simp only [Act.put, List.setIfInBounds_toArray, List.set_cons_zero, List.set_cons_succ]
    refine plan_calls (by simp only [List.getElem?_toArray, List.getElem?_cons_zero, List.getElem?_cons_succ]; exact rfl) (by as_aux_lemma => rfl) (fun K hK => ?_)
    go_simp
    refine (H4.out _).mono ?_
    rintro e Y3w ⟨rfl, hb1⟩
    have Y3 := Lib.hid (keepS (W0 := W0) Y2.out hb1)
    clear hb1
    refine hK.out _ _ ⟨((Y3.out.cell (p := ⟨w.heap.size, 0, none⟩) zA1).trans A1_0), ((Y3.out.cell (p := ⟨w.heap.size, 1, none⟩) zA1).trans A1_1), ((Y3.out.cell (p := ⟨w.heap.size, 2, none⟩) zA1).trans A1_2), ((Y3.out.cell (p := ⟨w.heap.size + 1, 0, none⟩) zC1).trans C1_0), ((Y3.out.cell (p := ⟨w.heap.size + 1, 1, none⟩) zC1).trans C1_1), ((Y3.out.cell (p := ⟨w.heap.size + 1, 2, none⟩) zC1).trans C1_2)⟩ ?_
    clear hK K
    try simp only [Act.put, List.setIfInBounds_toArray, List.set_cons_zero, List.set_cons_succ]
    focus
     refine plan_yes (v := ?v5_1) (by simp only [List.getElem?_toArray, List.getElem?_cons_zero, List.getElem?_cons_succ]; exact rfl) (Or.inl ⟨by as_aux_lemma => rfl, ?hy5_1⟩) ?rest5_1
     case hy5_1 => (intro w2 hSw; (try dsimp only at hSw); obtain ⟨s0, s1, s2, s3, s4, s5⟩ := hSw; go_simp; try with_reducible rfl)
     try simp only [Act.put, List.setIfInBounds_toArray, List.set_cons_zero, List.set_cons_succ]
     refine plan_yes (v := ?v6_1) (by simp only [List.getElem?_toArray, List.getElem?_cons_zero, List.getElem?_cons_succ]; exact rfl) (Or.inl ⟨by as_aux_lemma => rfl, ?hy6_1⟩) ?rest6_1
     case hy6_1 => (intro w2 hSw; (try dsimp only at hSw); obtain ⟨s0, s1, s2, s3, s4, s5⟩ := hSw; go_simp; try with_reducible rfl)
     try simp only [Act.put, List.setIfInBounds_toArray, List.set_cons_zero, List.set_cons_succ]
     replace A1 := Lib.hid (row_call Y3.out A1.out)
     replace C1 := Lib.hid (row_call Y3.out C1.out)
     replace Z1 := Lib.hid (row_call Y3.out Z1.out)
     have Bc := Lib.hid (HB0.out.trans (Y3.out.mono zW0))
     refine plan_calls (by simp only [List.getElem?_toArray, List.getElem?_cons_zero, List.getElem?_cons_succ]; exact rfl) (by as_aux_lemma => rfl) (fun K hK => ?_)
     refine wp_store_row 25 _ _ rfl (w.heap.size + 1 + 1) #[Value.int .i64 p, Value.int .i64 q, Value.int .i64 R] (by rfl) (by rfl) _ _ Z1.out (by kernel_rfl) rfl (by simp [Value.oneCell']) ?_
     refine hK.out _ _ ⟨(cell_of_row _ _ _ _ _ _ (row_otherR (by first | omega | (have := nA1Z1.out; omega) | (have := nZ1A1.out; omega)) A1.out _)), (cell_of_row _ _ _ _ _ _ (row_otherR (by first | omega | (have := nA1Z1.out; omega) | (have := nZ1A1.out; omega)) A1.out _)), (cell_of_row _ _ _ _ _ _ (row_otherR (by first | omega | (have := nA1Z1.out; omega) | (have := nZ1A1.out; omega)) A1.out _)), (cell_of_row _ _ _ _ _ _ (row_otherR (by first | omega | (have := nC1Z1.out; omega) | (have := nZ1C1.out; omega)) C1.out _)), (cell_of_row _ _ _ _ _ _ (row_otherR (by first | omega | (have := nC1Z1.out; omega) | (have := nZ1C1.out; omega)) C1.out _)), (cell_of_row _ _ _ _ _ _ (row_otherR (by first | omega | (have := nC1Z1.out; omega) | (have := nZ1C1.out; omega)) C1.out _))⟩ ?_
     clear hK K
     try simp only [Act.put, List.setIfInBounds_toArray, List.set_cons_zero, List.set_cons_succ]
     obtain ⟨Y1s, hYs⟩ : ∃ V, V = Y3w.setRow (w.heap.size + 1 + 1) #[Value.int .i64 p, Value.int .i64 q, Value.int .i64 R] := ⟨_, rfl⟩
     rw [← hYs]
     replace A1 := Lib.hid (row_by hYs (row_otherR (by first | omega | (have := nA1Z1.out; omega) | (have := nZ1A1.out; omega)) A1.out _))
     replace C1 := Lib.hid (row_by hYs (row_otherR (by first | omega | (have := nC1Z1.out; omega) | (have := nZ1C1.out; omega)) C1.out _))
     replace Z1 := Lib.hid (row_by hYs (setRow_heap _ _ _ _ _ _ Z1.out))
     replace Bc := Lib.hid (below_by hYs (keepRow Bc.out (by omega) _))
     clear hYs
     refine plan_yes (v := ?v7_1) (by simp only [List.getElem?_toArray, List.getElem?_cons_zero, List.getElem?_cons_succ]; exact rfl) (Or.inl ⟨by as_aux_lemma => rfl, ?hy7_1⟩) ?rest7_1
     case hy7_1 => (intro w2 hSw; (try dsimp only at hSw); obtain ⟨s0, s1, s2, s3, s4, s5⟩ := hSw; go_simp; try with_reducible rfl)
     try simp only [Act.put, List.setIfInBounds_toArray, List.set_cons_zero, List.set_cons_succ]
     refine plan_done (NoPanic.normal ?_)
     have B2 := Bc
     clear Bc A1_0 A1_1 A1_2 C1_0 C1_1 C1_2 Z1_0 Z1_1 Z1_2 zA1 zC1 zZ1 Y0 Y1 Y2 Y3
     obtain ⟨V2, rfl⟩ : ∃ V, V = Y1s := ⟨_, rfl⟩
     have A1_0 : V2.cell? ⟨w.heap.size, 0, none⟩ = some (.int .i64 y) := cell_of_row _ _ _ _ _ _ A1.out
     have A1_1 : V2.cell? ⟨w.heap.size, 1, none⟩ = some (.int .i64 m) := cell_of_row _ _ _ _ _ _ A1.out
     have A1_2 : V2.cell? ⟨w.heap.size, 2, none⟩ = some (.int .i64 d) := cell_of_row _ _ _ _ _ _ A1.out
     have zA1 := lt_of_heap A1.out
     have C1_0 : V2.cell? ⟨w.heap.size + 1, 0, none⟩ = some (.int .i64 Y) := cell_of_row _ _ _ _ _ _ C1.out
     have C1_1 : V2.cell? ⟨w.heap.size + 1, 1, none⟩ = some (.int .i64 M) := cell_of_row _ _ _ _ _ _ C1.out
     have C1_2 : V2.cell? ⟨w.heap.size + 1, 2, none⟩ = some (.int .i64 D) := cell_of_row _ _ _ _ _ _ C1.out
     have zC1 := lt_of_heap C1.out
     have Z1_0 : V2.cell? ⟨w.heap.size + 1 + 1, 0, none⟩ = some (.int .i64 p) := cell_of_row _ _ _ _ _ _ Z1.out
     have Z1_f0 : V2.frozen? ⟨w.heap.size + 1 + 1, 0, none⟩ = false := (by simp [World.frozen?, Z1.out])
     have Z1_1 : V2.cell? ⟨w.heap.size + 1 + 1, 1, none⟩ = some (.int .i64 q) := cell_of_row _ _ _ _ _ _ Z1.out
     have Z1_f1 : V2.frozen? ⟨w.heap.size + 1 + 1, 1, none⟩ = false := (by simp [World.frozen?, Z1.out])
     have Z1_2 : V2.cell? ⟨w.heap.size + 1 + 1, 2, none⟩ = some (.int .i64 R) := cell_of_row _ _ _ _ _ _ Z1.out
     have Z1_f2 : V2.frozen? ⟨w.heap.size + 1 + 1, 2, none⟩ = false := (by simp [World.frozen?, Z1.out])
     have zZ1 := lt_of_heap Z1.out
     try go_simp
    go_wp2
    refine shut_ret (v := .tuple #[.agg #[.int .i64 p, .int .i64 q, .int .i64 R], .int .i64 0]) (by simp [results, Tryd.results7, go_sem, zZ1, Z1_0, Z1_1, Z1_2]) rfl ⟨rfl, ?_⟩
    exact B2.out
theorem pUntil_any (y m d Y M D : Int) (h : unE y m d Y M D = 0) (w : World) (hM : MD w) : Calls Tryd.prog 7 #[.agg #[.int .i64 y, .int .i64 m, .int .i64 d], .agg #[.int .i64 Y, .int .i64 M, .int .i64 D]] w fun e w' => e = .returned (.tuple #[.agg #[.int .i64 ((unN y m d Y M D).tdiv 12), .int .i64 ((unN y m d Y M D).tmod 12), .int .i64 (unD y m d Y M D)], .int .i64 0]) ∧ Below w.heap.size w w' := by
  obtain ⟨ha, hb⟩ := unE_zero h
  obtain ⟨n1, n2, n3, n4⟩ := unN_bd ha hb
  obtain ⟨p1, p2, p3, p4, p5⟩ := mayB_yes (of_ckC ha).1
  obtain ⟨a, b, c⟩ := mo_T y m (unN y m d Y M D)
  have hx : ckC (moY y m (unN y m d Y M D)) (moM y m (unN y m d Y M D)) (moD y m d (unN y m d Y M D)) = 0 := ckC_ok (moD_may p1) (by omega)
  have X3 := pUdays_any _ _ _ Y M D hx hb
  rw [show dnI Y M D - dnI (moY y m (unN y m d Y M D)) (moM y m (unN y m d Y M D)) (moD y m d (unN y m d Y M D)) = unD y m d Y M D by unfold unD; rfl] at X3
  have ud := un_days ha hb
  have hR : -30 ≤ unD y m d Y M D ∧ unD y m d Y M D ≤ 30 := by
    by_cases ho : ord3 y m d Y M D ≤ 0
    · have := ud.1 ho; omega
    · have := ud.2 ho; omega
  have X4 := ppBalance_any 0 (unN y m d Y M D) (unD y m d Y M D)
  obtain ⟨t1, t2, t3, t4⟩ := tdiv_parts (unN y m d Y M D) 12 (by decide)
  have t5 := Int.tmod_add_mul_tdiv (unN y m d Y M D) 12
  have k1 : ckP 0 (unN y m d Y M D) (unD y m d Y M D) = 0 := ckP_zero (by omega) (by omega) (by omega)
  have k2 : ckP ((unN y m d Y M D).tdiv 12) ((unN y m d Y M D).tmod 12) (unD y m d Y M D) = 0 := ckP_zero (by omega) (by omega) (by omega)
  have kb : blE 0 (unN y m d Y M D) (unD y m d Y M D) = 0 := by unfold blE; rw [if_pos k1, show (12 * 0 + unN y m d Y M D : Int) = unN y m d Y M D by omega]; exact k2
  rw [kb, show (12 * 0 + unN y m d Y M D : Int) = unN y m d Y M D by omega] at X4
  simp only [fdP_zero] at X4
  exact puntil_of y m d Y M D _ _ _ _ _ _ _ (Lib.hid (pUMonths_any y m d Y M D h)) (Lib.hid (pMoved_any y m d _ ha (by unfold in64; omega) n3 n4)) (Lib.hid X3) (Lib.hid X4) w hM
end Go.Proofs.YtoopbgpoelpjfaaDoor
namespace Go.Proofs.YtoopbgpoelpjfaaDoor
set_option linter.unusedVariables false
set_option linter.unusedSimpArgs false
open Go.ChangeShapes Go.WideShapes Go.ChangeAt Go.RowKit
theorem until_both (y m d Y M D : Int) : ∃ p q r E : Int,
    (∀ w, MD w → Calls Tryd.prog 7 #[.agg #[.int .i64 y, .int .i64 m, .int .i64 d], .agg #[.int .i64 Y, .int .i64 M, .int .i64 D]] w fun e w' => e = .returned (.tuple #[.agg #[.int .i64 p, .int .i64 q, .int .i64 r], .int .i64 E]) ∧ Below w.heap.size w w') ∧
    (∀ w, Calls Tryd.prog 8 #[.agg #[.int .i64 y, .int .i64 m, .int .i64 d], .agg #[.int .i64 Y, .int .i64 M, .int .i64 D]] w fun e w' => e = .returned (.tuple #[.agg #[.int .i64 p, .int .i64 q, .int .i64 r], .int .i64 E]) ∧ Below w.heap.size w w') := by
  by_cases h : unE y m d Y M D = 0
  · exact ⟨_, _, _, _, fun w hM => pUntil_any y m d Y M D h w hM, fun w => ruUntil_any y m d Y M D h w⟩
  · exact ⟨_, _, _, _, fun w hM => pUntil_no y m d Y M D h w hM, fun w => ruUntil_no y m d Y M D h w⟩
theorem umonths_both (y m d Y M D : Int) : ∃ p E : Int,
    (∀ w, MD w → Calls Tryd.prog 9 #[.agg #[.int .i64 y, .int .i64 m, .int .i64 d], .agg #[.int .i64 Y, .int .i64 M, .int .i64 D]] w fun e w' => e = .returned (.tuple #[.int .i64 p, .int .i64 E]) ∧ Below w.heap.size w w') ∧
    (∀ w, Calls Tryd.prog 10 #[.agg #[.int .i64 y, .int .i64 m, .int .i64 d], .agg #[.int .i64 Y, .int .i64 M, .int .i64 D]] w fun e w' => e = .returned (.tuple #[.int .i64 p, .int .i64 E]) ∧ Below w.heap.size w w') := by
  by_cases h : unE y m d Y M D = 0
  · exact ⟨_, _, fun w hM => pUMonths_any y m d Y M D h w hM, fun w => ruMonths_any y m d Y M D h w⟩
  · exact ⟨_, _, fun w hM => pUMonths_no y m d Y M D h w hM, fun w => ruMonths_no y m d Y M D h w⟩
theorem ex_until1 : unE 2024 1 31 2024 3 1 = 0 ∧ (unN 2024 1 31 2024 3 1).tdiv 12 = 0 ∧ (unN 2024 1 31 2024 3 1).tmod 12 = 1 ∧ unD 2024 1 31 2024 3 1 = 1 := by decide +kernel
theorem ex_until2 : unE 2024 3 31 2024 2 29 = 0 ∧ (unN 2024 3 31 2024 2 29).tdiv 12 = 0 ∧ (unN 2024 3 31 2024 2 29).tmod 12 = -1 ∧ unD 2024 3 31 2024 2 29 = 0 := by decide +kernel
theorem ex_until3 : unE 2020 2 29 2021 2 28 = 0 ∧ (unN 2020 2 29 2021 2 28).tdiv 12 = 1 ∧ (unN 2020 2 29 2021 2 28).tmod 12 = 0 ∧ unD 2020 2 29 2021 2 28 = 0 := by decide +kernel
set_option maxHeartbeats 3200000 in
set_option maxRecDepth 100000 in
theorem awake12_any (w : World) (hM : MD w) : Calls Tryd.prog 11 #[] w fun e w' => e = .returned (.bool true) ∧ Below w.heap.size w w' := by
  have X1 := pUntil_any 2024 1 31 2024 3 1 ex_until1.1
  have X2 := pUntil_any 2024 3 31 2024 2 29 ex_until2.1
  have X3 := pUntil_any 2020 2 29 2021 2 28 ex_until3.1
  rw [ex_until1.2.1, ex_until1.2.2.1, ex_until1.2.2.2] at X1
  rw [ex_until2.2.1, ex_until2.2.2.1, ex_until2.2.2.2] at X2
  rw [ex_until3.2.1, ex_until3.2.2.1, ex_until3.2.2.2] at X3
  have H1 := Lib.hid X1
  have H2 := Lib.hid X2
  have H3 := Lib.hid X3
  clear X1 X2 X3
  replace hM := Lib.hid hM
  go_enter Tryd.func11, Tryd.ntmps11
  go_wp2_with fail
  
  refine (H1.out _ (by first | exact md_keep hM (Below.refl w.heap.size w) | exact md_keep hM ((Below.refl w.heap.size w).alloc (Nat.le_refl _) _) | exact md_keep hM (((Below.refl w.heap.size w).alloc (Nat.le_refl _) _).alloc (by simp <;> omega) _) | exact md_keep hM ((((Below.refl w.heap.size w).alloc (Nat.le_refl _) _).alloc (by simp <;> omega) _).alloc (by simp <;> omega) _))).mono ?_
  rintro e V1 ⟨rfl, hb1⟩
  have B1 : Hid (Below w.heap.size w V1) := by first | exact Lib.hid ((Below.refl w.heap.size w).trans (hb1.mono (by first | assumption | (simp <;> omega) | (simp; done)))) | exact Lib.hid (((Below.refl w.heap.size w).alloc (Nat.le_refl _) _).trans (hb1.mono (by first | assumption | (simp <;> omega) | (simp; done)))) | exact Lib.hid ((((Below.refl w.heap.size w).alloc (Nat.le_refl _) _).alloc (by simp <;> omega) _).trans (hb1.mono (by first | assumption | (simp <;> omega) | (simp; done)))) | exact Lib.hid (((((Below.refl w.heap.size w).alloc (Nat.le_refl _) _).alloc (by simp <;> omega) _).alloc (by simp <;> omega) _).trans (hb1.mono (by first | assumption | (simp <;> omega) | (simp; done))))
  clear hb1
  go_simp
  go_wp2_with fail
  refine (H2.out _ (by first | exact md_keep hM ((B1.out).alloc (B1.out.size) _))).mono ?_
  rintro e V2 ⟨rfl, hb2⟩
  have B2 := Lib.hid (((B1.out).alloc (B1.out.size) _).trans (hb2.mono (by have := B1.out.size; first | assumption | (simp <;> omega) | (simp; done))))
  have X1 := Lib.hid (row_call hb2 (heap_alloc_new _ _))
  clear hb2
  have X1_0 : V2.cell? ⟨V1.heap.size, 0, none⟩ = some (.int .i64 0) := cell_of_row _ _ _ _ _ _ X1.out
  have X1_1 : V2.cell? ⟨V1.heap.size, 1, none⟩ = some (.int .i64 1) := cell_of_row _ _ _ _ _ _ X1.out
  have X1_2 : V2.cell? ⟨V1.heap.size, 2, none⟩ = some (.int .i64 1) := cell_of_row _ _ _ _ _ _ X1.out
  have zX1 := lt_of_heap X1.out
  go_simp
  go_wp2_with fail
  refine (H3.out _ (by first | exact md_keep hM ((B2.out).alloc (B2.out.size) _))).mono ?_
  rintro e V3 ⟨rfl, hb3⟩
  clear X1_0 X1_1 X1_2 zX1
  have nX1Y1 := Lib.hid (lt_of_heap X1.out)
  have B3 := Lib.hid (((B2.out).alloc (B2.out.size) _).trans (hb3.mono (by have := B2.out.size; first | assumption | (simp <;> omega) | (simp; done))))
  replace X1 := Lib.hid (row_call hb3 (row_alloc X1.out _))
  have Y1 := Lib.hid (row_call hb3 (heap_alloc_new _ _))
  clear hb3
  have X1_0 : V3.cell? ⟨V1.heap.size, 0, none⟩ = some (.int .i64 0) := cell_of_row _ _ _ _ _ _ X1.out
  have X1_1 : V3.cell? ⟨V1.heap.size, 1, none⟩ = some (.int .i64 1) := cell_of_row _ _ _ _ _ _ X1.out
  have X1_2 : V3.cell? ⟨V1.heap.size, 2, none⟩ = some (.int .i64 1) := cell_of_row _ _ _ _ _ _ X1.out
  have Y1_0 : V3.cell? ⟨V2.heap.size, 0, none⟩ = some (.int .i64 0) := cell_of_row _ _ _ _ _ _ Y1.out
  have Y1_1 : V3.cell? ⟨V2.heap.size, 1, none⟩ = some (.int .i64 (-1)) := cell_of_row _ _ _ _ _ _ Y1.out
  have Y1_2 : V3.cell? ⟨V2.heap.size, 2, none⟩ = some (.int .i64 0) := cell_of_row _ _ _ _ _ _ Y1.out
  have zX1 := lt_of_heap X1.out
  have zY1 := lt_of_heap Y1.out
  go_simp
  go_wp2
  go_ret
  exact ⟨rfl, by first | exact B3.out | exact B3.out.alloc B3.out.size _⟩
set_option maxHeartbeats 3200000 in
set_option maxRecDepth 100000 in
theorem untilDates_walk (y m d Y M D : Int) (w : World) (hM : MD w) : Calls Tryd.prog 3 #[.agg #[.int .i64 y, .int .i64 m, .int .i64 d], .agg #[.int .i64 Y, .int .i64 M, .int .i64 D]] w fun e w' => e = .returned (.bool true) ∧ Below w.heap.size w w' := by
  obtain ⟨p, q, r, E, X1, X2⟩ := until_both y m d Y M D
  obtain ⟨n, F, X3, X4⟩ := umonths_both y m d Y M D
  have H1 := Lib.hid X1
  have H2 := Lib.hid X2
  have H3 := Lib.hid X3
  have H4 := Lib.hid X4
  have HK := Lib.hid awake12_any
  clear X1 X2 X3 X4
  replace hM := Lib.hid hM
  go_enter Tryd.func3, Tryd.ntmps3
  go_wp2_with fail
  
  refine (H1.out _ (by first | exact md_keep hM (((Below.refl w.heap.size w).alloc (Nat.le_refl _) _).alloc (by simp <;> omega) _))).mono ?_
  rintro e V1 ⟨rfl, hb1⟩
  have B1 := Lib.hid ((((Below.refl w.heap.size w).alloc (Nat.le_refl _) _).alloc (by simp <;> omega) _).trans (hb1.mono (by first | assumption | (simp <;> omega) | (simp; done))))
  have A1 := Lib.hid (row_call hb1 (row_alloc (heap_alloc_new _ _) _))
  have C1 := Lib.hid (row_at (k' := w.heap.size + 1) (by simp) (row_call hb1 (heap_alloc_new _ _)))
  clear hb1
  have A1_0 : V1.cell? ⟨w.heap.size, 0, none⟩ = some (.int .i64 y) := cell_of_row _ _ _ _ _ _ A1.out
  have A1_1 : V1.cell? ⟨w.heap.size, 1, none⟩ = some (.int .i64 m) := cell_of_row _ _ _ _ _ _ A1.out
  have A1_2 : V1.cell? ⟨w.heap.size, 2, none⟩ = some (.int .i64 d) := cell_of_row _ _ _ _ _ _ A1.out
  have C1_0 : V1.cell? ⟨w.heap.size + 1, 0, none⟩ = some (.int .i64 Y) := cell_of_row _ _ _ _ _ _ C1.out
  have C1_1 : V1.cell? ⟨w.heap.size + 1, 1, none⟩ = some (.int .i64 M) := cell_of_row _ _ _ _ _ _ C1.out
  have C1_2 : V1.cell? ⟨w.heap.size + 1, 2, none⟩ = some (.int .i64 D) := cell_of_row _ _ _ _ _ _ C1.out
  have zA1 := lt_of_heap A1.out
  have zC1 := lt_of_heap C1.out
  go_simp
  go_wp2_with fail
  refine (H2.out _).mono ?_
  rintro e V2 ⟨rfl, hb2⟩
  clear A1_0 A1_1 A1_2 zA1 C1_0 C1_1 C1_2 zC1
  have nA1P1 := Lib.hid (lt_of_heap A1.out)
  have nC1P1 := Lib.hid (lt_of_heap C1.out)
  have B2 := Lib.hid (((B1.out).alloc (B1.out.size) _).trans (hb2.mono (by have := B1.out.size; first | assumption | (simp <;> omega) | (simp; done))))
  replace A1 := Lib.hid (row_call hb2 (row_alloc A1.out _))
  replace C1 := Lib.hid (row_call hb2 (row_alloc C1.out _))
  have P1 := Lib.hid (row_call hb2 (heap_alloc_new _ _))
  clear hb2
  have A1_0 : V2.cell? ⟨w.heap.size, 0, none⟩ = some (.int .i64 y) := cell_of_row _ _ _ _ _ _ A1.out
  have A1_1 : V2.cell? ⟨w.heap.size, 1, none⟩ = some (.int .i64 m) := cell_of_row _ _ _ _ _ _ A1.out
  have A1_2 : V2.cell? ⟨w.heap.size, 2, none⟩ = some (.int .i64 d) := cell_of_row _ _ _ _ _ _ A1.out
  have C1_0 : V2.cell? ⟨w.heap.size + 1, 0, none⟩ = some (.int .i64 Y) := cell_of_row _ _ _ _ _ _ C1.out
  have C1_1 : V2.cell? ⟨w.heap.size + 1, 1, none⟩ = some (.int .i64 M) := cell_of_row _ _ _ _ _ _ C1.out
  have C1_2 : V2.cell? ⟨w.heap.size + 1, 2, none⟩ = some (.int .i64 D) := cell_of_row _ _ _ _ _ _ C1.out
  have P1_0 : V2.cell? ⟨V1.heap.size, 0, none⟩ = some (.int .i64 p) := cell_of_row _ _ _ _ _ _ P1.out
  have P1_1 : V2.cell? ⟨V1.heap.size, 1, none⟩ = some (.int .i64 q) := cell_of_row _ _ _ _ _ _ P1.out
  have P1_2 : V2.cell? ⟨V1.heap.size, 2, none⟩ = some (.int .i64 r) := cell_of_row _ _ _ _ _ _ P1.out
  have zA1 := lt_of_heap A1.out
  have zC1 := lt_of_heap C1.out
  have zP1 := lt_of_heap P1.out
  go_simp
  go_wp2_with fail
  refine (H3.out _ (by first | exact md_keep hM ((B2.out).alloc (B2.out.size) _))).mono ?_
  rintro e V3 ⟨rfl, hb3⟩
  clear A1_0 A1_1 A1_2 zA1 C1_0 C1_1 C1_2 zC1 P1_0 P1_1 P1_2 zP1
  have nA1Q1 := Lib.hid (lt_of_heap A1.out)
  have nC1Q1 := Lib.hid (lt_of_heap C1.out)
  have nP1Q1 := Lib.hid (lt_of_heap P1.out)
  have B3 := Lib.hid (((B2.out).alloc (B2.out.size) _).trans (hb3.mono (by have := B2.out.size; first | assumption | (simp <;> omega) | (simp; done))))
  replace A1 := Lib.hid (row_call hb3 (row_alloc A1.out _))
  replace C1 := Lib.hid (row_call hb3 (row_alloc C1.out _))
  replace P1 := Lib.hid (row_call hb3 (row_alloc P1.out _))
  have Q1 := Lib.hid (row_call hb3 (heap_alloc_new _ _))
  clear hb3
  have A1_0 : V3.cell? ⟨w.heap.size, 0, none⟩ = some (.int .i64 y) := cell_of_row _ _ _ _ _ _ A1.out
  have A1_1 : V3.cell? ⟨w.heap.size, 1, none⟩ = some (.int .i64 m) := cell_of_row _ _ _ _ _ _ A1.out
  have A1_2 : V3.cell? ⟨w.heap.size, 2, none⟩ = some (.int .i64 d) := cell_of_row _ _ _ _ _ _ A1.out
  have C1_0 : V3.cell? ⟨w.heap.size + 1, 0, none⟩ = some (.int .i64 Y) := cell_of_row _ _ _ _ _ _ C1.out
  have C1_1 : V3.cell? ⟨w.heap.size + 1, 1, none⟩ = some (.int .i64 M) := cell_of_row _ _ _ _ _ _ C1.out
  have C1_2 : V3.cell? ⟨w.heap.size + 1, 2, none⟩ = some (.int .i64 D) := cell_of_row _ _ _ _ _ _ C1.out
  have P1_0 : V3.cell? ⟨V1.heap.size, 0, none⟩ = some (.int .i64 p) := cell_of_row _ _ _ _ _ _ P1.out
  have P1_1 : V3.cell? ⟨V1.heap.size, 1, none⟩ = some (.int .i64 q) := cell_of_row _ _ _ _ _ _ P1.out
  have P1_2 : V3.cell? ⟨V1.heap.size, 2, none⟩ = some (.int .i64 r) := cell_of_row _ _ _ _ _ _ P1.out
  have Q1_0 : V3.cell? ⟨V2.heap.size, 0, none⟩ = some (.int .i64 p) := cell_of_row _ _ _ _ _ _ Q1.out
  have Q1_1 : V3.cell? ⟨V2.heap.size, 1, none⟩ = some (.int .i64 q) := cell_of_row _ _ _ _ _ _ Q1.out
  have Q1_2 : V3.cell? ⟨V2.heap.size, 2, none⟩ = some (.int .i64 r) := cell_of_row _ _ _ _ _ _ Q1.out
  have zA1 := lt_of_heap A1.out
  have zC1 := lt_of_heap C1.out
  have zP1 := lt_of_heap P1.out
  have zQ1 := lt_of_heap Q1.out
  go_simp
  go_wp2_with fail
  refine (H4.out _).mono ?_
  rintro e V4 ⟨rfl, hb4⟩
  clear A1_0 A1_1 A1_2 zA1 C1_0 C1_1 C1_2 zC1 P1_0 P1_1 P1_2 zP1 Q1_0 Q1_1 Q1_2 zQ1
  have B4 : Hid (Below w.heap.size w V4) := by first | exact Lib.hid ((B3.out).trans (hb4.mono (by have := B3.out.size; first | assumption | (simp <;> omega) | (simp; done)))) | exact Lib.hid (((B3.out).alloc (B3.out.size) _).trans (hb4.mono (by have := B3.out.size; first | assumption | (simp <;> omega) | (simp; done)))) | exact Lib.hid ((((B3.out).alloc (B3.out.size) _).alloc (by have := B3.out.size; simp <;> omega) _).trans (hb4.mono (by have := B3.out.size; first | assumption | (simp <;> omega) | (simp; done)))) | exact Lib.hid (((((B3.out).alloc (B3.out.size) _).alloc (by have := B3.out.size; simp <;> omega) _).alloc (by have := B3.out.size; simp <;> omega) _).trans (hb4.mono (by have := B3.out.size; first | assumption | (simp <;> omega) | (simp; done))))
  first | replace A1 := Lib.hid (row_call hb4 A1.out) | replace A1 := Lib.hid (row_call hb4 (row_alloc A1.out _)) | replace A1 := Lib.hid (row_call hb4 (row_alloc (row_alloc A1.out _) _)) | replace A1 := Lib.hid (row_call hb4 (row_alloc (row_alloc (row_alloc A1.out _) _) _))
  first | replace C1 := Lib.hid (row_call hb4 C1.out) | replace C1 := Lib.hid (row_call hb4 (row_alloc C1.out _)) | replace C1 := Lib.hid (row_call hb4 (row_alloc (row_alloc C1.out _) _)) | replace C1 := Lib.hid (row_call hb4 (row_alloc (row_alloc (row_alloc C1.out _) _) _))
  first | replace P1 := Lib.hid (row_call hb4 P1.out) | replace P1 := Lib.hid (row_call hb4 (row_alloc P1.out _)) | replace P1 := Lib.hid (row_call hb4 (row_alloc (row_alloc P1.out _) _)) | replace P1 := Lib.hid (row_call hb4 (row_alloc (row_alloc (row_alloc P1.out _) _) _))
  first | replace Q1 := Lib.hid (row_call hb4 Q1.out) | replace Q1 := Lib.hid (row_call hb4 (row_alloc Q1.out _)) | replace Q1 := Lib.hid (row_call hb4 (row_alloc (row_alloc Q1.out _) _)) | replace Q1 := Lib.hid (row_call hb4 (row_alloc (row_alloc (row_alloc Q1.out _) _) _))
  clear hb4
  have A1_0 : V4.cell? ⟨w.heap.size, 0, none⟩ = some (.int .i64 y) := cell_of_row _ _ _ _ _ _ A1.out
  have A1_1 : V4.cell? ⟨w.heap.size, 1, none⟩ = some (.int .i64 m) := cell_of_row _ _ _ _ _ _ A1.out
  have A1_2 : V4.cell? ⟨w.heap.size, 2, none⟩ = some (.int .i64 d) := cell_of_row _ _ _ _ _ _ A1.out
  have C1_0 : V4.cell? ⟨w.heap.size + 1, 0, none⟩ = some (.int .i64 Y) := cell_of_row _ _ _ _ _ _ C1.out
  have C1_1 : V4.cell? ⟨w.heap.size + 1, 1, none⟩ = some (.int .i64 M) := cell_of_row _ _ _ _ _ _ C1.out
  have C1_2 : V4.cell? ⟨w.heap.size + 1, 2, none⟩ = some (.int .i64 D) := cell_of_row _ _ _ _ _ _ C1.out
  have P1_0 : V4.cell? ⟨V1.heap.size, 0, none⟩ = some (.int .i64 p) := cell_of_row _ _ _ _ _ _ P1.out
  have P1_1 : V4.cell? ⟨V1.heap.size, 1, none⟩ = some (.int .i64 q) := cell_of_row _ _ _ _ _ _ P1.out
  have P1_2 : V4.cell? ⟨V1.heap.size, 2, none⟩ = some (.int .i64 r) := cell_of_row _ _ _ _ _ _ P1.out
  have Q1_0 : V4.cell? ⟨V2.heap.size, 0, none⟩ = some (.int .i64 p) := cell_of_row _ _ _ _ _ _ Q1.out
  have Q1_1 : V4.cell? ⟨V2.heap.size, 1, none⟩ = some (.int .i64 q) := cell_of_row _ _ _ _ _ _ Q1.out
  have Q1_2 : V4.cell? ⟨V2.heap.size, 2, none⟩ = some (.int .i64 r) := cell_of_row _ _ _ _ _ _ Q1.out
  have zA1 := lt_of_heap A1.out
  have zC1 := lt_of_heap C1.out
  have zP1 := lt_of_heap P1.out
  have zQ1 := lt_of_heap Q1.out
  go_simp
  go_wp2_with fail
  refine (HK.out _ (by first | exact md_keep hM (B4.out) | exact md_keep hM ((B4.out).alloc (B4.out.size) _) | exact md_keep hM (((B4.out).alloc (B4.out.size) _).alloc (by have := B4.out.size; simp <;> omega) _) | exact md_keep hM ((((B4.out).alloc (B4.out.size) _).alloc (by have := B4.out.size; simp <;> omega) _).alloc (by have := B4.out.size; simp <;> omega) _))).mono ?_
  rintro e V5 ⟨rfl, hb5⟩
  clear A1_0 A1_1 A1_2 zA1 C1_0 C1_1 C1_2 zC1 P1_0 P1_1 P1_2 zP1 Q1_0 Q1_1 Q1_2 zQ1
  have B5 : Hid (Below w.heap.size w V5) := by first | exact Lib.hid ((B4.out).trans (hb5.mono (by have := B4.out.size; first | assumption | (simp <;> omega) | (simp; done)))) | exact Lib.hid (((B4.out).alloc (B4.out.size) _).trans (hb5.mono (by have := B4.out.size; first | assumption | (simp <;> omega) | (simp; done)))) | exact Lib.hid ((((B4.out).alloc (B4.out.size) _).alloc (by have := B4.out.size; simp <;> omega) _).trans (hb5.mono (by have := B4.out.size; first | assumption | (simp <;> omega) | (simp; done)))) | exact Lib.hid (((((B4.out).alloc (B4.out.size) _).alloc (by have := B4.out.size; simp <;> omega) _).alloc (by have := B4.out.size; simp <;> omega) _).trans (hb5.mono (by have := B4.out.size; first | assumption | (simp <;> omega) | (simp; done))))
  first | replace A1 := Lib.hid (row_call hb5 A1.out) | replace A1 := Lib.hid (row_call hb5 (row_alloc A1.out _)) | replace A1 := Lib.hid (row_call hb5 (row_alloc (row_alloc A1.out _) _)) | replace A1 := Lib.hid (row_call hb5 (row_alloc (row_alloc (row_alloc A1.out _) _) _))
  first | replace C1 := Lib.hid (row_call hb5 C1.out) | replace C1 := Lib.hid (row_call hb5 (row_alloc C1.out _)) | replace C1 := Lib.hid (row_call hb5 (row_alloc (row_alloc C1.out _) _)) | replace C1 := Lib.hid (row_call hb5 (row_alloc (row_alloc (row_alloc C1.out _) _) _))
  first | replace P1 := Lib.hid (row_call hb5 P1.out) | replace P1 := Lib.hid (row_call hb5 (row_alloc P1.out _)) | replace P1 := Lib.hid (row_call hb5 (row_alloc (row_alloc P1.out _) _)) | replace P1 := Lib.hid (row_call hb5 (row_alloc (row_alloc (row_alloc P1.out _) _) _))
  first | replace Q1 := Lib.hid (row_call hb5 Q1.out) | replace Q1 := Lib.hid (row_call hb5 (row_alloc Q1.out _)) | replace Q1 := Lib.hid (row_call hb5 (row_alloc (row_alloc Q1.out _) _)) | replace Q1 := Lib.hid (row_call hb5 (row_alloc (row_alloc (row_alloc Q1.out _) _) _))
  clear hb5
  have A1_0 : V5.cell? ⟨w.heap.size, 0, none⟩ = some (.int .i64 y) := cell_of_row _ _ _ _ _ _ A1.out
  have A1_1 : V5.cell? ⟨w.heap.size, 1, none⟩ = some (.int .i64 m) := cell_of_row _ _ _ _ _ _ A1.out
  have A1_2 : V5.cell? ⟨w.heap.size, 2, none⟩ = some (.int .i64 d) := cell_of_row _ _ _ _ _ _ A1.out
  have C1_0 : V5.cell? ⟨w.heap.size + 1, 0, none⟩ = some (.int .i64 Y) := cell_of_row _ _ _ _ _ _ C1.out
  have C1_1 : V5.cell? ⟨w.heap.size + 1, 1, none⟩ = some (.int .i64 M) := cell_of_row _ _ _ _ _ _ C1.out
  have C1_2 : V5.cell? ⟨w.heap.size + 1, 2, none⟩ = some (.int .i64 D) := cell_of_row _ _ _ _ _ _ C1.out
  have P1_0 : V5.cell? ⟨V1.heap.size, 0, none⟩ = some (.int .i64 p) := cell_of_row _ _ _ _ _ _ P1.out
  have P1_1 : V5.cell? ⟨V1.heap.size, 1, none⟩ = some (.int .i64 q) := cell_of_row _ _ _ _ _ _ P1.out
  have P1_2 : V5.cell? ⟨V1.heap.size, 2, none⟩ = some (.int .i64 r) := cell_of_row _ _ _ _ _ _ P1.out
  have Q1_0 : V5.cell? ⟨V2.heap.size, 0, none⟩ = some (.int .i64 p) := cell_of_row _ _ _ _ _ _ Q1.out
  have Q1_1 : V5.cell? ⟨V2.heap.size, 1, none⟩ = some (.int .i64 q) := cell_of_row _ _ _ _ _ _ Q1.out
  have Q1_2 : V5.cell? ⟨V2.heap.size, 2, none⟩ = some (.int .i64 r) := cell_of_row _ _ _ _ _ _ Q1.out
  have zA1 := lt_of_heap A1.out
  have zC1 := lt_of_heap C1.out
  have zP1 := lt_of_heap P1.out
  have zQ1 := lt_of_heap Q1.out
  go_simp
  go_wp2
  go_ret
  exact ⟨rfl, by first | exact B5.out | exact B5.out.alloc B5.out.size _⟩
theorem un_date {y m d Y M D : Int} (ha : ckC y m d = 0) (hb : ckC Y M D = 0) : IsDate (dnI (moY y m (unN y m d Y M D)) (moM y m (unN y m d Y M D)) (moD y m d (unN y m d Y M D)) + unD y m d Y M D) Y M D 0 := by
  obtain ⟨hM, Y1, Y2⟩ := of_ckC hb
  exact Or.inr ⟨hM, Y1, Y2, by unfold unD; omega, rfl⟩
set_option maxHeartbeats 3200000 in
set_option maxRecDepth 100000 in
theorem untilAdds_walk (y m d Y M D : Int) (w : World) (hM : MD w) : Calls Tryd.prog 4 #[.agg #[.int .i64 y, .int .i64 m, .int .i64 d], .agg #[.int .i64 Y, .int .i64 M, .int .i64 D]] w fun e w' => e = .returned (.bool true) ∧ Below w.heap.size w w' := by
  have HK := Lib.hid awake12_any
  by_cases h : unE y m d Y M D = 0
  · obtain ⟨ha, hb⟩ := unE_zero h
    obtain ⟨n1, n2, n3, n4⟩ := unN_bd ha hb
    obtain ⟨g1, g2⟩ := un_days ha hb
    obtain ⟨hm, _, _⟩ := of_ckC ha
    have hx := moD_may (y := y) (m := m) (n := unN y m d Y M D) (mayB_yes hm).1
    have k := Int.tmod_add_mul_tdiv (unN y m d Y M D) 12
    have k1 := Int.lt_tmod_of_pos (unN y m d Y M D) (show (0 : Int) < 12 by decide)
    have k2 := Int.tmod_lt_of_pos (unN y m d Y M D) (show (0 : Int) < 12 by decide)
    have hq : ckP ((unN y m d Y M D).tdiv 12) ((unN y m d Y M D).tmod 12) (unD y m d Y M D) = 0 := ckP_zero (by omega) (by omega) (by
      by_cases ho : ord3 y m d Y M D ≤ 0
      · have := g1 ho; omega
      · have := g2 ho; omega)
    have HA := rmAddC_any y m d (unN y m d Y M D) ha (by unfold in64; omega) n3 n4
    rw [show Value.int .i64 (unN y m d Y M D) = .int .i64 (12 * (unN y m d Y M D).tdiv 12 + (unN y m d Y M D).tmod 12) by congr 1; omega] at HA
    have H2 := Lib.hid (rmPlus_any0 y m d _ _ _ _ _ _ Y M D 0 ha hq hx n3 n4 (un_date ha hb) (Lib.hid HA))
    have H1 := Lib.hid (pUntil_any y m d Y M D h)
    clear HA hq hx k k1 k2 g1 g2 n1 n2 n3 n4 ha hb h hm
    generalize (unN y m d Y M D).tdiv 12 = p at *
    generalize (unN y m d Y M D).tmod 12 = q at *
    generalize unD y m d Y M D = r at *
    replace hM := Lib.hid hM
    go_enter Tryd.func4, Tryd.ntmps4
    go_wp2_with fail
    
    refine (H1.out _ (by first | exact md_keep hM (((Below.refl w.heap.size w).alloc (Nat.le_refl _) _).alloc (by simp <;> omega) _))).mono ?_
    rintro e V1 ⟨rfl, hb1⟩
    have B1 := Lib.hid ((((Below.refl w.heap.size w).alloc (Nat.le_refl _) _).alloc (by simp <;> omega) _).trans (hb1.mono (by first | assumption | (simp <;> omega) | (simp; done))))
    have A1 := Lib.hid (row_call hb1 (row_alloc (heap_alloc_new _ _) _))
    have C1 := Lib.hid (row_at (k' := w.heap.size + 1) (by simp) (row_call hb1 (heap_alloc_new _ _)))
    clear hb1
    have A1_0 : V1.cell? ⟨w.heap.size, 0, none⟩ = some (.int .i64 y) := cell_of_row _ _ _ _ _ _ A1.out
    have A1_1 : V1.cell? ⟨w.heap.size, 1, none⟩ = some (.int .i64 m) := cell_of_row _ _ _ _ _ _ A1.out
    have A1_2 : V1.cell? ⟨w.heap.size, 2, none⟩ = some (.int .i64 d) := cell_of_row _ _ _ _ _ _ A1.out
    have C1_0 : V1.cell? ⟨w.heap.size + 1, 0, none⟩ = some (.int .i64 Y) := cell_of_row _ _ _ _ _ _ C1.out
    have C1_1 : V1.cell? ⟨w.heap.size + 1, 1, none⟩ = some (.int .i64 M) := cell_of_row _ _ _ _ _ _ C1.out
    have C1_2 : V1.cell? ⟨w.heap.size + 1, 2, none⟩ = some (.int .i64 D) := cell_of_row _ _ _ _ _ _ C1.out
    have zA1 := lt_of_heap A1.out
    have zC1 := lt_of_heap C1.out
    go_simp
    go_wp2_with fail
    refine (H2.out _).mono ?_
    rintro e V2 ⟨rfl, hb2⟩
    clear A1_0 A1_1 A1_2 zA1 C1_0 C1_1 C1_2 zC1
    have nA1P1 := Lib.hid (lt_of_heap A1.out)
    have nC1P1 := Lib.hid (lt_of_heap C1.out)
    have B2 := Lib.hid (((B1.out).alloc (B1.out.size) _).trans (hb2.mono (by have := B1.out.size; first | assumption | (simp <;> omega) | (simp; done))))
    replace A1 := Lib.hid (row_call hb2 (row_alloc A1.out _))
    replace C1 := Lib.hid (row_call hb2 (row_alloc C1.out _))
    have P1 := Lib.hid (row_call hb2 (heap_alloc_new _ _))
    clear hb2
    have A1_0 : V2.cell? ⟨w.heap.size, 0, none⟩ = some (.int .i64 y) := cell_of_row _ _ _ _ _ _ A1.out
    have A1_1 : V2.cell? ⟨w.heap.size, 1, none⟩ = some (.int .i64 m) := cell_of_row _ _ _ _ _ _ A1.out
    have A1_2 : V2.cell? ⟨w.heap.size, 2, none⟩ = some (.int .i64 d) := cell_of_row _ _ _ _ _ _ A1.out
    have C1_0 : V2.cell? ⟨w.heap.size + 1, 0, none⟩ = some (.int .i64 Y) := cell_of_row _ _ _ _ _ _ C1.out
    have C1_1 : V2.cell? ⟨w.heap.size + 1, 1, none⟩ = some (.int .i64 M) := cell_of_row _ _ _ _ _ _ C1.out
    have C1_2 : V2.cell? ⟨w.heap.size + 1, 2, none⟩ = some (.int .i64 D) := cell_of_row _ _ _ _ _ _ C1.out
    have P1_0 : V2.cell? ⟨V1.heap.size, 0, none⟩ = some (.int .i64 p) := cell_of_row _ _ _ _ _ _ P1.out
    have P1_1 : V2.cell? ⟨V1.heap.size, 1, none⟩ = some (.int .i64 q) := cell_of_row _ _ _ _ _ _ P1.out
    have P1_2 : V2.cell? ⟨V1.heap.size, 2, none⟩ = some (.int .i64 r) := cell_of_row _ _ _ _ _ _ P1.out
    have zA1 := lt_of_heap A1.out
    have zC1 := lt_of_heap C1.out
    have zP1 := lt_of_heap P1.out
    go_simp
    go_wp2_with fail
    refine (HK.out _ (by first | exact md_keep hM ((B2.out).alloc (B2.out.size) _))).mono ?_
    rintro e V3 ⟨rfl, hb3⟩
    clear A1_0 A1_1 A1_2 zA1 C1_0 C1_1 C1_2 zC1 P1_0 P1_1 P1_2 zP1
    have nA1X1 := Lib.hid (lt_of_heap A1.out)
    have nC1X1 := Lib.hid (lt_of_heap C1.out)
    have nP1X1 := Lib.hid (lt_of_heap P1.out)
    have B3 := Lib.hid (((B2.out).alloc (B2.out.size) _).trans (hb3.mono (by have := B2.out.size; first | assumption | (simp <;> omega) | (simp; done))))
    replace A1 := Lib.hid (row_call hb3 (row_alloc A1.out _))
    replace C1 := Lib.hid (row_call hb3 (row_alloc C1.out _))
    replace P1 := Lib.hid (row_call hb3 (row_alloc P1.out _))
    have X1 := Lib.hid (row_call hb3 (heap_alloc_new _ _))
    clear hb3
    have A1_0 : V3.cell? ⟨w.heap.size, 0, none⟩ = some (.int .i64 y) := cell_of_row _ _ _ _ _ _ A1.out
    have A1_1 : V3.cell? ⟨w.heap.size, 1, none⟩ = some (.int .i64 m) := cell_of_row _ _ _ _ _ _ A1.out
    have A1_2 : V3.cell? ⟨w.heap.size, 2, none⟩ = some (.int .i64 d) := cell_of_row _ _ _ _ _ _ A1.out
    have C1_0 : V3.cell? ⟨w.heap.size + 1, 0, none⟩ = some (.int .i64 Y) := cell_of_row _ _ _ _ _ _ C1.out
    have C1_1 : V3.cell? ⟨w.heap.size + 1, 1, none⟩ = some (.int .i64 M) := cell_of_row _ _ _ _ _ _ C1.out
    have C1_2 : V3.cell? ⟨w.heap.size + 1, 2, none⟩ = some (.int .i64 D) := cell_of_row _ _ _ _ _ _ C1.out
    have P1_0 : V3.cell? ⟨V1.heap.size, 0, none⟩ = some (.int .i64 p) := cell_of_row _ _ _ _ _ _ P1.out
    have P1_1 : V3.cell? ⟨V1.heap.size, 1, none⟩ = some (.int .i64 q) := cell_of_row _ _ _ _ _ _ P1.out
    have P1_2 : V3.cell? ⟨V1.heap.size, 2, none⟩ = some (.int .i64 r) := cell_of_row _ _ _ _ _ _ P1.out
    have X1_0 : V3.cell? ⟨V2.heap.size, 0, none⟩ = some (.int .i64 Y) := cell_of_row _ _ _ _ _ _ X1.out
    have X1_1 : V3.cell? ⟨V2.heap.size, 1, none⟩ = some (.int .i64 M) := cell_of_row _ _ _ _ _ _ X1.out
    have X1_2 : V3.cell? ⟨V2.heap.size, 2, none⟩ = some (.int .i64 D) := cell_of_row _ _ _ _ _ _ X1.out
    have zA1 := lt_of_heap A1.out
    have zC1 := lt_of_heap C1.out
    have zP1 := lt_of_heap P1.out
    have zX1 := lt_of_heap X1.out
    go_simp
    go_wp2
    go_ret
    exact ⟨rfl, by first | exact B3.out | exact B3.out.alloc B3.out.size _⟩
  · have H1 := Lib.hid (pUntil_no y m d Y M D h)
    generalize unE y m d Y M D = E at *
    have f1 : (E != 0) = true := by rw [bne_iff_ne]; exact h
    replace hM := Lib.hid hM
    go_enter Tryd.func4, Tryd.ntmps4
    go_wp2_with fail
    
    refine (H1.out _ (by first | exact md_keep hM (((Below.refl w.heap.size w).alloc (Nat.le_refl _) _).alloc (by simp <;> omega) _))).mono ?_
    rintro e V1 ⟨rfl, hb1⟩
    have B1 := Lib.hid ((((Below.refl w.heap.size w).alloc (Nat.le_refl _) _).alloc (by simp <;> omega) _).trans (hb1.mono (by first | assumption | (simp <;> omega) | (simp; done))))
    have A1 := Lib.hid (row_call hb1 (row_alloc (heap_alloc_new _ _) _))
    have C1 := Lib.hid (row_at (k' := w.heap.size + 1) (by simp) (row_call hb1 (heap_alloc_new _ _)))
    clear hb1
    have A1_0 : V1.cell? ⟨w.heap.size, 0, none⟩ = some (.int .i64 y) := cell_of_row _ _ _ _ _ _ A1.out
    have A1_1 : V1.cell? ⟨w.heap.size, 1, none⟩ = some (.int .i64 m) := cell_of_row _ _ _ _ _ _ A1.out
    have A1_2 : V1.cell? ⟨w.heap.size, 2, none⟩ = some (.int .i64 d) := cell_of_row _ _ _ _ _ _ A1.out
    have C1_0 : V1.cell? ⟨w.heap.size + 1, 0, none⟩ = some (.int .i64 Y) := cell_of_row _ _ _ _ _ _ C1.out
    have C1_1 : V1.cell? ⟨w.heap.size + 1, 1, none⟩ = some (.int .i64 M) := cell_of_row _ _ _ _ _ _ C1.out
    have C1_2 : V1.cell? ⟨w.heap.size + 1, 2, none⟩ = some (.int .i64 D) := cell_of_row _ _ _ _ _ _ C1.out
    have zA1 := lt_of_heap A1.out
    have zC1 := lt_of_heap C1.out
    go_simp
    go_wp2_with fail
    refine (HK.out _ (by first | exact md_keep hM ((B1.out).alloc (B1.out.size) _))).mono ?_
    rintro e V2 ⟨rfl, hb2⟩
    clear A1_0 A1_1 A1_2 zA1 C1_0 C1_1 C1_2 zC1
    have nA1P1 := Lib.hid (lt_of_heap A1.out)
    have nC1P1 := Lib.hid (lt_of_heap C1.out)
    have B2 := Lib.hid (((B1.out).alloc (B1.out.size) _).trans (hb2.mono (by have := B1.out.size; first | assumption | (simp <;> omega) | (simp; done))))
    replace A1 := Lib.hid (row_call hb2 (row_alloc A1.out _))
    replace C1 := Lib.hid (row_call hb2 (row_alloc C1.out _))
    have P1 := Lib.hid (row_call hb2 (heap_alloc_new _ _))
    clear hb2
    have A1_0 : V2.cell? ⟨w.heap.size, 0, none⟩ = some (.int .i64 y) := cell_of_row _ _ _ _ _ _ A1.out
    have A1_1 : V2.cell? ⟨w.heap.size, 1, none⟩ = some (.int .i64 m) := cell_of_row _ _ _ _ _ _ A1.out
    have A1_2 : V2.cell? ⟨w.heap.size, 2, none⟩ = some (.int .i64 d) := cell_of_row _ _ _ _ _ _ A1.out
    have C1_0 : V2.cell? ⟨w.heap.size + 1, 0, none⟩ = some (.int .i64 Y) := cell_of_row _ _ _ _ _ _ C1.out
    have C1_1 : V2.cell? ⟨w.heap.size + 1, 1, none⟩ = some (.int .i64 M) := cell_of_row _ _ _ _ _ _ C1.out
    have C1_2 : V2.cell? ⟨w.heap.size + 1, 2, none⟩ = some (.int .i64 D) := cell_of_row _ _ _ _ _ _ C1.out
    have P1_0 : V2.cell? ⟨V1.heap.size, 0, none⟩ = some (.int .i64 0) := cell_of_row _ _ _ _ _ _ P1.out
    have P1_1 : V2.cell? ⟨V1.heap.size, 1, none⟩ = some (.int .i64 0) := cell_of_row _ _ _ _ _ _ P1.out
    have P1_2 : V2.cell? ⟨V1.heap.size, 2, none⟩ = some (.int .i64 0) := cell_of_row _ _ _ _ _ _ P1.out
    have zA1 := lt_of_heap A1.out
    have zC1 := lt_of_heap C1.out
    have zP1 := lt_of_heap P1.out
    go_simp
    go_wp2
    go_ret
    exact ⟨rfl, by first | exact B2.out | exact B2.out.alloc B2.out.size _⟩
end Go.Proofs.YtoopbgpoelpjfaaDoor
