/- Package civil: the check, the numbers of days. -/
import Derived.Test.YtoghogpcgdcboaaDoorCivE
import Derived.Test.YtoghogpcgdcboaaDoorCivG
import Derived.Test.YtoghogpcgdcboaaDoorRowS
namespace Go.Proofs.YtoghogpcgdcboaaDoor
set_option linter.unusedVariables false
set_option linter.unusedSimpArgs false
open Go.ChangeShapes Go.WideShapes Go.ChangeAt Go.RowKit

theorem may_low {y m d : Int} (h : d < 1) : mayB y m d = false := by unfold mayB; rw [decide_eq_false (show ¬ 1 ≤ d by omega)]; rfl
theorem may_past {y m d : Int} (h : mdI y m < d) : mayB y m d = false := by unfold mayB; rw [decide_eq_false (show ¬ d ≤ mdI y m by omega), Bool.and_false]
set_option maxHeartbeats 3200000 in
set_option maxRecDepth 100000 in
theorem pCheck_any (y m d : Int) (w : World) (hM : MD w) : Calls Tryd.prog 35 #[.agg #[.int .i64 y, .int .i64 m, .int .i64 d]] w fun e w' => e = .returned (.int .i64 (ckC y m d)) ∧ Below w.heap.size w w' := by
  have H1 := Lib.hid (fun w h => grow_of (pMonthDays_p y m w h))
  replace hM := Lib.hid hM
  by_cases h0 : d < 1
  · have E := Lib.hid (ckC_no (may_low (y := y) (m := m) h0))
    go_enter Tryd.func35, Tryd.ntmps35
    go_wp2_with fail
    
    obtain ⟨W0, hW0⟩ : ∃ W0, W0 = (w.alloc (Obj.cells #[Value.int .i64 y, Value.int .i64 m, Value.int .i64 d] 23)) := ⟨_, rfl⟩
    have A1 := Lib.hid (row_at (k' := w.heap.size) (by simp) (row_by hW0 (heap_alloc_new _ _)))
    have A1_0 : W0.cell? ⟨w.heap.size, 0, none⟩ = some (.int .i64 y) := cell_of_row _ _ _ _ _ _ A1.out
    have A1_1 : W0.cell? ⟨w.heap.size, 1, none⟩ = some (.int .i64 m) := cell_of_row _ _ _ _ _ _ A1.out
    have A1_2 : W0.cell? ⟨w.heap.size, 2, none⟩ = some (.int .i64 d) := cell_of_row _ _ _ _ _ _ A1.out
    have zA1 := lt_of_heap A1.out
    have HB0 := Lib.hid (below_by hW0 ((Below.refl w.heap.size w).alloc (Nat.le_refl _) _))
    have zW0 := HB0.out.size
    have HW0 := Lib.hid hW0
    clear hW0
    try go_simp
    rw [← HW0.out]
    have hk0 : ∀ w2, Below W0.heap.size W0 w2 → w2.cell? ⟨w.heap.size, 0, none⟩ = some (.int .i64 y) := fun w2 hb => (by rw [hb.cell (p := ⟨w.heap.size, 0, none⟩) (by assumption)]; assumption)
    have hk1 : ∀ w2, Below W0.heap.size W0 w2 → w2.cell? ⟨w.heap.size, 1, none⟩ = some (.int .i64 m) := fun w2 hb => (by rw [hb.cell (p := ⟨w.heap.size, 1, none⟩) (by assumption)]; assumption)
    have hk2 : ∀ w2, Below W0.heap.size W0 w2 → w2.cell? ⟨w.heap.size, 2, none⟩ = some (.int .i64 d) := fun w2 hb => (by rw [hb.cell (p := ⟨w.heap.size, 2, none⟩) (by assumption)]; assumption)
    clear A1_0 A1_1 A1_2
    refine region_plan (S := fun w2 => Below W0.heap.size W0 w2) [(0, true), (1, true), (2, true), (3, true), (4, true), (5, true), (6, true), (7, true), (8, true), (9, true), (10, true), (11, true), (12, true), (13, true)] (by as_aux_lemma => kernel_rfl) (by as_aux_lemma => kernel_rfl) (by as_aux_lemma => kernel_rfl) (by as_aux_lemma => kernel_rfl) (Below.refl W0.heap.size W0).drew ?_
    have Y0 := Lib.hid (Below.refl W0.heap.size W0).drew
    refine plan_yes (v := ?v1) (by simp only [List.getElem?_toArray, List.getElem?_cons_zero, List.getElem?_cons_succ]; exact rfl) (Or.inl ⟨by as_aux_lemma => rfl, ?hy1⟩) ?rest1
    case hy1 => (intro w2 hSw; (try dsimp only at hSw); go_simp; try with_reducible rfl)
    try simp only [Act.put, List.setIfInBounds_toArray, List.set_cons_zero, List.set_cons_succ]
    refine plan_yes (v := ?v2) (by simp only [List.getElem?_toArray, List.getElem?_cons_zero, List.getElem?_cons_succ]; exact rfl) (Or.inl ⟨by as_aux_lemma => rfl, ?hy2⟩) ?rest2
    case hy2 => (intro w2 hSw; (try dsimp only at hSw); go_simp; try with_reducible rfl)
    try simp only [Act.put, List.setIfInBounds_toArray, List.set_cons_zero, List.set_cons_succ]
    refine plan_yes (v := ?v3) (by simp only [List.getElem?_toArray, List.getElem?_cons_zero, List.getElem?_cons_succ]; exact rfl) (Or.inl ⟨by as_aux_lemma => rfl, ?hy3⟩) ?rest3
    case hy3 => (intro w2 hSw; (try dsimp only at hSw); go_simp; try with_reducible rfl)
    try simp only [Act.put, List.setIfInBounds_toArray, List.set_cons_zero, List.set_cons_succ]
    refine plan_yes (v := ?v4) (by simp only [List.getElem?_toArray, List.getElem?_cons_zero, List.getElem?_cons_succ]; exact rfl) (Or.inl ⟨by as_aux_lemma => rfl, ?hy4⟩) ?rest4
    case hy4 => (intro w2 hSw; (try dsimp only at hSw); go_simp; try with_reducible rfl)
    try simp only [Act.put, List.setIfInBounds_toArray, List.set_cons_zero, List.set_cons_succ]
    refine plan_yes (v := undef) (by simp only [List.getElem?_toArray, List.getElem?_cons_zero, List.getElem?_cons_succ]; exact rfl) (Or.inr ⟨by as_aux_lemma => rfl, rfl⟩) ?_
    try simp only [Act.put, List.setIfInBounds_toArray, List.set_cons_zero, List.set_cons_succ]
    refine plan_yes (v := undef) (by simp only [List.getElem?_toArray, List.getElem?_cons_zero, List.getElem?_cons_succ]; exact rfl) (Or.inr ⟨by as_aux_lemma => rfl, rfl⟩) ?_
    try simp only [Act.put, List.setIfInBounds_toArray, List.set_cons_zero, List.set_cons_succ]
    refine plan_yes (v := undef) (by simp only [List.getElem?_toArray, List.getElem?_cons_zero, List.getElem?_cons_succ]; exact rfl) (Or.inr ⟨by as_aux_lemma => rfl, rfl⟩) ?_
    try simp only [Act.put, List.setIfInBounds_toArray, List.set_cons_zero, List.set_cons_succ]
    refine plan_yes (v := undef) (by simp only [List.getElem?_toArray, List.getElem?_cons_zero, List.getElem?_cons_succ]; exact rfl) (Or.inr ⟨by as_aux_lemma => rfl, rfl⟩) ?_
    try simp only [Act.put, List.setIfInBounds_toArray, List.set_cons_zero, List.set_cons_succ]
    refine plan_yes (v := undef) (by simp only [List.getElem?_toArray, List.getElem?_cons_zero, List.getElem?_cons_succ]; exact rfl) (Or.inr ⟨by as_aux_lemma => rfl, rfl⟩) ?_
    try simp only [Act.put, List.setIfInBounds_toArray, List.set_cons_zero, List.set_cons_succ]
    refine plan_yes (v := undef) (by simp only [List.getElem?_toArray, List.getElem?_cons_zero, List.getElem?_cons_succ]; exact rfl) (Or.inr ⟨by as_aux_lemma => rfl, rfl⟩) ?_
    try simp only [Act.put, List.setIfInBounds_toArray, List.set_cons_zero, List.set_cons_succ]
    refine plan_yes (v := undef) (by simp only [List.getElem?_toArray, List.getElem?_cons_zero, List.getElem?_cons_succ]; exact rfl) (Or.inr ⟨by as_aux_lemma => rfl, rfl⟩) ?_
    try simp only [Act.put, List.setIfInBounds_toArray, List.set_cons_zero, List.set_cons_succ]
    refine plan_yes (v := undef) (by simp only [List.getElem?_toArray, List.getElem?_cons_zero, List.getElem?_cons_succ]; exact rfl) (Or.inr ⟨by as_aux_lemma => rfl, rfl⟩) ?_
    try simp only [Act.put, List.setIfInBounds_toArray, List.set_cons_zero, List.set_cons_succ]
    refine plan_yes (v := ?v5) (by simp only [List.getElem?_toArray, List.getElem?_cons_zero, List.getElem?_cons_succ]; exact rfl) (Or.inl ⟨by as_aux_lemma => rfl, ?hy5⟩) ?rest5
    case hy5 => (intro w2 hSw; (try dsimp only at hSw); go_simp; try with_reducible rfl)
    try simp only [Act.put, List.setIfInBounds_toArray, List.set_cons_zero, List.set_cons_succ]
    refine plan_yes (v := ?v6) (by simp only [List.getElem?_toArray, List.getElem?_cons_zero, List.getElem?_cons_succ]; exact rfl) (Or.inl ⟨by as_aux_lemma => rfl, ?hy6⟩) ?rest6
    case hy6 => (intro w2 hSw; (try dsimp only at hSw); go_simp; try with_reducible rfl)
    try simp only [Act.put, List.setIfInBounds_toArray, List.set_cons_zero, List.set_cons_succ]
    refine plan_done (NoPanic.normal ?_)
    have B0 := Y0.out
    have BW := Lib.hid (HB0.out.trans (B0.mono zW0))
    go_simp
    go_wp2
    go_ret
    exact ⟨by rw [E.out]; try rfl, BW.out⟩
  · have hd0 : decide (d < 1) = false := decide_eq_false h0
    by_cases h1 : mdI y m < d
    · have E := Lib.hid (ckC_no (may_past (y := y) h1))
      generalize mdI y m = M at *
      go_enter Tryd.func35, Tryd.ntmps35
      go_wp2_with fail
      
      obtain ⟨W0, hW0⟩ : ∃ W0, W0 = (w.alloc (Obj.cells #[Value.int .i64 y, Value.int .i64 m, Value.int .i64 d] 23)) := ⟨_, rfl⟩
      have A1 := Lib.hid (row_at (k' := w.heap.size) (by simp) (row_by hW0 (heap_alloc_new _ _)))
      have HB0 := Lib.hid (below_by hW0 ((Below.refl w.heap.size w).alloc (by simp <;> omega) _))
      have HW0 := Lib.hid hW0
      clear hW0
      have A1_0 : W0.cell? ⟨w.heap.size, 0, none⟩ = some (.int .i64 y) := cell_of_row _ _ _ _ _ _ A1.out
      have A1_1 : W0.cell? ⟨w.heap.size, 1, none⟩ = some (.int .i64 m) := cell_of_row _ _ _ _ _ _ A1.out
      have A1_2 : W0.cell? ⟨w.heap.size, 2, none⟩ = some (.int .i64 d) := cell_of_row _ _ _ _ _ _ A1.out
      have zA1 := lt_of_heap A1.out
      try rw [← HW0.out]
      go_cut [3] (fun s3 wx => s3 = .bool true ∧ Below W0.heap.size W0 wx)
      case first =>
        go_region_held3 (fun w' => Below W0.heap.size W0 w' ∧ w'.cell? ⟨w.heap.size, 0, none⟩ = some (.int .i64 y) ∧ w'.cell? ⟨w.heap.size, 1, none⟩ = some (.int .i64 m) ∧ w'.cell? ⟨w.heap.size, 2, none⟩ = some (.int .i64 d))
    (first
      | ((try go_split_ands); refine ⟨(Below.refl _ _).drew, ?_, ?_, ?_⟩ <;> first | assumption | (rw [World.cell?_drew]; assumption))
      | ((try go_split_ands); refine ⟨keepS (W0 := W0) ?_ hb1, cellS (W0 := W0) ?_ hb1 ?_ ?_, cellS (W0 := W0) ?_ hb1 ?_ ?_, cellS (W0 := W0) ?_ hb1 ?_ ?_⟩ <;> first | assumption | omega)
      | ((try go_split_ands); refine ⟨keepA (W0 := W0) ?_ _, cellA (W0 := W0) ?_ _ ?_ ?_, cellA (W0 := W0) ?_ _ ?_ ?_, cellA (W0 := W0) ?_ _ ?_ ?_⟩ <;> first | assumption | omega)
      | ((try go_split_ands); refine ⟨keepAd (W0 := W0) ?_ _, cellAd (W0 := W0) ?_ _ ?_ ?_, cellAd (W0 := W0) ?_ _ ?_ ?_, cellAd (W0 := W0) ?_ _ ?_ ?_⟩ <;> first | assumption | omega | exact Below.refl _ _)
      | ((try go_split_ands); (with_reducible refine ⟨keep3 (W0 := W0) ?_ ?_ _ _ _, cell3 (W0 := W0) ?_ _ _ _ ?_ ?_, cell3 (W0 := W0) ?_ _ _ _ ?_ ?_, cell3 (W0 := W0) ?_ _ _ _ ?_ ?_⟩) <;> first | assumption | omega | exact Nat.le_refl _)
      | ((try go_split_ands); refine ⟨keep2 (W0 := W0) ?_ ?_ _ _, cell2 (W0 := W0) ?_ _ _ ?_ ?_, cell2 (W0 := W0) ?_ _ _ ?_ ?_, cell2 (W0 := W0) ?_ _ _ ?_ ?_⟩ <;> first | assumption | omega | exact Nat.le_refl _)
      | ((try go_split_ands); refine ⟨keepZ (W0 := W0) ?_ ?_ _, cellZ (W0 := W0) ?_ _ ?_ ?_, cellZ (W0 := W0) ?_ _ ?_ ?_, cellZ (W0 := W0) ?_ _ ?_ ?_⟩ <;> first | assumption | omega | exact Nat.le_refl _ | exact ⟨_, by assumption⟩))
    (first | (go_at_call 36; refine (H1.out _ (by first | exact md_keep (Lib.hid (md_keep hM HB0.out)) (by assumption) | exact md_keep (Lib.hid (md_keep hM HB0.out)) (by (try go_split_ands); assumption) | exact md_keep (Lib.hid (md_keep hM HB0.out)) (Below.refl _ _).drew)).mono ?_; rintro e w1 ⟨rfl, hb1⟩; (try go_split_ands); have hge : W0.heap.size ≤ w1.heap.size := (by first | (refine (keepS (W0 := W0) ?_ hb1).size; assumption) | exact (hb1.size : W0.heap.size ≤ w1.heap.size)); (try have hrow := row_call hb1 hrow); (try have hrow := row_new hb1); (try have hrow := row_newd hb1); have hl1 := lt_below hb1; obtain ⟨hc1, hf1⟩ := bcell hb1; (try (have hrc := row_cellA hrow; clear hc1 hf1)); (try have hrf := row_frozA hrow)))
        all_goals (try go_split_ands)
        all_goals (go_wp2_with fail; go_meet; refine ⟨rfl, ?_⟩)
        all_goals first | (with_reducible assumption) | (with_reducible exact heap_alloc_new _ _) | (with_reducible exact row_set3 (by assumption) _ _ _) | assumption | exact heap_alloc_new _ _ | exact row_set (by assumption) _ _
      case rest =>
        obtain ⟨rfl, hB⟩ := hcut
        obtain ⟨V1, rfl⟩ : ∃ V, V = wc := ⟨_, rfl⟩
        clear A1_0 A1_1 A1_2 zA1
        replace A1 := Lib.hid (row_call hB A1.out)
        have B1 := Lib.hid (HB0.out.trans (hB.mono HB0.out.size))
        clear hB
        have A1_0 : V1.cell? ⟨w.heap.size, 0, none⟩ = some (.int .i64 y) := cell_of_row _ _ _ _ _ _ A1.out
        have A1_1 : V1.cell? ⟨w.heap.size, 1, none⟩ = some (.int .i64 m) := cell_of_row _ _ _ _ _ _ A1.out
        have A1_2 : V1.cell? ⟨w.heap.size, 2, none⟩ = some (.int .i64 d) := cell_of_row _ _ _ _ _ _ A1.out
        have zA1 := lt_of_heap A1.out
        go_wp2
        go_ret
        exact ⟨by rw [E.out]; try rfl, B1.out⟩
    · have hm : mayB y m d = true := may_of (by omega) (by omega)
      have hd1 : decide (mdI y m < d) = false := decide_eq_false h1
      by_cases h2 : y < -9999
      · have E := Lib.hid (ckC_out hm (Or.inl h2))
        clear hm
        generalize mdI y m = M at *
        go_enter Tryd.func35, Tryd.ntmps35
        go_wp2_with fail
        
        obtain ⟨W0, hW0⟩ : ∃ W0, W0 = (w.alloc (Obj.cells #[Value.int .i64 y, Value.int .i64 m, Value.int .i64 d] 23)) := ⟨_, rfl⟩
        have A1 := Lib.hid (row_at (k' := w.heap.size) (by simp) (row_by hW0 (heap_alloc_new _ _)))
        have HB0 := Lib.hid (below_by hW0 ((Below.refl w.heap.size w).alloc (by simp <;> omega) _))
        have HW0 := Lib.hid hW0
        clear hW0
        have A1_0 : W0.cell? ⟨w.heap.size, 0, none⟩ = some (.int .i64 y) := cell_of_row _ _ _ _ _ _ A1.out
        have A1_1 : W0.cell? ⟨w.heap.size, 1, none⟩ = some (.int .i64 m) := cell_of_row _ _ _ _ _ _ A1.out
        have A1_2 : W0.cell? ⟨w.heap.size, 2, none⟩ = some (.int .i64 d) := cell_of_row _ _ _ _ _ _ A1.out
        have zA1 := lt_of_heap A1.out
        try rw [← HW0.out]
        go_cut [3] (fun s3 wx => s3 = .bool false ∧ Below W0.heap.size W0 wx)
        case first =>
          go_region_held3 (fun w' => Below W0.heap.size W0 w' ∧ w'.cell? ⟨w.heap.size, 0, none⟩ = some (.int .i64 y) ∧ w'.cell? ⟨w.heap.size, 1, none⟩ = some (.int .i64 m) ∧ w'.cell? ⟨w.heap.size, 2, none⟩ = some (.int .i64 d))
    (first
      | ((try go_split_ands); refine ⟨(Below.refl _ _).drew, ?_, ?_, ?_⟩ <;> first | assumption | (rw [World.cell?_drew]; assumption))
      | ((try go_split_ands); refine ⟨keepS (W0 := W0) ?_ hb1, cellS (W0 := W0) ?_ hb1 ?_ ?_, cellS (W0 := W0) ?_ hb1 ?_ ?_, cellS (W0 := W0) ?_ hb1 ?_ ?_⟩ <;> first | assumption | omega)
      | ((try go_split_ands); refine ⟨keepA (W0 := W0) ?_ _, cellA (W0 := W0) ?_ _ ?_ ?_, cellA (W0 := W0) ?_ _ ?_ ?_, cellA (W0 := W0) ?_ _ ?_ ?_⟩ <;> first | assumption | omega)
      | ((try go_split_ands); refine ⟨keepAd (W0 := W0) ?_ _, cellAd (W0 := W0) ?_ _ ?_ ?_, cellAd (W0 := W0) ?_ _ ?_ ?_, cellAd (W0 := W0) ?_ _ ?_ ?_⟩ <;> first | assumption | omega | exact Below.refl _ _)
      | ((try go_split_ands); (with_reducible refine ⟨keep3 (W0 := W0) ?_ ?_ _ _ _, cell3 (W0 := W0) ?_ _ _ _ ?_ ?_, cell3 (W0 := W0) ?_ _ _ _ ?_ ?_, cell3 (W0 := W0) ?_ _ _ _ ?_ ?_⟩) <;> first | assumption | omega | exact Nat.le_refl _)
      | ((try go_split_ands); refine ⟨keep2 (W0 := W0) ?_ ?_ _ _, cell2 (W0 := W0) ?_ _ _ ?_ ?_, cell2 (W0 := W0) ?_ _ _ ?_ ?_, cell2 (W0 := W0) ?_ _ _ ?_ ?_⟩ <;> first | assumption | omega | exact Nat.le_refl _)
      | ((try go_split_ands); refine ⟨keepZ (W0 := W0) ?_ ?_ _, cellZ (W0 := W0) ?_ _ ?_ ?_, cellZ (W0 := W0) ?_ _ ?_ ?_, cellZ (W0 := W0) ?_ _ ?_ ?_⟩ <;> first | assumption | omega | exact Nat.le_refl _ | exact ⟨_, by assumption⟩))
    (first | (go_at_call 36; refine (H1.out _ (by first | exact md_keep (Lib.hid (md_keep hM HB0.out)) (by assumption) | exact md_keep (Lib.hid (md_keep hM HB0.out)) (by (try go_split_ands); assumption) | exact md_keep (Lib.hid (md_keep hM HB0.out)) (Below.refl _ _).drew)).mono ?_; rintro e w1 ⟨rfl, hb1⟩; (try go_split_ands); have hge : W0.heap.size ≤ w1.heap.size := (by first | (refine (keepS (W0 := W0) ?_ hb1).size; assumption) | exact (hb1.size : W0.heap.size ≤ w1.heap.size)); (try have hrow := row_call hb1 hrow); (try have hrow := row_new hb1); (try have hrow := row_newd hb1); have hl1 := lt_below hb1; obtain ⟨hc1, hf1⟩ := bcell hb1; (try (have hrc := row_cellA hrow; clear hc1 hf1)); (try have hrf := row_frozA hrow)))
          all_goals (try go_split_ands)
          all_goals (go_wp2_with fail; go_meet; refine ⟨rfl, ?_⟩)
          all_goals first | (with_reducible assumption) | (with_reducible exact heap_alloc_new _ _) | (with_reducible exact row_set3 (by assumption) _ _ _) | assumption | exact heap_alloc_new _ _ | exact row_set (by assumption) _ _
        case rest =>
          obtain ⟨rfl, hB⟩ := hcut
          obtain ⟨V1, rfl⟩ : ∃ V, V = wc := ⟨_, rfl⟩
          clear A1_0 A1_1 A1_2 zA1
          replace A1 := Lib.hid (row_call hB A1.out)
          have B1 := Lib.hid (HB0.out.trans (hB.mono HB0.out.size))
          clear hB
          have A1_0 : V1.cell? ⟨w.heap.size, 0, none⟩ = some (.int .i64 y) := cell_of_row _ _ _ _ _ _ A1.out
          have A1_1 : V1.cell? ⟨w.heap.size, 1, none⟩ = some (.int .i64 m) := cell_of_row _ _ _ _ _ _ A1.out
          have A1_2 : V1.cell? ⟨w.heap.size, 2, none⟩ = some (.int .i64 d) := cell_of_row _ _ _ _ _ _ A1.out
          have zA1 := lt_of_heap A1.out
          go_wp2
          go_ret
          exact ⟨by rw [E.out]; try rfl, B1.out⟩
      · by_cases h3 : (9999 : Int) < y
        · have E := Lib.hid (ckC_out hm (Or.inr h3))
          clear hm
          generalize mdI y m = M at *
          go_enter Tryd.func35, Tryd.ntmps35
          go_wp2_with fail
          
          obtain ⟨W0, hW0⟩ : ∃ W0, W0 = (w.alloc (Obj.cells #[Value.int .i64 y, Value.int .i64 m, Value.int .i64 d] 23)) := ⟨_, rfl⟩
          have A1 := Lib.hid (row_at (k' := w.heap.size) (by simp) (row_by hW0 (heap_alloc_new _ _)))
          have HB0 := Lib.hid (below_by hW0 ((Below.refl w.heap.size w).alloc (by simp <;> omega) _))
          have HW0 := Lib.hid hW0
          clear hW0
          have A1_0 : W0.cell? ⟨w.heap.size, 0, none⟩ = some (.int .i64 y) := cell_of_row _ _ _ _ _ _ A1.out
          have A1_1 : W0.cell? ⟨w.heap.size, 1, none⟩ = some (.int .i64 m) := cell_of_row _ _ _ _ _ _ A1.out
          have A1_2 : W0.cell? ⟨w.heap.size, 2, none⟩ = some (.int .i64 d) := cell_of_row _ _ _ _ _ _ A1.out
          have zA1 := lt_of_heap A1.out
          try rw [← HW0.out]
          go_cut [3] (fun s3 wx => s3 = .bool false ∧ Below W0.heap.size W0 wx)
          case first =>
            go_region_held3 (fun w' => Below W0.heap.size W0 w' ∧ w'.cell? ⟨w.heap.size, 0, none⟩ = some (.int .i64 y) ∧ w'.cell? ⟨w.heap.size, 1, none⟩ = some (.int .i64 m) ∧ w'.cell? ⟨w.heap.size, 2, none⟩ = some (.int .i64 d))
    (first
      | ((try go_split_ands); refine ⟨(Below.refl _ _).drew, ?_, ?_, ?_⟩ <;> first | assumption | (rw [World.cell?_drew]; assumption))
      | ((try go_split_ands); refine ⟨keepS (W0 := W0) ?_ hb1, cellS (W0 := W0) ?_ hb1 ?_ ?_, cellS (W0 := W0) ?_ hb1 ?_ ?_, cellS (W0 := W0) ?_ hb1 ?_ ?_⟩ <;> first | assumption | omega)
      | ((try go_split_ands); refine ⟨keepA (W0 := W0) ?_ _, cellA (W0 := W0) ?_ _ ?_ ?_, cellA (W0 := W0) ?_ _ ?_ ?_, cellA (W0 := W0) ?_ _ ?_ ?_⟩ <;> first | assumption | omega)
      | ((try go_split_ands); refine ⟨keepAd (W0 := W0) ?_ _, cellAd (W0 := W0) ?_ _ ?_ ?_, cellAd (W0 := W0) ?_ _ ?_ ?_, cellAd (W0 := W0) ?_ _ ?_ ?_⟩ <;> first | assumption | omega | exact Below.refl _ _)
      | ((try go_split_ands); (with_reducible refine ⟨keep3 (W0 := W0) ?_ ?_ _ _ _, cell3 (W0 := W0) ?_ _ _ _ ?_ ?_, cell3 (W0 := W0) ?_ _ _ _ ?_ ?_, cell3 (W0 := W0) ?_ _ _ _ ?_ ?_⟩) <;> first | assumption | omega | exact Nat.le_refl _)
      | ((try go_split_ands); refine ⟨keep2 (W0 := W0) ?_ ?_ _ _, cell2 (W0 := W0) ?_ _ _ ?_ ?_, cell2 (W0 := W0) ?_ _ _ ?_ ?_, cell2 (W0 := W0) ?_ _ _ ?_ ?_⟩ <;> first | assumption | omega | exact Nat.le_refl _)
      | ((try go_split_ands); refine ⟨keepZ (W0 := W0) ?_ ?_ _, cellZ (W0 := W0) ?_ _ ?_ ?_, cellZ (W0 := W0) ?_ _ ?_ ?_, cellZ (W0 := W0) ?_ _ ?_ ?_⟩ <;> first | assumption | omega | exact Nat.le_refl _ | exact ⟨_, by assumption⟩))
    (first | (go_at_call 36; refine (H1.out _ (by first | exact md_keep (Lib.hid (md_keep hM HB0.out)) (by assumption) | exact md_keep (Lib.hid (md_keep hM HB0.out)) (by (try go_split_ands); assumption) | exact md_keep (Lib.hid (md_keep hM HB0.out)) (Below.refl _ _).drew)).mono ?_; rintro e w1 ⟨rfl, hb1⟩; (try go_split_ands); have hge : W0.heap.size ≤ w1.heap.size := (by first | (refine (keepS (W0 := W0) ?_ hb1).size; assumption) | exact (hb1.size : W0.heap.size ≤ w1.heap.size)); (try have hrow := row_call hb1 hrow); (try have hrow := row_new hb1); (try have hrow := row_newd hb1); have hl1 := lt_below hb1; obtain ⟨hc1, hf1⟩ := bcell hb1; (try (have hrc := row_cellA hrow; clear hc1 hf1)); (try have hrf := row_frozA hrow)))
            all_goals (try go_split_ands)
            all_goals (go_wp2_with fail; go_meet; refine ⟨rfl, ?_⟩)
            all_goals first | (with_reducible assumption) | (with_reducible exact heap_alloc_new _ _) | (with_reducible exact row_set3 (by assumption) _ _ _) | assumption | exact heap_alloc_new _ _ | exact row_set (by assumption) _ _
          case rest =>
            obtain ⟨rfl, hB⟩ := hcut
            obtain ⟨V1, rfl⟩ : ∃ V, V = wc := ⟨_, rfl⟩
            clear A1_0 A1_1 A1_2 zA1
            replace A1 := Lib.hid (row_call hB A1.out)
            have B1 := Lib.hid (HB0.out.trans (hB.mono HB0.out.size))
            clear hB
            have A1_0 : V1.cell? ⟨w.heap.size, 0, none⟩ = some (.int .i64 y) := cell_of_row _ _ _ _ _ _ A1.out
            have A1_1 : V1.cell? ⟨w.heap.size, 1, none⟩ = some (.int .i64 m) := cell_of_row _ _ _ _ _ _ A1.out
            have A1_2 : V1.cell? ⟨w.heap.size, 2, none⟩ = some (.int .i64 d) := cell_of_row _ _ _ _ _ _ A1.out
            have zA1 := lt_of_heap A1.out
            go_wp2
            go_ret
            exact ⟨by rw [E.out]; try rfl, B1.out⟩
        · have E := Lib.hid (ckC_ok hm (fun h => h.elim h2 h3))
          clear hm
          generalize mdI y m = M at *
          go_enter Tryd.func35, Tryd.ntmps35
          go_wp2_with fail
          
          obtain ⟨W0, hW0⟩ : ∃ W0, W0 = (w.alloc (Obj.cells #[Value.int .i64 y, Value.int .i64 m, Value.int .i64 d] 23)) := ⟨_, rfl⟩
          have A1 := Lib.hid (row_at (k' := w.heap.size) (by simp) (row_by hW0 (heap_alloc_new _ _)))
          have HB0 := Lib.hid (below_by hW0 ((Below.refl w.heap.size w).alloc (by simp <;> omega) _))
          have HW0 := Lib.hid hW0
          clear hW0
          have A1_0 : W0.cell? ⟨w.heap.size, 0, none⟩ = some (.int .i64 y) := cell_of_row _ _ _ _ _ _ A1.out
          have A1_1 : W0.cell? ⟨w.heap.size, 1, none⟩ = some (.int .i64 m) := cell_of_row _ _ _ _ _ _ A1.out
          have A1_2 : W0.cell? ⟨w.heap.size, 2, none⟩ = some (.int .i64 d) := cell_of_row _ _ _ _ _ _ A1.out
          have zA1 := lt_of_heap A1.out
          try rw [← HW0.out]
          go_cut [3] (fun s3 wx => s3 = .bool false ∧ Below W0.heap.size W0 wx)
          case first =>
            go_region_held3 (fun w' => Below W0.heap.size W0 w' ∧ w'.cell? ⟨w.heap.size, 0, none⟩ = some (.int .i64 y) ∧ w'.cell? ⟨w.heap.size, 1, none⟩ = some (.int .i64 m) ∧ w'.cell? ⟨w.heap.size, 2, none⟩ = some (.int .i64 d))
    (first
      | ((try go_split_ands); refine ⟨(Below.refl _ _).drew, ?_, ?_, ?_⟩ <;> first | assumption | (rw [World.cell?_drew]; assumption))
      | ((try go_split_ands); refine ⟨keepS (W0 := W0) ?_ hb1, cellS (W0 := W0) ?_ hb1 ?_ ?_, cellS (W0 := W0) ?_ hb1 ?_ ?_, cellS (W0 := W0) ?_ hb1 ?_ ?_⟩ <;> first | assumption | omega)
      | ((try go_split_ands); refine ⟨keepA (W0 := W0) ?_ _, cellA (W0 := W0) ?_ _ ?_ ?_, cellA (W0 := W0) ?_ _ ?_ ?_, cellA (W0 := W0) ?_ _ ?_ ?_⟩ <;> first | assumption | omega)
      | ((try go_split_ands); refine ⟨keepAd (W0 := W0) ?_ _, cellAd (W0 := W0) ?_ _ ?_ ?_, cellAd (W0 := W0) ?_ _ ?_ ?_, cellAd (W0 := W0) ?_ _ ?_ ?_⟩ <;> first | assumption | omega | exact Below.refl _ _)
      | ((try go_split_ands); (with_reducible refine ⟨keep3 (W0 := W0) ?_ ?_ _ _ _, cell3 (W0 := W0) ?_ _ _ _ ?_ ?_, cell3 (W0 := W0) ?_ _ _ _ ?_ ?_, cell3 (W0 := W0) ?_ _ _ _ ?_ ?_⟩) <;> first | assumption | omega | exact Nat.le_refl _)
      | ((try go_split_ands); refine ⟨keep2 (W0 := W0) ?_ ?_ _ _, cell2 (W0 := W0) ?_ _ _ ?_ ?_, cell2 (W0 := W0) ?_ _ _ ?_ ?_, cell2 (W0 := W0) ?_ _ _ ?_ ?_⟩ <;> first | assumption | omega | exact Nat.le_refl _)
      | ((try go_split_ands); refine ⟨keepZ (W0 := W0) ?_ ?_ _, cellZ (W0 := W0) ?_ _ ?_ ?_, cellZ (W0 := W0) ?_ _ ?_ ?_, cellZ (W0 := W0) ?_ _ ?_ ?_⟩ <;> first | assumption | omega | exact Nat.le_refl _ | exact ⟨_, by assumption⟩))
    (first | (go_at_call 36; refine (H1.out _ (by first | exact md_keep (Lib.hid (md_keep hM HB0.out)) (by assumption) | exact md_keep (Lib.hid (md_keep hM HB0.out)) (by (try go_split_ands); assumption) | exact md_keep (Lib.hid (md_keep hM HB0.out)) (Below.refl _ _).drew)).mono ?_; rintro e w1 ⟨rfl, hb1⟩; (try go_split_ands); have hge : W0.heap.size ≤ w1.heap.size := (by first | (refine (keepS (W0 := W0) ?_ hb1).size; assumption) | exact (hb1.size : W0.heap.size ≤ w1.heap.size)); (try have hrow := row_call hb1 hrow); (try have hrow := row_new hb1); (try have hrow := row_newd hb1); have hl1 := lt_below hb1; obtain ⟨hc1, hf1⟩ := bcell hb1; (try (have hrc := row_cellA hrow; clear hc1 hf1)); (try have hrf := row_frozA hrow)))
            all_goals (try go_split_ands)
            all_goals (go_wp2_with fail; go_meet; refine ⟨rfl, ?_⟩)
            all_goals first | (with_reducible assumption) | (with_reducible exact heap_alloc_new _ _) | (with_reducible exact row_set3 (by assumption) _ _ _) | assumption | exact heap_alloc_new _ _ | exact row_set (by assumption) _ _
          case rest =>
            obtain ⟨rfl, hB⟩ := hcut
            obtain ⟨V1, rfl⟩ : ∃ V, V = wc := ⟨_, rfl⟩
            clear A1_0 A1_1 A1_2 zA1
            replace A1 := Lib.hid (row_call hB A1.out)
            have B1 := Lib.hid (HB0.out.trans (hB.mono HB0.out.size))
            clear hB
            have A1_0 : V1.cell? ⟨w.heap.size, 0, none⟩ = some (.int .i64 y) := cell_of_row _ _ _ _ _ _ A1.out
            have A1_1 : V1.cell? ⟨w.heap.size, 1, none⟩ = some (.int .i64 m) := cell_of_row _ _ _ _ _ _ A1.out
            have A1_2 : V1.cell? ⟨w.heap.size, 2, none⟩ = some (.int .i64 d) := cell_of_row _ _ _ _ _ _ A1.out
            have zA1 := lt_of_heap A1.out
            go_wp2
            go_ret
            exact ⟨by rw [E.out]; try rfl, B1.out⟩
set_option maxHeartbeats 3200000 in
set_option maxRecDepth 100000 in
theorem pOrdinal_any (y m d : Int) (w : World) (hM : MD w) : Calls Tryd.prog 21 #[.agg #[.int .i64 y, .int .i64 m, .int .i64 d]] w fun e w' => e = .returned (.tuple #[.int .i64 (orV y m d), .int .i64 (ckC y m d)]) ∧ Below w.heap.size w w' := by
  have X1 := pCheck_any y m d
  replace hM := Lib.hid hM
  by_cases hc : ckC y m d = 0
  · obtain ⟨o1, o2, o3⟩ := of_ckC hc
    obtain ⟨p1, p2, p3, p4, p5⟩ := mayB_yes o1
    have q0 := (dn_in o1).1
    have E : Hid (orV y m d = d + cmN y (m - 1).toNat) := Lib.hid (by rw [(dy_ok hc).2, q0]; omega)
    rw [hc] at X1 ⊢
    have H1 := Lib.hid X1
    clear X1 hc o1 o2 o3 p2 q0
    go_enter Tryd.func21, Tryd.ntmps21
    go_wp2_with fail
    
    refine (H1.out _ (by first | exact md_keep hM ((Below.refl w.heap.size w).alloc (Nat.le_refl _) _))).mono ?_
    rintro e V1 ⟨rfl, hb1⟩
    have B1 := Lib.hid (((Below.refl w.heap.size w).alloc (Nat.le_refl _) _).trans (hb1.mono (by first | assumption | (simp <;> omega) | (simp; done))))
    have A1 := Lib.hid (row_call hb1 (heap_alloc_new _ _))
    clear hb1
    have A1_0 : V1.cell? ⟨w.heap.size, 0, none⟩ = some (.int .i64 y) := cell_of_row _ _ _ _ _ _ A1.out
    have A1_1 : V1.cell? ⟨w.heap.size, 1, none⟩ = some (.int .i64 m) := cell_of_row _ _ _ _ _ _ A1.out
    have A1_2 : V1.cell? ⟨w.heap.size, 2, none⟩ = some (.int .i64 d) := cell_of_row _ _ _ _ _ _ A1.out
    have zA1 := lt_of_heap A1.out
    have hMV := md_keep hM B1.out
    have HP := Lib.hid (fun t => pMonthDays_p y t _ hMV)
    clear hMV hM
    go_simp
    go_wp2
    go_loop [5, 6] (fun n t => ∃ k : Nat, k ≤ (m - 1).toNat ∧ t = .int .i64 ((k : Int) + 1) ∧ n = .int .i64 (d + cmN y k)) (fun _ t => (m - intOf t).toNat)
    case atStart => exact ⟨0, by omega, rfl, by show _ = Value.int .i64 (d + 0); rw [Int.add_zero]⟩
    case round =>
      obtain ⟨k, k1, rfl, rfl⟩ := hrel
      have c1 := cmN_bd y k
      have c2 := mdI_le y ((k : Int) + 1)
      have c3 : Hid (cmN y (k + 1) = cmN y k + mdI y ((k : Int) + 1)) := Lib.hid rfl
      have H2 := Lib.hid (HP.out ((k : Int) + 1))
      clear HP
      by_cases hlt : (k : Int) + 1 < m
      · have k2 : (k : Int) ≤ 12 := by omega
        generalize mdI y ((k : Int) + 1) = M at *
        go_wp2_with fail
        refine H2.out.mono ?_
        rintro e w1 ⟨rfl, rfl⟩
        go_wp2
        go_round
        case rel => exact ⟨k + 1, by omega, by go_num, by rw [c3.out]; congr 1; omega⟩
        case measure => simp [intOf]; omega
      · have k2 : (k : Int) ≤ 12 := by omega
        obtain rfl : k = (m - 1).toNat := by omega
        clear c3 H2 c2 k1 k2 hlt
        generalize cmN y (m - 1).toNat = C at *
        have c4 : C ≤ 400 := by omega
        have c5 : 0 ≤ C := c1.1
        clear c1
        go_wp2
        go_ret2
        exact ⟨by rw [E.out]; try rfl, B1.out⟩
  · rw [(dy_no hc).2]
    have H1 := Lib.hid X1
    clear X1
    generalize ckC y m d = E at *
    have f1 : (E != 0) = true := by rw [bne_iff_ne]; exact hc
    go_enter Tryd.func21, Tryd.ntmps21
    go_wp2_with fail
    
    refine (H1.out _ (by first | exact md_keep hM ((Below.refl w.heap.size w).alloc (Nat.le_refl _) _))).mono ?_
    rintro e V1 ⟨rfl, hb1⟩
    have B1 := Lib.hid (((Below.refl w.heap.size w).alloc (Nat.le_refl _) _).trans (hb1.mono (by first | assumption | (simp <;> omega) | (simp; done))))
    have A1 := Lib.hid (row_call hb1 (heap_alloc_new _ _))
    clear hb1
    have A1_0 : V1.cell? ⟨w.heap.size, 0, none⟩ = some (.int .i64 y) := cell_of_row _ _ _ _ _ _ A1.out
    have A1_1 : V1.cell? ⟨w.heap.size, 1, none⟩ = some (.int .i64 m) := cell_of_row _ _ _ _ _ _ A1.out
    have A1_2 : V1.cell? ⟨w.heap.size, 2, none⟩ = some (.int .i64 d) := cell_of_row _ _ _ _ _ _ A1.out
    have zA1 := lt_of_heap A1.out
    go_simp
    go_wp2
    go_ret2
    exact ⟨rfl, B1.out⟩
set_option maxHeartbeats 3200000 in
set_option maxRecDepth 100000 in
theorem pDays_any (y m d : Int) (w : World) (hM : MD w) : Calls Tryd.prog 18 #[.agg #[.int .i64 y, .int .i64 m, .int .i64 d]] w fun e w' => e = .returned (.tuple #[.int .i64 (dyV y m d), .int .i64 (ckC y m d)]) ∧ Below w.heap.size w w' := by
  have X1 := pOrdinal_any y m d
  replace hM := Lib.hid hM
  by_cases hc : ckC y m d = 0
  · obtain ⟨o1, o2, o3⟩ := of_ckC hc
    have q0 := dn_in o1
    have p0 := mayB_yes o1
    have q1 := yst_bd (y := y) (by omega)
    have q2 := ydI_bd y
    have H2 := Lib.hid (fun w => grow_of (pFirst_p y ⟨o2, o3⟩ w))
    have E : Hid (dyV y m d = yst y + orV y m d - 1) := Lib.hid (by rw [(dy_ok hc).1, (dy_ok hc).2]; omega)
    have g1 : 0 ≤ orV y m d := by rw [(dy_ok hc).2]; omega
    have g2 : orV y m d ≤ 400 := by rw [(dy_ok hc).2]; omega
    rw [hc] at X1 ⊢
    have H1 := Lib.hid X1
    obtain ⟨g3, g4⟩ := q1
    clear X1 hc o1 o2 o3 q0 q2 p0
    generalize orV y m d = O at *
    generalize yst y = S at *
    go_enter Tryd.func18, Tryd.ntmps18
    go_wp2_with fail
    
    refine (H1.out _ (by first | exact md_keep hM ((Below.refl w.heap.size w).alloc (Nat.le_refl _) _))).mono ?_
    rintro e V1 ⟨rfl, hb1⟩
    have B1 := Lib.hid (((Below.refl w.heap.size w).alloc (Nat.le_refl _) _).trans (hb1.mono (by first | assumption | (simp <;> omega) | (simp; done))))
    have A1 := Lib.hid (row_call hb1 (heap_alloc_new _ _))
    clear hb1
    have A1_0 : V1.cell? ⟨w.heap.size, 0, none⟩ = some (.int .i64 y) := cell_of_row _ _ _ _ _ _ A1.out
    have A1_1 : V1.cell? ⟨w.heap.size, 1, none⟩ = some (.int .i64 m) := cell_of_row _ _ _ _ _ _ A1.out
    have A1_2 : V1.cell? ⟨w.heap.size, 2, none⟩ = some (.int .i64 d) := cell_of_row _ _ _ _ _ _ A1.out
    have zA1 := lt_of_heap A1.out
    go_simp
    go_wp2_with fail
    refine (H2.out _).mono ?_
    rintro e V2 ⟨rfl, hb2⟩
    clear A1_0 A1_1 A1_2 zA1
    have B2 : Hid (Below w.heap.size w V2) := by first | exact Lib.hid ((B1.out).trans (hb2.mono (by have := B1.out.size; first | assumption | (simp <;> omega) | (simp; done)))) | exact Lib.hid (((B1.out).alloc (B1.out.size) _).trans (hb2.mono (by have := B1.out.size; first | assumption | (simp <;> omega) | (simp; done)))) | exact Lib.hid ((((B1.out).alloc (B1.out.size) _).alloc (by have := B1.out.size; simp <;> omega) _).trans (hb2.mono (by have := B1.out.size; first | assumption | (simp <;> omega) | (simp; done)))) | exact Lib.hid (((((B1.out).alloc (B1.out.size) _).alloc (by have := B1.out.size; simp <;> omega) _).alloc (by have := B1.out.size; simp <;> omega) _).trans (hb2.mono (by have := B1.out.size; first | assumption | (simp <;> omega) | (simp; done))))
    first | replace A1 := Lib.hid (row_call hb2 A1.out) | replace A1 := Lib.hid (row_call hb2 (row_alloc A1.out _)) | replace A1 := Lib.hid (row_call hb2 (row_alloc (row_alloc A1.out _) _)) | replace A1 := Lib.hid (row_call hb2 (row_alloc (row_alloc (row_alloc A1.out _) _) _))
    clear hb2
    have A1_0 : V2.cell? ⟨w.heap.size, 0, none⟩ = some (.int .i64 y) := cell_of_row _ _ _ _ _ _ A1.out
    have A1_1 : V2.cell? ⟨w.heap.size, 1, none⟩ = some (.int .i64 m) := cell_of_row _ _ _ _ _ _ A1.out
    have A1_2 : V2.cell? ⟨w.heap.size, 2, none⟩ = some (.int .i64 d) := cell_of_row _ _ _ _ _ _ A1.out
    have zA1 := lt_of_heap A1.out
    go_simp
    go_wp2
    go_ret2
    exact ⟨by rw [E.out]; try rfl, B2.out⟩
  · rw [(dy_no hc).1]
    have H1 := Lib.hid X1
    clear X1
    rw [(dy_no hc).2] at H1
    generalize ckC y m d = E at *
    have f1 : (E != 0) = true := by rw [bne_iff_ne]; exact hc
    go_enter Tryd.func18, Tryd.ntmps18
    go_wp2_with fail
    
    refine (H1.out _ (by first | exact md_keep hM ((Below.refl w.heap.size w).alloc (Nat.le_refl _) _))).mono ?_
    rintro e V1 ⟨rfl, hb1⟩
    have B1 := Lib.hid (((Below.refl w.heap.size w).alloc (Nat.le_refl _) _).trans (hb1.mono (by first | assumption | (simp <;> omega) | (simp; done))))
    have A1 := Lib.hid (row_call hb1 (heap_alloc_new _ _))
    clear hb1
    have A1_0 : V1.cell? ⟨w.heap.size, 0, none⟩ = some (.int .i64 y) := cell_of_row _ _ _ _ _ _ A1.out
    have A1_1 : V1.cell? ⟨w.heap.size, 1, none⟩ = some (.int .i64 m) := cell_of_row _ _ _ _ _ _ A1.out
    have A1_2 : V1.cell? ⟨w.heap.size, 2, none⟩ = some (.int .i64 d) := cell_of_row _ _ _ _ _ _ A1.out
    have zA1 := lt_of_heap A1.out
    go_simp
    go_wp2
    go_ret2
    exact ⟨rfl, B1.out⟩
end Go.Proofs.YtoghogpcgdcboaaDoor
