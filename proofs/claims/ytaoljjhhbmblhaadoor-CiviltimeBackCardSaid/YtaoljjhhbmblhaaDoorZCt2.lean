/- Several texts in one: CtD, CtE, CtF. -/
import Derived.Test.YtaoljjhhbmblhaaDoorZInst1
import Derived.Test.YtaoljjhhbmblhaaDoorZClk1
import Derived.Test.YtaoljjhhbmblhaaDoorZCt1
import Derived.Test.YtaoljjhhbmblhaaDoorZCiv2
import Derived.Test.YtaoljjhhbmblhaaDoorZTab1
namespace Go.Proofs.YtaoljjhhbmblhaaDoor
set_option linter.unusedVariables false
set_option linter.unusedSimpArgs false
open Go.ChangeShapes Go.WideShapes Go.ChangeAt Go.RowKit
set_option maxHeartbeats 3200000 in
set_option maxRecDepth 100000 in
theorem rtSub_no (y m d h i s n y' m' d' h' i' s' n' : Int) (hc : fsI (ckT y m d h i s n) (ckT y' m' d' h' i' s' n') ≠ 0) (w : World) :
    Calls Tryd.prog 17 #[.agg #[.int .i64 y, .int .i64 m, .int .i64 d, .int .i64 h, .int .i64 i, .int .i64 s, .int .i64 n], .agg #[.int .i64 y', .int .i64 m', .int .i64 d', .int .i64 h', .int .i64 i', .int .i64 s', .int .i64 n']] w fun e w' => e = .returned (.tuple #[.agg #[.int .i64 0, .int .i64 0], .int .i64 (fsI (ckT y m d h i s n) (ckT y' m' d' h' i' s' n'))]) ∧ Below w.heap.size w w' := by
  have H1 := Lib.hid (rtCheck_any y m d h i s n)
  have H2 := Lib.hid (rtCheck_any y' m' d' h' i' s' n')
  have H3 := Lib.hid (rFirst_any (ckT y m d h i s n) (ckT y' m' d' h' i' s' n'))
  generalize fsI (ckT y m d h i s n) (ckT y' m' d' h' i' s' n') = E at *
  generalize ckT y m d h i s n = c1 at *
  generalize ckT y' m' d' h' i' s' n' = c2 at *
  have f1 : (E != 0) = true := by rw [bne_iff_ne]; exact hc
  go_enter Tryd.func17, Tryd.ntmps17
  refine wp_shut ?_
  go_wp2_with fail
  
  obtain ⟨W0, hW0⟩ : ∃ W0, W0 = (((w.alloc (Obj.cells #[Value.int .i64 y, Value.int .i64 m, Value.int .i64 d, Value.int .i64 h, Value.int .i64 i, Value.int .i64 s, Value.int .i64 n] 27)).alloc (Obj.cells #[Value.int .i64 y', Value.int .i64 m', Value.int .i64 d', Value.int .i64 h', Value.int .i64 i', Value.int .i64 s', Value.int .i64 n'] 27)).alloc (Obj.cells #[Value.int .i64 0, Value.int .i64 0] 42)) := ⟨_, rfl⟩
  have A1 := Lib.hid (row_at (k' := w.heap.size) (by simp) (row_by hW0 (row_alloc (row_alloc (heap_alloc_new _ _) _) _)))
  have D1 := Lib.hid (row_at (k' := w.heap.size + 1) (by simp) (row_by hW0 (row_alloc (heap_alloc_new _ _) _)))
  have Z1 := Lib.hid (row_at (k' := w.heap.size + 1 + 1) (by simp) (row_by hW0 (heap_alloc_new _ _)))
  have HB0 := Lib.hid (below_by hW0 ((((Below.refl w.heap.size w).alloc (by simp <;> omega) _).alloc (by simp <;> omega) _).alloc (by simp <;> omega) _))
  have HW0 := Lib.hid hW0
  clear hW0
  have A1_0 : W0.cell? ⟨w.heap.size, 0, none⟩ = some (.int .i64 y) := cell_of_row _ _ _ _ _ _ A1.out
  have A1_1 : W0.cell? ⟨w.heap.size, 1, none⟩ = some (.int .i64 m) := cell_of_row _ _ _ _ _ _ A1.out
  have A1_2 : W0.cell? ⟨w.heap.size, 2, none⟩ = some (.int .i64 d) := cell_of_row _ _ _ _ _ _ A1.out
  have A1_3 : W0.cell? ⟨w.heap.size, 3, none⟩ = some (.int .i64 h) := cell_of_row _ _ _ _ _ _ A1.out
  have A1_4 : W0.cell? ⟨w.heap.size, 4, none⟩ = some (.int .i64 i) := cell_of_row _ _ _ _ _ _ A1.out
  have A1_5 : W0.cell? ⟨w.heap.size, 5, none⟩ = some (.int .i64 s) := cell_of_row _ _ _ _ _ _ A1.out
  have A1_6 : W0.cell? ⟨w.heap.size, 6, none⟩ = some (.int .i64 n) := cell_of_row _ _ _ _ _ _ A1.out
  have zA1 := lt_of_heap A1.out
  have D1_0 : W0.cell? ⟨w.heap.size + 1, 0, none⟩ = some (.int .i64 y') := cell_of_row _ _ _ _ _ _ D1.out
  have D1_1 : W0.cell? ⟨w.heap.size + 1, 1, none⟩ = some (.int .i64 m') := cell_of_row _ _ _ _ _ _ D1.out
  have D1_2 : W0.cell? ⟨w.heap.size + 1, 2, none⟩ = some (.int .i64 d') := cell_of_row _ _ _ _ _ _ D1.out
  have D1_3 : W0.cell? ⟨w.heap.size + 1, 3, none⟩ = some (.int .i64 h') := cell_of_row _ _ _ _ _ _ D1.out
  have D1_4 : W0.cell? ⟨w.heap.size + 1, 4, none⟩ = some (.int .i64 i') := cell_of_row _ _ _ _ _ _ D1.out
  have D1_5 : W0.cell? ⟨w.heap.size + 1, 5, none⟩ = some (.int .i64 s') := cell_of_row _ _ _ _ _ _ D1.out
  have D1_6 : W0.cell? ⟨w.heap.size + 1, 6, none⟩ = some (.int .i64 n') := cell_of_row _ _ _ _ _ _ D1.out
  have zD1 := lt_of_heap D1.out
  have Z1_0 : W0.cell? ⟨w.heap.size + 1 + 1, 0, none⟩ = some (.int .i64 0) := cell_of_row _ _ _ _ _ _ Z1.out
  have Z1_1 : W0.cell? ⟨w.heap.size + 1 + 1, 1, none⟩ = some (.int .i64 0) := cell_of_row _ _ _ _ _ _ Z1.out
  have Z1_f0 : W0.frozen? ⟨w.heap.size + 1 + 1, 0, none⟩ = false := (by simp [World.frozen?, Z1.out])
  have Z1_f1 : W0.frozen? ⟨w.heap.size + 1 + 1, 1, none⟩ = false := (by simp [World.frozen?, Z1.out])
  have zZ1 := lt_of_heap Z1.out
  try rw [← HW0.out]
  go_cut [6] (fun s6 wx => s6 = .int .i64 E ∧ Below W0.heap.size W0 wx)
  case first =>
    go_region_held3 (fun w' => Below W0.heap.size W0 w' ∧ w'.cell? ⟨w.heap.size, 0, none⟩ = some (.int .i64 y) ∧ w'.cell? ⟨w.heap.size, 1, none⟩ = some (.int .i64 m) ∧ w'.cell? ⟨w.heap.size, 2, none⟩ = some (.int .i64 d) ∧ w'.cell? ⟨w.heap.size, 3, none⟩ = some (.int .i64 h) ∧ w'.cell? ⟨w.heap.size, 4, none⟩ = some (.int .i64 i) ∧ w'.cell? ⟨w.heap.size, 5, none⟩ = some (.int .i64 s) ∧ w'.cell? ⟨w.heap.size, 6, none⟩ = some (.int .i64 n) ∧ w'.cell? ⟨w.heap.size + 1, 0, none⟩ = some (.int .i64 y') ∧ w'.cell? ⟨w.heap.size + 1, 1, none⟩ = some (.int .i64 m') ∧ w'.cell? ⟨w.heap.size + 1, 2, none⟩ = some (.int .i64 d') ∧ w'.cell? ⟨w.heap.size + 1, 3, none⟩ = some (.int .i64 h') ∧ w'.cell? ⟨w.heap.size + 1, 4, none⟩ = some (.int .i64 i') ∧ w'.cell? ⟨w.heap.size + 1, 5, none⟩ = some (.int .i64 s') ∧ w'.cell? ⟨w.heap.size + 1, 6, none⟩ = some (.int .i64 n'))
    (first
      | ((try go_split_ands); refine ⟨(Below.refl _ _).drew, ?_, ?_, ?_, ?_, ?_, ?_, ?_, ?_, ?_, ?_, ?_, ?_, ?_, ?_⟩ <;> first | assumption | (rw [World.cell?_drew]; assumption))
      | ((try go_split_ands); refine ⟨keepS (W0 := W0) ?_ hb1, cellS (W0 := W0) ?_ hb1 ?_ ?_, cellS (W0 := W0) ?_ hb1 ?_ ?_, cellS (W0 := W0) ?_ hb1 ?_ ?_, cellS (W0 := W0) ?_ hb1 ?_ ?_, cellS (W0 := W0) ?_ hb1 ?_ ?_, cellS (W0 := W0) ?_ hb1 ?_ ?_, cellS (W0 := W0) ?_ hb1 ?_ ?_, cellS (W0 := W0) ?_ hb1 ?_ ?_, cellS (W0 := W0) ?_ hb1 ?_ ?_, cellS (W0 := W0) ?_ hb1 ?_ ?_, cellS (W0 := W0) ?_ hb1 ?_ ?_, cellS (W0 := W0) ?_ hb1 ?_ ?_, cellS (W0 := W0) ?_ hb1 ?_ ?_, cellS (W0 := W0) ?_ hb1 ?_ ?_⟩ <;> first | assumption | omega)
      | ((try go_split_ands); refine ⟨keepA (W0 := W0) ?_ _, cellA (W0 := W0) ?_ _ ?_ ?_, cellA (W0 := W0) ?_ _ ?_ ?_, cellA (W0 := W0) ?_ _ ?_ ?_, cellA (W0 := W0) ?_ _ ?_ ?_, cellA (W0 := W0) ?_ _ ?_ ?_, cellA (W0 := W0) ?_ _ ?_ ?_, cellA (W0 := W0) ?_ _ ?_ ?_, cellA (W0 := W0) ?_ _ ?_ ?_, cellA (W0 := W0) ?_ _ ?_ ?_, cellA (W0 := W0) ?_ _ ?_ ?_, cellA (W0 := W0) ?_ _ ?_ ?_, cellA (W0 := W0) ?_ _ ?_ ?_, cellA (W0 := W0) ?_ _ ?_ ?_, cellA (W0 := W0) ?_ _ ?_ ?_⟩ <;> first | assumption | omega)
      | ((try go_split_ands); refine ⟨keepAd (W0 := W0) ?_ _, cellAd (W0 := W0) ?_ _ ?_ ?_, cellAd (W0 := W0) ?_ _ ?_ ?_, cellAd (W0 := W0) ?_ _ ?_ ?_, cellAd (W0 := W0) ?_ _ ?_ ?_, cellAd (W0 := W0) ?_ _ ?_ ?_, cellAd (W0 := W0) ?_ _ ?_ ?_, cellAd (W0 := W0) ?_ _ ?_ ?_, cellAd (W0 := W0) ?_ _ ?_ ?_, cellAd (W0 := W0) ?_ _ ?_ ?_, cellAd (W0 := W0) ?_ _ ?_ ?_, cellAd (W0 := W0) ?_ _ ?_ ?_, cellAd (W0 := W0) ?_ _ ?_ ?_, cellAd (W0 := W0) ?_ _ ?_ ?_, cellAd (W0 := W0) ?_ _ ?_ ?_⟩ <;> first | assumption | omega | exact Below.refl _ _)
      | ((try go_split_ands); (with_reducible refine ⟨keep3 (W0 := W0) ?_ ?_ _ _ _, cell3 (W0 := W0) ?_ _ _ _ ?_ ?_, cell3 (W0 := W0) ?_ _ _ _ ?_ ?_, cell3 (W0 := W0) ?_ _ _ _ ?_ ?_, cell3 (W0 := W0) ?_ _ _ _ ?_ ?_, cell3 (W0 := W0) ?_ _ _ _ ?_ ?_, cell3 (W0 := W0) ?_ _ _ _ ?_ ?_, cell3 (W0 := W0) ?_ _ _ _ ?_ ?_, cell3 (W0 := W0) ?_ _ _ _ ?_ ?_, cell3 (W0 := W0) ?_ _ _ _ ?_ ?_, cell3 (W0 := W0) ?_ _ _ _ ?_ ?_, cell3 (W0 := W0) ?_ _ _ _ ?_ ?_, cell3 (W0 := W0) ?_ _ _ _ ?_ ?_, cell3 (W0 := W0) ?_ _ _ _ ?_ ?_, cell3 (W0 := W0) ?_ _ _ _ ?_ ?_⟩) <;> first | assumption | omega | exact Nat.le_refl _)
      | ((try go_split_ands); refine ⟨keep2 (W0 := W0) ?_ ?_ _ _, cell2 (W0 := W0) ?_ _ _ ?_ ?_, cell2 (W0 := W0) ?_ _ _ ?_ ?_, cell2 (W0 := W0) ?_ _ _ ?_ ?_, cell2 (W0 := W0) ?_ _ _ ?_ ?_, cell2 (W0 := W0) ?_ _ _ ?_ ?_, cell2 (W0 := W0) ?_ _ _ ?_ ?_, cell2 (W0 := W0) ?_ _ _ ?_ ?_, cell2 (W0 := W0) ?_ _ _ ?_ ?_, cell2 (W0 := W0) ?_ _ _ ?_ ?_, cell2 (W0 := W0) ?_ _ _ ?_ ?_, cell2 (W0 := W0) ?_ _ _ ?_ ?_, cell2 (W0 := W0) ?_ _ _ ?_ ?_, cell2 (W0 := W0) ?_ _ _ ?_ ?_, cell2 (W0 := W0) ?_ _ _ ?_ ?_⟩ <;> first | assumption | omega | exact Nat.le_refl _)
      | ((try go_split_ands); refine ⟨keepZ (W0 := W0) ?_ ?_ _, cellZ (W0 := W0) ?_ _ ?_ ?_, cellZ (W0 := W0) ?_ _ ?_ ?_, cellZ (W0 := W0) ?_ _ ?_ ?_, cellZ (W0 := W0) ?_ _ ?_ ?_, cellZ (W0 := W0) ?_ _ ?_ ?_, cellZ (W0 := W0) ?_ _ ?_ ?_, cellZ (W0 := W0) ?_ _ ?_ ?_, cellZ (W0 := W0) ?_ _ ?_ ?_, cellZ (W0 := W0) ?_ _ ?_ ?_, cellZ (W0 := W0) ?_ _ ?_ ?_, cellZ (W0 := W0) ?_ _ ?_ ?_, cellZ (W0 := W0) ?_ _ ?_ ?_, cellZ (W0 := W0) ?_ _ ?_ ?_, cellZ (W0 := W0) ?_ _ ?_ ?_⟩ <;> first | assumption | omega | exact Nat.le_refl _ | exact ⟨_, by assumption⟩))
    (first | (go_at_call 12; (with_reducible refine (H1.out _).mono ?_); rintro e w1 ⟨rfl, hb1⟩; (try go_split_ands); have hge : W0.heap.size ≤ w1.heap.size := (by first | (refine (keepS (W0 := W0) ?_ hb1).size; assumption) | exact (hb1.size : W0.heap.size ≤ w1.heap.size)); (try have hrow := row_call hb1 hrow); (try have hrow := row_new hb1); (try have hrow := row_newd hb1); have hl1 := lt_below hb1; obtain ⟨hc1, hf1⟩ := bcell hb1; (try (have hrc := row_cellA hrow; clear hc1 hf1)); (try have hrf := row_frozA hrow)) | (go_at_call 12; (with_reducible refine (H2.out _).mono ?_); rintro e w1 ⟨rfl, hb1⟩; (try go_split_ands); have hge : W0.heap.size ≤ w1.heap.size := (by first | (refine (keepS (W0 := W0) ?_ hb1).size; assumption) | exact (hb1.size : W0.heap.size ≤ w1.heap.size)); (try have hrow := row_call hb1 hrow); (try have hrow := row_new hb1); (try have hrow := row_newd hb1); have hl1 := lt_below hb1; obtain ⟨hc1, hf1⟩ := bcell hb1; (try (have hrc := row_cellA hrow; clear hc1 hf1)); (try have hrf := row_frozA hrow)) | (go_at_call 34; refine (H3.out _ _ (by simp [go_sem]) (by simp [go_sem])).mono ?_; rintro e w1 ⟨rfl, hb1⟩; (try go_split_ands); have hge : W0.heap.size ≤ w1.heap.size := (by first | (refine (keepS (W0 := W0) ?_ hb1).size; assumption) | exact (hb1.size : W0.heap.size ≤ w1.heap.size)); (try have hrow := row_call hb1 hrow); (try have hrow := row_new hb1); (try have hrow := row_newd hb1); have hl1 := lt_below hb1; obtain ⟨hc1, hf1⟩ := bcell hb1; (try (have hrc := row_cellA hrow; clear hc1 hf1)); (try have hrf := row_frozA hrow)))
    all_goals (try go_split_ands)
    all_goals (go_wp2_with fail; go_meet; refine ⟨rfl, ?_⟩)
    all_goals first | (with_reducible assumption) | (with_reducible exact heap_alloc_new _ _) | (with_reducible exact row_set3 (by assumption) _ _ _) | assumption | exact heap_alloc_new _ _ | exact row_set (by assumption) _ _
  case rest =>
    obtain ⟨rfl, hB⟩ := hcut
    obtain ⟨V1, rfl⟩ : ∃ V, V = wc := ⟨_, rfl⟩
    clear A1_0 A1_1 A1_2 A1_3 A1_4 A1_5 A1_6 zA1 D1_0 D1_1 D1_2 D1_3 D1_4 D1_5 D1_6 zD1 Z1_0 Z1_1 Z1_f0 Z1_f1 zZ1
    replace A1 := Lib.hid (row_call hB A1.out)
    replace D1 := Lib.hid (row_call hB D1.out)
    replace Z1 := Lib.hid (row_call hB Z1.out)
    have B1 := Lib.hid (HB0.out.trans (hB.mono HB0.out.size))
    clear hB
    have A1_0 : V1.cell? ⟨w.heap.size, 0, none⟩ = some (.int .i64 y) := cell_of_row _ _ _ _ _ _ A1.out
    have A1_1 : V1.cell? ⟨w.heap.size, 1, none⟩ = some (.int .i64 m) := cell_of_row _ _ _ _ _ _ A1.out
    have A1_2 : V1.cell? ⟨w.heap.size, 2, none⟩ = some (.int .i64 d) := cell_of_row _ _ _ _ _ _ A1.out
    have A1_3 : V1.cell? ⟨w.heap.size, 3, none⟩ = some (.int .i64 h) := cell_of_row _ _ _ _ _ _ A1.out
    have A1_4 : V1.cell? ⟨w.heap.size, 4, none⟩ = some (.int .i64 i) := cell_of_row _ _ _ _ _ _ A1.out
    have A1_5 : V1.cell? ⟨w.heap.size, 5, none⟩ = some (.int .i64 s) := cell_of_row _ _ _ _ _ _ A1.out
    have A1_6 : V1.cell? ⟨w.heap.size, 6, none⟩ = some (.int .i64 n) := cell_of_row _ _ _ _ _ _ A1.out
    have zA1 := lt_of_heap A1.out
    have D1_0 : V1.cell? ⟨w.heap.size + 1, 0, none⟩ = some (.int .i64 y') := cell_of_row _ _ _ _ _ _ D1.out
    have D1_1 : V1.cell? ⟨w.heap.size + 1, 1, none⟩ = some (.int .i64 m') := cell_of_row _ _ _ _ _ _ D1.out
    have D1_2 : V1.cell? ⟨w.heap.size + 1, 2, none⟩ = some (.int .i64 d') := cell_of_row _ _ _ _ _ _ D1.out
    have D1_3 : V1.cell? ⟨w.heap.size + 1, 3, none⟩ = some (.int .i64 h') := cell_of_row _ _ _ _ _ _ D1.out
    have D1_4 : V1.cell? ⟨w.heap.size + 1, 4, none⟩ = some (.int .i64 i') := cell_of_row _ _ _ _ _ _ D1.out
    have D1_5 : V1.cell? ⟨w.heap.size + 1, 5, none⟩ = some (.int .i64 s') := cell_of_row _ _ _ _ _ _ D1.out
    have D1_6 : V1.cell? ⟨w.heap.size + 1, 6, none⟩ = some (.int .i64 n') := cell_of_row _ _ _ _ _ _ D1.out
    have zD1 := lt_of_heap D1.out
    have Z1_0 : V1.cell? ⟨w.heap.size + 1 + 1, 0, none⟩ = some (.int .i64 0) := cell_of_row _ _ _ _ _ _ Z1.out
    have Z1_1 : V1.cell? ⟨w.heap.size + 1 + 1, 1, none⟩ = some (.int .i64 0) := cell_of_row _ _ _ _ _ _ Z1.out
    have Z1_f0 : V1.frozen? ⟨w.heap.size + 1 + 1, 0, none⟩ = false := (by simp [World.frozen?, Z1.out])
    have Z1_f1 : V1.frozen? ⟨w.heap.size + 1 + 1, 1, none⟩ = false := (by simp [World.frozen?, Z1.out])
    have zZ1 := lt_of_heap Z1.out
    go_wp2
    refine shut_ret (v := .tuple #[.agg #[.int .i64 0, .int .i64 0], .int .i64 E]) (by simp [results, Tryd.results17, go_sem, zZ1, Z1_0, Z1_1]) rfl ⟨rfl, ?_⟩
    exact keep2 B1.out (by omega) _ _
set_option maxHeartbeats 3200000 in
set_option maxRecDepth 100000 in
theorem rtSub_any (y m d h i s n y' m' d' h' i' s' n' : Int) (hc : fsI (ckT y m d h i s n) (ckT y' m' d' h' i' s' n') = 0) (w : World) :
    Calls Tryd.prog 17 #[.agg #[.int .i64 y, .int .i64 m, .int .i64 d, .int .i64 h, .int .i64 i, .int .i64 s, .int .i64 n], .agg #[.int .i64 y', .int .i64 m', .int .i64 d', .int .i64 h', .int .i64 i', .int .i64 s', .int .i64 n']] w fun e w' => e = .returned (.tuple #[.agg #[.int .i64 (sbS (nuT y m d h i s) n (nuT y' m' d' h' i' s') n'), .int .i64 (sbN (nuT y m d h i s) n (nuT y' m' d' h' i' s') n')], .int .i64 (fsI (ckI (nuT y m d h i s) n) (ckI (nuT y' m' d' h' i' s') n'))]) ∧ Below w.heap.size w w' := by
  obtain ⟨c1, c2⟩ := fsI_none hc
  obtain ⟨ok, _, hy, hm, hd⟩ := of_ckT c1
  obtain ⟨ok', _, hy', hm', hd'⟩ := of_ckT c2
  have X1 := rtCheck_any y m d h i s n
  have X2 := rtCheck_any y' m' d' h' i' s' n'
  have X3 := rFirst_any 0 0
  rw [show fsI 0 0 = 0 by unfold fsI; rfl] at X3
  rw [c1] at X1
  rw [c2] at X2
  have b := nuT_bd ok hy hm hd
  have b' := nuT_bd ok' hy' hm' hd'
  have H1 := Lib.hid X1
  have H2 := Lib.hid X2
  have H3 := Lib.hid X3
  have H4 := Lib.hid (rtInstant_any y m d h i s n ok hy hm hd)
  have H5 := Lib.hid (rtInstant_any y' m' d' h' i' s' n' ok' hy' hm' hd')
  have H6 := Lib.hid (riSub_any (nuT y m d h i s) n (nuT y' m' d' h' i' s') n' (by unfold in64; omega) (by unfold okK at ok; unfold in64; omega) (by unfold in64; omega) (by unfold okK at ok'; unfold in64; omega))
  clear X1 X2 X3 c1 c2 ok hy hm hd b ok' hy' hm' hd' b' hc
  generalize nuT y m d h i s = S at *
  generalize nuT y' m' d' h' i' s' = S' at *
  generalize sbS S n S' n' = S1 at *
  generalize sbN S n S' n' = N1 at *
  generalize fsI (ckI S n) (ckI S' n') = E1 at *
  go_enter Tryd.func17, Tryd.ntmps17
  refine wp_shut ?_
  go_wp2_with fail
  
  obtain ⟨W0, hW0⟩ : ∃ W0, W0 = (((w.alloc (Obj.cells #[Value.int .i64 y, Value.int .i64 m, Value.int .i64 d, Value.int .i64 h, Value.int .i64 i, Value.int .i64 s, Value.int .i64 n] 27)).alloc (Obj.cells #[Value.int .i64 y', Value.int .i64 m', Value.int .i64 d', Value.int .i64 h', Value.int .i64 i', Value.int .i64 s', Value.int .i64 n'] 27)).alloc (Obj.cells #[Value.int .i64 0, Value.int .i64 0] 42)) := ⟨_, rfl⟩
  have A1 := Lib.hid (row_at (k' := w.heap.size) (by simp) (row_by hW0 (row_alloc (row_alloc (heap_alloc_new _ _) _) _)))
  have D1 := Lib.hid (row_at (k' := w.heap.size + 1) (by simp) (row_by hW0 (row_alloc (heap_alloc_new _ _) _)))
  have Z1 := Lib.hid (row_at (k' := w.heap.size + 1 + 1) (by simp) (row_by hW0 (heap_alloc_new _ _)))
  have HB0 := Lib.hid (below_by hW0 ((((Below.refl w.heap.size w).alloc (by simp <;> omega) _).alloc (by simp <;> omega) _).alloc (by simp <;> omega) _))
  have HW0 := Lib.hid hW0
  clear hW0
  have A1_0 : W0.cell? ⟨w.heap.size, 0, none⟩ = some (.int .i64 y) := cell_of_row _ _ _ _ _ _ A1.out
  have A1_1 : W0.cell? ⟨w.heap.size, 1, none⟩ = some (.int .i64 m) := cell_of_row _ _ _ _ _ _ A1.out
  have A1_2 : W0.cell? ⟨w.heap.size, 2, none⟩ = some (.int .i64 d) := cell_of_row _ _ _ _ _ _ A1.out
  have A1_3 : W0.cell? ⟨w.heap.size, 3, none⟩ = some (.int .i64 h) := cell_of_row _ _ _ _ _ _ A1.out
  have A1_4 : W0.cell? ⟨w.heap.size, 4, none⟩ = some (.int .i64 i) := cell_of_row _ _ _ _ _ _ A1.out
  have A1_5 : W0.cell? ⟨w.heap.size, 5, none⟩ = some (.int .i64 s) := cell_of_row _ _ _ _ _ _ A1.out
  have A1_6 : W0.cell? ⟨w.heap.size, 6, none⟩ = some (.int .i64 n) := cell_of_row _ _ _ _ _ _ A1.out
  have zA1 := lt_of_heap A1.out
  have D1_0 : W0.cell? ⟨w.heap.size + 1, 0, none⟩ = some (.int .i64 y') := cell_of_row _ _ _ _ _ _ D1.out
  have D1_1 : W0.cell? ⟨w.heap.size + 1, 1, none⟩ = some (.int .i64 m') := cell_of_row _ _ _ _ _ _ D1.out
  have D1_2 : W0.cell? ⟨w.heap.size + 1, 2, none⟩ = some (.int .i64 d') := cell_of_row _ _ _ _ _ _ D1.out
  have D1_3 : W0.cell? ⟨w.heap.size + 1, 3, none⟩ = some (.int .i64 h') := cell_of_row _ _ _ _ _ _ D1.out
  have D1_4 : W0.cell? ⟨w.heap.size + 1, 4, none⟩ = some (.int .i64 i') := cell_of_row _ _ _ _ _ _ D1.out
  have D1_5 : W0.cell? ⟨w.heap.size + 1, 5, none⟩ = some (.int .i64 s') := cell_of_row _ _ _ _ _ _ D1.out
  have D1_6 : W0.cell? ⟨w.heap.size + 1, 6, none⟩ = some (.int .i64 n') := cell_of_row _ _ _ _ _ _ D1.out
  have zD1 := lt_of_heap D1.out
  have Z1_0 : W0.cell? ⟨w.heap.size + 1 + 1, 0, none⟩ = some (.int .i64 0) := cell_of_row _ _ _ _ _ _ Z1.out
  have Z1_1 : W0.cell? ⟨w.heap.size + 1 + 1, 1, none⟩ = some (.int .i64 0) := cell_of_row _ _ _ _ _ _ Z1.out
  have Z1_f0 : W0.frozen? ⟨w.heap.size + 1 + 1, 0, none⟩ = false := (by simp [World.frozen?, Z1.out])
  have Z1_f1 : W0.frozen? ⟨w.heap.size + 1 + 1, 1, none⟩ = false := (by simp [World.frozen?, Z1.out])
  have zZ1 := lt_of_heap Z1.out
  try rw [← HW0.out]
  go_cut [6] (fun s6 wx => s6 = .int .i64 0 ∧ Below W0.heap.size W0 wx)
  case first =>
    go_region_held3 (fun w' => Below W0.heap.size W0 w' ∧ w'.cell? ⟨w.heap.size, 0, none⟩ = some (.int .i64 y) ∧ w'.cell? ⟨w.heap.size, 1, none⟩ = some (.int .i64 m) ∧ w'.cell? ⟨w.heap.size, 2, none⟩ = some (.int .i64 d) ∧ w'.cell? ⟨w.heap.size, 3, none⟩ = some (.int .i64 h) ∧ w'.cell? ⟨w.heap.size, 4, none⟩ = some (.int .i64 i) ∧ w'.cell? ⟨w.heap.size, 5, none⟩ = some (.int .i64 s) ∧ w'.cell? ⟨w.heap.size, 6, none⟩ = some (.int .i64 n) ∧ w'.cell? ⟨w.heap.size + 1, 0, none⟩ = some (.int .i64 y') ∧ w'.cell? ⟨w.heap.size + 1, 1, none⟩ = some (.int .i64 m') ∧ w'.cell? ⟨w.heap.size + 1, 2, none⟩ = some (.int .i64 d') ∧ w'.cell? ⟨w.heap.size + 1, 3, none⟩ = some (.int .i64 h') ∧ w'.cell? ⟨w.heap.size + 1, 4, none⟩ = some (.int .i64 i') ∧ w'.cell? ⟨w.heap.size + 1, 5, none⟩ = some (.int .i64 s') ∧ w'.cell? ⟨w.heap.size + 1, 6, none⟩ = some (.int .i64 n'))
    (first
      | ((try go_split_ands); refine ⟨(Below.refl _ _).drew, ?_, ?_, ?_, ?_, ?_, ?_, ?_, ?_, ?_, ?_, ?_, ?_, ?_, ?_⟩ <;> first | assumption | (rw [World.cell?_drew]; assumption))
      | ((try go_split_ands); refine ⟨keepS (W0 := W0) ?_ hb1, cellS (W0 := W0) ?_ hb1 ?_ ?_, cellS (W0 := W0) ?_ hb1 ?_ ?_, cellS (W0 := W0) ?_ hb1 ?_ ?_, cellS (W0 := W0) ?_ hb1 ?_ ?_, cellS (W0 := W0) ?_ hb1 ?_ ?_, cellS (W0 := W0) ?_ hb1 ?_ ?_, cellS (W0 := W0) ?_ hb1 ?_ ?_, cellS (W0 := W0) ?_ hb1 ?_ ?_, cellS (W0 := W0) ?_ hb1 ?_ ?_, cellS (W0 := W0) ?_ hb1 ?_ ?_, cellS (W0 := W0) ?_ hb1 ?_ ?_, cellS (W0 := W0) ?_ hb1 ?_ ?_, cellS (W0 := W0) ?_ hb1 ?_ ?_, cellS (W0 := W0) ?_ hb1 ?_ ?_⟩ <;> first | assumption | omega)
      | ((try go_split_ands); refine ⟨keepA (W0 := W0) ?_ _, cellA (W0 := W0) ?_ _ ?_ ?_, cellA (W0 := W0) ?_ _ ?_ ?_, cellA (W0 := W0) ?_ _ ?_ ?_, cellA (W0 := W0) ?_ _ ?_ ?_, cellA (W0 := W0) ?_ _ ?_ ?_, cellA (W0 := W0) ?_ _ ?_ ?_, cellA (W0 := W0) ?_ _ ?_ ?_, cellA (W0 := W0) ?_ _ ?_ ?_, cellA (W0 := W0) ?_ _ ?_ ?_, cellA (W0 := W0) ?_ _ ?_ ?_, cellA (W0 := W0) ?_ _ ?_ ?_, cellA (W0 := W0) ?_ _ ?_ ?_, cellA (W0 := W0) ?_ _ ?_ ?_, cellA (W0 := W0) ?_ _ ?_ ?_⟩ <;> first | assumption | omega)
      | ((try go_split_ands); refine ⟨keepAd (W0 := W0) ?_ _, cellAd (W0 := W0) ?_ _ ?_ ?_, cellAd (W0 := W0) ?_ _ ?_ ?_, cellAd (W0 := W0) ?_ _ ?_ ?_, cellAd (W0 := W0) ?_ _ ?_ ?_, cellAd (W0 := W0) ?_ _ ?_ ?_, cellAd (W0 := W0) ?_ _ ?_ ?_, cellAd (W0 := W0) ?_ _ ?_ ?_, cellAd (W0 := W0) ?_ _ ?_ ?_, cellAd (W0 := W0) ?_ _ ?_ ?_, cellAd (W0 := W0) ?_ _ ?_ ?_, cellAd (W0 := W0) ?_ _ ?_ ?_, cellAd (W0 := W0) ?_ _ ?_ ?_, cellAd (W0 := W0) ?_ _ ?_ ?_, cellAd (W0 := W0) ?_ _ ?_ ?_⟩ <;> first | assumption | omega | exact Below.refl _ _)
      | ((try go_split_ands); (with_reducible refine ⟨keep3 (W0 := W0) ?_ ?_ _ _ _, cell3 (W0 := W0) ?_ _ _ _ ?_ ?_, cell3 (W0 := W0) ?_ _ _ _ ?_ ?_, cell3 (W0 := W0) ?_ _ _ _ ?_ ?_, cell3 (W0 := W0) ?_ _ _ _ ?_ ?_, cell3 (W0 := W0) ?_ _ _ _ ?_ ?_, cell3 (W0 := W0) ?_ _ _ _ ?_ ?_, cell3 (W0 := W0) ?_ _ _ _ ?_ ?_, cell3 (W0 := W0) ?_ _ _ _ ?_ ?_, cell3 (W0 := W0) ?_ _ _ _ ?_ ?_, cell3 (W0 := W0) ?_ _ _ _ ?_ ?_, cell3 (W0 := W0) ?_ _ _ _ ?_ ?_, cell3 (W0 := W0) ?_ _ _ _ ?_ ?_, cell3 (W0 := W0) ?_ _ _ _ ?_ ?_, cell3 (W0 := W0) ?_ _ _ _ ?_ ?_⟩) <;> first | assumption | omega | exact Nat.le_refl _)
      | ((try go_split_ands); refine ⟨keep2 (W0 := W0) ?_ ?_ _ _, cell2 (W0 := W0) ?_ _ _ ?_ ?_, cell2 (W0 := W0) ?_ _ _ ?_ ?_, cell2 (W0 := W0) ?_ _ _ ?_ ?_, cell2 (W0 := W0) ?_ _ _ ?_ ?_, cell2 (W0 := W0) ?_ _ _ ?_ ?_, cell2 (W0 := W0) ?_ _ _ ?_ ?_, cell2 (W0 := W0) ?_ _ _ ?_ ?_, cell2 (W0 := W0) ?_ _ _ ?_ ?_, cell2 (W0 := W0) ?_ _ _ ?_ ?_, cell2 (W0 := W0) ?_ _ _ ?_ ?_, cell2 (W0 := W0) ?_ _ _ ?_ ?_, cell2 (W0 := W0) ?_ _ _ ?_ ?_, cell2 (W0 := W0) ?_ _ _ ?_ ?_, cell2 (W0 := W0) ?_ _ _ ?_ ?_⟩ <;> first | assumption | omega | exact Nat.le_refl _)
      | ((try go_split_ands); refine ⟨keepZ (W0 := W0) ?_ ?_ _, cellZ (W0 := W0) ?_ _ ?_ ?_, cellZ (W0 := W0) ?_ _ ?_ ?_, cellZ (W0 := W0) ?_ _ ?_ ?_, cellZ (W0 := W0) ?_ _ ?_ ?_, cellZ (W0 := W0) ?_ _ ?_ ?_, cellZ (W0 := W0) ?_ _ ?_ ?_, cellZ (W0 := W0) ?_ _ ?_ ?_, cellZ (W0 := W0) ?_ _ ?_ ?_, cellZ (W0 := W0) ?_ _ ?_ ?_, cellZ (W0 := W0) ?_ _ ?_ ?_, cellZ (W0 := W0) ?_ _ ?_ ?_, cellZ (W0 := W0) ?_ _ ?_ ?_, cellZ (W0 := W0) ?_ _ ?_ ?_, cellZ (W0 := W0) ?_ _ ?_ ?_⟩ <;> first | assumption | omega | exact Nat.le_refl _ | exact ⟨_, by assumption⟩))
    (first | (go_at_call 12; (with_reducible refine (H1.out _).mono ?_); rintro e w1 ⟨rfl, hb1⟩; (try go_split_ands); have hge : W0.heap.size ≤ w1.heap.size := (by first | (refine (keepS (W0 := W0) ?_ hb1).size; assumption) | exact (hb1.size : W0.heap.size ≤ w1.heap.size)); (try have hrow := row_call hb1 hrow); (try have hrow := row_new hb1); (try have hrow := row_newd hb1); have hl1 := lt_below hb1; obtain ⟨hc1, hf1⟩ := bcell hb1; (try (have hrc := row_cellA hrow; clear hc1 hf1)); (try have hrf := row_frozA hrow)) | (go_at_call 12; (with_reducible refine (H2.out _).mono ?_); rintro e w1 ⟨rfl, hb1⟩; (try go_split_ands); have hge : W0.heap.size ≤ w1.heap.size := (by first | (refine (keepS (W0 := W0) ?_ hb1).size; assumption) | exact (hb1.size : W0.heap.size ≤ w1.heap.size)); (try have hrow := row_call hb1 hrow); (try have hrow := row_new hb1); (try have hrow := row_newd hb1); have hl1 := lt_below hb1; obtain ⟨hc1, hf1⟩ := bcell hb1; (try (have hrc := row_cellA hrow; clear hc1 hf1)); (try have hrf := row_frozA hrow)) | (go_at_call 34; refine (H3.out _ _ (by simp [go_sem]) (by simp [go_sem])).mono ?_; rintro e w1 ⟨rfl, hb1⟩; (try go_split_ands); have hge : W0.heap.size ≤ w1.heap.size := (by first | (refine (keepS (W0 := W0) ?_ hb1).size; assumption) | exact (hb1.size : W0.heap.size ≤ w1.heap.size)); (try have hrow := row_call hb1 hrow); (try have hrow := row_new hb1); (try have hrow := row_newd hb1); have hl1 := lt_below hb1; obtain ⟨hc1, hf1⟩ := bcell hb1; (try (have hrc := row_cellA hrow; clear hc1 hf1)); (try have hrf := row_frozA hrow)))
    all_goals (try go_split_ands)
    all_goals (go_wp2_with fail; go_meet; refine ⟨rfl, ?_⟩)
    all_goals first | (with_reducible assumption) | (with_reducible exact heap_alloc_new _ _) | (with_reducible exact row_set3 (by assumption) _ _ _) | assumption | exact heap_alloc_new _ _ | exact row_set (by assumption) _ _
  case rest =>
    obtain ⟨rfl, hB⟩ := hcut
    obtain ⟨V1, rfl⟩ : ∃ V, V = wc := ⟨_, rfl⟩
    clear A1_0 A1_1 A1_2 A1_3 A1_4 A1_5 A1_6 zA1 D1_0 D1_1 D1_2 D1_3 D1_4 D1_5 D1_6 zD1 Z1_0 Z1_1 Z1_f0 Z1_f1 zZ1
    replace A1 := Lib.hid (row_call hB A1.out)
    replace D1 := Lib.hid (row_call hB D1.out)
    replace Z1 := Lib.hid (row_call hB Z1.out)
    have B1 := Lib.hid (HB0.out.trans (hB.mono HB0.out.size))
    clear hB
    have A1_0 : V1.cell? ⟨w.heap.size, 0, none⟩ = some (.int .i64 y) := cell_of_row _ _ _ _ _ _ A1.out
    have A1_1 : V1.cell? ⟨w.heap.size, 1, none⟩ = some (.int .i64 m) := cell_of_row _ _ _ _ _ _ A1.out
    have A1_2 : V1.cell? ⟨w.heap.size, 2, none⟩ = some (.int .i64 d) := cell_of_row _ _ _ _ _ _ A1.out
    have A1_3 : V1.cell? ⟨w.heap.size, 3, none⟩ = some (.int .i64 h) := cell_of_row _ _ _ _ _ _ A1.out
    have A1_4 : V1.cell? ⟨w.heap.size, 4, none⟩ = some (.int .i64 i) := cell_of_row _ _ _ _ _ _ A1.out
    have A1_5 : V1.cell? ⟨w.heap.size, 5, none⟩ = some (.int .i64 s) := cell_of_row _ _ _ _ _ _ A1.out
    have A1_6 : V1.cell? ⟨w.heap.size, 6, none⟩ = some (.int .i64 n) := cell_of_row _ _ _ _ _ _ A1.out
    have zA1 := lt_of_heap A1.out
    have D1_0 : V1.cell? ⟨w.heap.size + 1, 0, none⟩ = some (.int .i64 y') := cell_of_row _ _ _ _ _ _ D1.out
    have D1_1 : V1.cell? ⟨w.heap.size + 1, 1, none⟩ = some (.int .i64 m') := cell_of_row _ _ _ _ _ _ D1.out
    have D1_2 : V1.cell? ⟨w.heap.size + 1, 2, none⟩ = some (.int .i64 d') := cell_of_row _ _ _ _ _ _ D1.out
    have D1_3 : V1.cell? ⟨w.heap.size + 1, 3, none⟩ = some (.int .i64 h') := cell_of_row _ _ _ _ _ _ D1.out
    have D1_4 : V1.cell? ⟨w.heap.size + 1, 4, none⟩ = some (.int .i64 i') := cell_of_row _ _ _ _ _ _ D1.out
    have D1_5 : V1.cell? ⟨w.heap.size + 1, 5, none⟩ = some (.int .i64 s') := cell_of_row _ _ _ _ _ _ D1.out
    have D1_6 : V1.cell? ⟨w.heap.size + 1, 6, none⟩ = some (.int .i64 n') := cell_of_row _ _ _ _ _ _ D1.out
    have zD1 := lt_of_heap D1.out
    have Z1_0 : V1.cell? ⟨w.heap.size + 1 + 1, 0, none⟩ = some (.int .i64 0) := cell_of_row _ _ _ _ _ _ Z1.out
    have Z1_1 : V1.cell? ⟨w.heap.size + 1 + 1, 1, none⟩ = some (.int .i64 0) := cell_of_row _ _ _ _ _ _ Z1.out
    have Z1_f0 : V1.frozen? ⟨w.heap.size + 1 + 1, 0, none⟩ = false := (by simp [World.frozen?, Z1.out])
    have Z1_f1 : V1.frozen? ⟨w.heap.size + 1 + 1, 1, none⟩ = false := (by simp [World.frozen?, Z1.out])
    have zZ1 := lt_of_heap Z1.out
    go_wp2_with fail
    obtain ⟨W0, hW0⟩ : ∃ W0, W0 = V1 := ⟨_, rfl⟩
    replace A1 := Lib.hid (row_by hW0 A1.out)
    replace D1 := Lib.hid (row_by hW0 D1.out)
    replace Z1 := Lib.hid (row_by hW0 Z1.out)
    clear A1_0 A1_1 A1_2 A1_3 A1_4 A1_5 A1_6 zA1 D1_0 D1_1 D1_2 D1_3 D1_4 D1_5 D1_6 zD1 Z1_0 Z1_1 Z1_f0 Z1_f1 zZ1
    have A1_0 : W0.cell? ⟨w.heap.size, 0, none⟩ = some (.int .i64 y) := cell_of_row _ _ _ _ _ _ A1.out
    have A1_1 : W0.cell? ⟨w.heap.size, 1, none⟩ = some (.int .i64 m) := cell_of_row _ _ _ _ _ _ A1.out
    have A1_2 : W0.cell? ⟨w.heap.size, 2, none⟩ = some (.int .i64 d) := cell_of_row _ _ _ _ _ _ A1.out
    have A1_3 : W0.cell? ⟨w.heap.size, 3, none⟩ = some (.int .i64 h) := cell_of_row _ _ _ _ _ _ A1.out
    have A1_4 : W0.cell? ⟨w.heap.size, 4, none⟩ = some (.int .i64 i) := cell_of_row _ _ _ _ _ _ A1.out
    have A1_5 : W0.cell? ⟨w.heap.size, 5, none⟩ = some (.int .i64 s) := cell_of_row _ _ _ _ _ _ A1.out
    have A1_6 : W0.cell? ⟨w.heap.size, 6, none⟩ = some (.int .i64 n) := cell_of_row _ _ _ _ _ _ A1.out
    have zA1 := lt_of_heap A1.out
    have D1_0 : W0.cell? ⟨w.heap.size + 1, 0, none⟩ = some (.int .i64 y') := cell_of_row _ _ _ _ _ _ D1.out
    have D1_1 : W0.cell? ⟨w.heap.size + 1, 1, none⟩ = some (.int .i64 m') := cell_of_row _ _ _ _ _ _ D1.out
    have D1_2 : W0.cell? ⟨w.heap.size + 1, 2, none⟩ = some (.int .i64 d') := cell_of_row _ _ _ _ _ _ D1.out
    have D1_3 : W0.cell? ⟨w.heap.size + 1, 3, none⟩ = some (.int .i64 h') := cell_of_row _ _ _ _ _ _ D1.out
    have D1_4 : W0.cell? ⟨w.heap.size + 1, 4, none⟩ = some (.int .i64 i') := cell_of_row _ _ _ _ _ _ D1.out
    have D1_5 : W0.cell? ⟨w.heap.size + 1, 5, none⟩ = some (.int .i64 s') := cell_of_row _ _ _ _ _ _ D1.out
    have D1_6 : W0.cell? ⟨w.heap.size + 1, 6, none⟩ = some (.int .i64 n') := cell_of_row _ _ _ _ _ _ D1.out
    have zD1 := lt_of_heap D1.out
    have Z1_0 : W0.cell? ⟨w.heap.size + 1 + 1, 0, none⟩ = some (.int .i64 0) := cell_of_row _ _ _ _ _ _ Z1.out
    have Z1_1 : W0.cell? ⟨w.heap.size + 1 + 1, 1, none⟩ = some (.int .i64 0) := cell_of_row _ _ _ _ _ _ Z1.out
    have zZ1 := lt_of_heap Z1.out
    have HB0 := Lib.hid (below_by hW0 (B1.out))
    have zW0 := HB0.out.size
    have HW0 := Lib.hid hW0
    clear hW0
    try go_simp
    rw [← HW0.out]
    refine region_plan (S := fun w2 => w2.cell? ⟨w.heap.size, 0, none⟩ = some (.int .i64 y) ∧ w2.cell? ⟨w.heap.size, 1, none⟩ = some (.int .i64 m) ∧ w2.cell? ⟨w.heap.size, 2, none⟩ = some (.int .i64 d) ∧ w2.cell? ⟨w.heap.size, 3, none⟩ = some (.int .i64 h) ∧ w2.cell? ⟨w.heap.size, 4, none⟩ = some (.int .i64 i) ∧ w2.cell? ⟨w.heap.size, 5, none⟩ = some (.int .i64 s) ∧ w2.cell? ⟨w.heap.size, 6, none⟩ = some (.int .i64 n) ∧ w2.cell? ⟨w.heap.size + 1, 0, none⟩ = some (.int .i64 y') ∧ w2.cell? ⟨w.heap.size + 1, 1, none⟩ = some (.int .i64 m') ∧ w2.cell? ⟨w.heap.size + 1, 2, none⟩ = some (.int .i64 d') ∧ w2.cell? ⟨w.heap.size + 1, 3, none⟩ = some (.int .i64 h') ∧ w2.cell? ⟨w.heap.size + 1, 4, none⟩ = some (.int .i64 i') ∧ w2.cell? ⟨w.heap.size + 1, 5, none⟩ = some (.int .i64 s') ∧ w2.cell? ⟨w.heap.size + 1, 6, none⟩ = some (.int .i64 n')) [(0, true), (2, true), (1, false), (3, false), (4, false), (5, true), (6, true), (7, false), (8, true)] (by as_aux_lemma => kernel_rfl) (by as_aux_lemma => kernel_rfl) (by as_aux_lemma => kernel_rfl) (by as_aux_lemma => kernel_rfl) ⟨(by rw [World.cell?_drew]; exact A1_0), (by rw [World.cell?_drew]; exact A1_1), (by rw [World.cell?_drew]; exact A1_2), (by rw [World.cell?_drew]; exact A1_3), (by rw [World.cell?_drew]; exact A1_4), (by rw [World.cell?_drew]; exact A1_5), (by rw [World.cell?_drew]; exact A1_6), (by rw [World.cell?_drew]; exact D1_0), (by rw [World.cell?_drew]; exact D1_1), (by rw [World.cell?_drew]; exact D1_2), (by rw [World.cell?_drew]; exact D1_3), (by rw [World.cell?_drew]; exact D1_4), (by rw [World.cell?_drew]; exact D1_5), (by rw [World.cell?_drew]; exact D1_6)⟩ ?_
    have Y0 := Lib.hid (Below.refl W0.heap.size W0).drew
    refine plan_yes (v := ?v1_1) (by simp only [List.getElem?_toArray, List.getElem?_cons_zero, List.getElem?_cons_succ]; exact rfl) (Or.inl ⟨by as_aux_lemma => rfl, ?hy1_1⟩) ?rest1_1
    case hy1_1 => (intro w2 hSw; (try dsimp only at hSw); obtain ⟨s0, s1, s2, s3, s4, s5, s6, s7, s8, s9, s10, s11, s12, s13⟩ := hSw; go_simp; try with_reducible rfl)
    try simp only [Act.put, List.setIfInBounds_toArray, List.set_cons_zero, List.set_cons_succ]
    refine plan_yes (v := ?v2_1) (by simp only [List.getElem?_toArray, List.getElem?_cons_zero, List.getElem?_cons_succ]; exact rfl) (Or.inl ⟨by as_aux_lemma => rfl, ?hy2_1⟩) ?rest2_1
    case hy2_1 => (intro w2 hSw; (try dsimp only at hSw); obtain ⟨s0, s1, s2, s3, s4, s5, s6, s7, s8, s9, s10, s11, s12, s13⟩ := hSw; go_simp; try with_reducible rfl)
    try simp only [Act.put, List.setIfInBounds_toArray, List.set_cons_zero, List.set_cons_succ]
    refine plan_calls (by simp only [List.getElem?_toArray, List.getElem?_cons_zero, List.getElem?_cons_succ]; exact rfl) (by as_aux_lemma => rfl) (fun K hK => ?_)
    go_simp
    refine (H4.out _).mono ?_
    rintro e Y1w ⟨rfl, hb1⟩
    have Y1 := Lib.hid (keepS (W0 := W0) Y0.out hb1)
    clear hb1
    refine hK.out _ _ ⟨((Y1.out.cell (p := ⟨w.heap.size, 0, none⟩) zA1).trans A1_0), ((Y1.out.cell (p := ⟨w.heap.size, 1, none⟩) zA1).trans A1_1), ((Y1.out.cell (p := ⟨w.heap.size, 2, none⟩) zA1).trans A1_2), ((Y1.out.cell (p := ⟨w.heap.size, 3, none⟩) zA1).trans A1_3), ((Y1.out.cell (p := ⟨w.heap.size, 4, none⟩) zA1).trans A1_4), ((Y1.out.cell (p := ⟨w.heap.size, 5, none⟩) zA1).trans A1_5), ((Y1.out.cell (p := ⟨w.heap.size, 6, none⟩) zA1).trans A1_6), ((Y1.out.cell (p := ⟨w.heap.size + 1, 0, none⟩) zD1).trans D1_0), ((Y1.out.cell (p := ⟨w.heap.size + 1, 1, none⟩) zD1).trans D1_1), ((Y1.out.cell (p := ⟨w.heap.size + 1, 2, none⟩) zD1).trans D1_2), ((Y1.out.cell (p := ⟨w.heap.size + 1, 3, none⟩) zD1).trans D1_3), ((Y1.out.cell (p := ⟨w.heap.size + 1, 4, none⟩) zD1).trans D1_4), ((Y1.out.cell (p := ⟨w.heap.size + 1, 5, none⟩) zD1).trans D1_5), ((Y1.out.cell (p := ⟨w.heap.size + 1, 6, none⟩) zD1).trans D1_6)⟩ ?_
    clear hK K
    try simp only [Act.put, List.setIfInBounds_toArray, List.set_cons_zero, List.set_cons_succ]
    as_aux_lemma =>
     refine plan_calls (by simp only [List.getElem?_toArray, List.getElem?_cons_zero, List.getElem?_cons_succ]; exact rfl) (by as_aux_lemma => rfl) (fun K hK => ?_)
     go_simp
     refine (H5.out _).mono ?_
     rintro e Y2w ⟨rfl, hb1⟩
     have Y2 := Lib.hid (keepS (W0 := W0) Y1.out hb1)
     clear hb1
     refine hK.out _ _ ⟨((Y2.out.cell (p := ⟨w.heap.size, 0, none⟩) zA1).trans A1_0), ((Y2.out.cell (p := ⟨w.heap.size, 1, none⟩) zA1).trans A1_1), ((Y2.out.cell (p := ⟨w.heap.size, 2, none⟩) zA1).trans A1_2), ((Y2.out.cell (p := ⟨w.heap.size, 3, none⟩) zA1).trans A1_3), ((Y2.out.cell (p := ⟨w.heap.size, 4, none⟩) zA1).trans A1_4), ((Y2.out.cell (p := ⟨w.heap.size, 5, none⟩) zA1).trans A1_5), ((Y2.out.cell (p := ⟨w.heap.size, 6, none⟩) zA1).trans A1_6), ((Y2.out.cell (p := ⟨w.heap.size + 1, 0, none⟩) zD1).trans D1_0), ((Y2.out.cell (p := ⟨w.heap.size + 1, 1, none⟩) zD1).trans D1_1), ((Y2.out.cell (p := ⟨w.heap.size + 1, 2, none⟩) zD1).trans D1_2), ((Y2.out.cell (p := ⟨w.heap.size + 1, 3, none⟩) zD1).trans D1_3), ((Y2.out.cell (p := ⟨w.heap.size + 1, 4, none⟩) zD1).trans D1_4), ((Y2.out.cell (p := ⟨w.heap.size + 1, 5, none⟩) zD1).trans D1_5), ((Y2.out.cell (p := ⟨w.heap.size + 1, 6, none⟩) zD1).trans D1_6)⟩ ?_
     clear hK K
     try simp only [Act.put, List.setIfInBounds_toArray, List.set_cons_zero, List.set_cons_succ]
     as_aux_lemma =>
      refine plan_calls (by simp only [List.getElem?_toArray, List.getElem?_cons_zero, List.getElem?_cons_succ]; exact rfl) (by as_aux_lemma => rfl) (fun K hK => ?_)
      go_simp
      refine (H6.out _).mono ?_
      rintro e Y3w ⟨rfl, hb1⟩
      have Y3 := Lib.hid (keepS (W0 := W0) Y2.out hb1)
      clear hb1
      refine hK.out _ _ ⟨((Y3.out.cell (p := ⟨w.heap.size, 0, none⟩) zA1).trans A1_0), ((Y3.out.cell (p := ⟨w.heap.size, 1, none⟩) zA1).trans A1_1), ((Y3.out.cell (p := ⟨w.heap.size, 2, none⟩) zA1).trans A1_2), ((Y3.out.cell (p := ⟨w.heap.size, 3, none⟩) zA1).trans A1_3), ((Y3.out.cell (p := ⟨w.heap.size, 4, none⟩) zA1).trans A1_4), ((Y3.out.cell (p := ⟨w.heap.size, 5, none⟩) zA1).trans A1_5), ((Y3.out.cell (p := ⟨w.heap.size, 6, none⟩) zA1).trans A1_6), ((Y3.out.cell (p := ⟨w.heap.size + 1, 0, none⟩) zD1).trans D1_0), ((Y3.out.cell (p := ⟨w.heap.size + 1, 1, none⟩) zD1).trans D1_1), ((Y3.out.cell (p := ⟨w.heap.size + 1, 2, none⟩) zD1).trans D1_2), ((Y3.out.cell (p := ⟨w.heap.size + 1, 3, none⟩) zD1).trans D1_3), ((Y3.out.cell (p := ⟨w.heap.size + 1, 4, none⟩) zD1).trans D1_4), ((Y3.out.cell (p := ⟨w.heap.size + 1, 5, none⟩) zD1).trans D1_5), ((Y3.out.cell (p := ⟨w.heap.size + 1, 6, none⟩) zD1).trans D1_6)⟩ ?_
      clear hK K
      try simp only [Act.put, List.setIfInBounds_toArray, List.set_cons_zero, List.set_cons_succ]
      as_aux_lemma =>
       refine plan_yes (v := ?v3_1) (by simp only [List.getElem?_toArray, List.getElem?_cons_zero, List.getElem?_cons_succ]; exact rfl) (Or.inl ⟨by as_aux_lemma => rfl, ?hy3_1⟩) ?rest3_1
       case hy3_1 => (intro w2 hSw; (try dsimp only at hSw); obtain ⟨s0, s1, s2, s3, s4, s5, s6, s7, s8, s9, s10, s11, s12, s13⟩ := hSw; go_simp; try with_reducible rfl)
       try simp only [Act.put, List.setIfInBounds_toArray, List.set_cons_zero, List.set_cons_succ]
       refine plan_yes (v := ?v4_1) (by simp only [List.getElem?_toArray, List.getElem?_cons_zero, List.getElem?_cons_succ]; exact rfl) (Or.inl ⟨by as_aux_lemma => rfl, ?hy4_1⟩) ?rest4_1
       case hy4_1 => (intro w2 hSw; (try dsimp only at hSw); obtain ⟨s0, s1, s2, s3, s4, s5, s6, s7, s8, s9, s10, s11, s12, s13⟩ := hSw; go_simp; try with_reducible rfl)
       try simp only [Act.put, List.setIfInBounds_toArray, List.set_cons_zero, List.set_cons_succ]
       replace A1 := Lib.hid (row_call Y3.out A1.out)
       replace D1 := Lib.hid (row_call Y3.out D1.out)
       replace Z1 := Lib.hid (row_call Y3.out Z1.out)
       have Bc := Lib.hid (HB0.out.trans (Y3.out.mono zW0))
       refine plan_calls (by simp only [List.getElem?_toArray, List.getElem?_cons_zero, List.getElem?_cons_succ]; exact rfl) (by as_aux_lemma => rfl) (fun K hK => ?_)
       refine wp_store_row 42 _ _ rfl (w.heap.size + 1 + 1) #[Value.int .i64 S1, Value.int .i64 N1] (by rfl) (by rfl) _ _ Z1.out (by kernel_rfl) rfl (by simp [Value.oneCell']) ?_
       refine hK.out _ _ ⟨(cell_of_row _ _ _ _ _ _ (row_otherR (by first | omega | (have := nA1Z1.out; omega) | (have := nZ1A1.out; omega)) A1.out _)), (cell_of_row _ _ _ _ _ _ (row_otherR (by first | omega | (have := nA1Z1.out; omega) | (have := nZ1A1.out; omega)) A1.out _)), (cell_of_row _ _ _ _ _ _ (row_otherR (by first | omega | (have := nA1Z1.out; omega) | (have := nZ1A1.out; omega)) A1.out _)), (cell_of_row _ _ _ _ _ _ (row_otherR (by first | omega | (have := nA1Z1.out; omega) | (have := nZ1A1.out; omega)) A1.out _)), (cell_of_row _ _ _ _ _ _ (row_otherR (by first | omega | (have := nA1Z1.out; omega) | (have := nZ1A1.out; omega)) A1.out _)), (cell_of_row _ _ _ _ _ _ (row_otherR (by first | omega | (have := nA1Z1.out; omega) | (have := nZ1A1.out; omega)) A1.out _)), (cell_of_row _ _ _ _ _ _ (row_otherR (by first | omega | (have := nA1Z1.out; omega) | (have := nZ1A1.out; omega)) A1.out _)), (cell_of_row _ _ _ _ _ _ (row_otherR (by first | omega | (have := nD1Z1.out; omega) | (have := nZ1D1.out; omega)) D1.out _)), (cell_of_row _ _ _ _ _ _ (row_otherR (by first | omega | (have := nD1Z1.out; omega) | (have := nZ1D1.out; omega)) D1.out _)), (cell_of_row _ _ _ _ _ _ (row_otherR (by first | omega | (have := nD1Z1.out; omega) | (have := nZ1D1.out; omega)) D1.out _)), (cell_of_row _ _ _ _ _ _ (row_otherR (by first | omega | (have := nD1Z1.out; omega) | (have := nZ1D1.out; omega)) D1.out _)), (cell_of_row _ _ _ _ _ _ (row_otherR (by first | omega | (have := nD1Z1.out; omega) | (have := nZ1D1.out; omega)) D1.out _)), (cell_of_row _ _ _ _ _ _ (row_otherR (by first | omega | (have := nD1Z1.out; omega) | (have := nZ1D1.out; omega)) D1.out _)), (cell_of_row _ _ _ _ _ _ (row_otherR (by first | omega | (have := nD1Z1.out; omega) | (have := nZ1D1.out; omega)) D1.out _))⟩ ?_
       clear hK K
       try simp only [Act.put, List.setIfInBounds_toArray, List.set_cons_zero, List.set_cons_succ]
       obtain ⟨Y1s, hYs⟩ : ∃ V, V = Y3w.setRow (w.heap.size + 1 + 1) #[Value.int .i64 S1, Value.int .i64 N1] := ⟨_, rfl⟩
       rw [← hYs]
       replace A1 := Lib.hid (row_by hYs (row_otherR (by first | omega | (have := nA1Z1.out; omega) | (have := nZ1A1.out; omega)) A1.out _))
       replace D1 := Lib.hid (row_by hYs (row_otherR (by first | omega | (have := nD1Z1.out; omega) | (have := nZ1D1.out; omega)) D1.out _))
       replace Z1 := Lib.hid (row_by hYs (setRow_heap _ _ _ _ _ _ Z1.out))
       replace Bc := Lib.hid (below_by hYs (keepRow Bc.out (by omega) _))
       clear hYs
       refine plan_yes (v := ?v5_1) (by simp only [List.getElem?_toArray, List.getElem?_cons_zero, List.getElem?_cons_succ]; exact rfl) (Or.inl ⟨by as_aux_lemma => rfl, ?hy5_1⟩) ?rest5_1
       case hy5_1 => (intro w2 hSw; (try dsimp only at hSw); obtain ⟨s0, s1, s2, s3, s4, s5, s6, s7, s8, s9, s10, s11, s12, s13⟩ := hSw; go_simp; try with_reducible rfl)
       try simp only [Act.put, List.setIfInBounds_toArray, List.set_cons_zero, List.set_cons_succ]
       refine plan_done (NoPanic.normal ?_)
       have B2 := Bc
       clear Bc A1_0 A1_1 A1_2 A1_3 A1_4 A1_5 A1_6 D1_0 D1_1 D1_2 D1_3 D1_4 D1_5 D1_6 Z1_0 Z1_1 zA1 zD1 zZ1 Y0 Y1 Y2 Y3
       obtain ⟨V2, rfl⟩ : ∃ V, V = Y1s := ⟨_, rfl⟩
       have A1_0 : V2.cell? ⟨w.heap.size, 0, none⟩ = some (.int .i64 y) := cell_of_row _ _ _ _ _ _ A1.out
       have A1_1 : V2.cell? ⟨w.heap.size, 1, none⟩ = some (.int .i64 m) := cell_of_row _ _ _ _ _ _ A1.out
       have A1_2 : V2.cell? ⟨w.heap.size, 2, none⟩ = some (.int .i64 d) := cell_of_row _ _ _ _ _ _ A1.out
       have A1_3 : V2.cell? ⟨w.heap.size, 3, none⟩ = some (.int .i64 h) := cell_of_row _ _ _ _ _ _ A1.out
       have A1_4 : V2.cell? ⟨w.heap.size, 4, none⟩ = some (.int .i64 i) := cell_of_row _ _ _ _ _ _ A1.out
       have A1_5 : V2.cell? ⟨w.heap.size, 5, none⟩ = some (.int .i64 s) := cell_of_row _ _ _ _ _ _ A1.out
       have A1_6 : V2.cell? ⟨w.heap.size, 6, none⟩ = some (.int .i64 n) := cell_of_row _ _ _ _ _ _ A1.out
       have zA1 := lt_of_heap A1.out
       have D1_0 : V2.cell? ⟨w.heap.size + 1, 0, none⟩ = some (.int .i64 y') := cell_of_row _ _ _ _ _ _ D1.out
       have D1_1 : V2.cell? ⟨w.heap.size + 1, 1, none⟩ = some (.int .i64 m') := cell_of_row _ _ _ _ _ _ D1.out
       have D1_2 : V2.cell? ⟨w.heap.size + 1, 2, none⟩ = some (.int .i64 d') := cell_of_row _ _ _ _ _ _ D1.out
       have D1_3 : V2.cell? ⟨w.heap.size + 1, 3, none⟩ = some (.int .i64 h') := cell_of_row _ _ _ _ _ _ D1.out
       have D1_4 : V2.cell? ⟨w.heap.size + 1, 4, none⟩ = some (.int .i64 i') := cell_of_row _ _ _ _ _ _ D1.out
       have D1_5 : V2.cell? ⟨w.heap.size + 1, 5, none⟩ = some (.int .i64 s') := cell_of_row _ _ _ _ _ _ D1.out
       have D1_6 : V2.cell? ⟨w.heap.size + 1, 6, none⟩ = some (.int .i64 n') := cell_of_row _ _ _ _ _ _ D1.out
       have zD1 := lt_of_heap D1.out
       have Z1_0 : V2.cell? ⟨w.heap.size + 1 + 1, 0, none⟩ = some (.int .i64 S1) := cell_of_row _ _ _ _ _ _ Z1.out
       have Z1_f0 : V2.frozen? ⟨w.heap.size + 1 + 1, 0, none⟩ = false := (by simp [World.frozen?, Z1.out])
       have Z1_1 : V2.cell? ⟨w.heap.size + 1 + 1, 1, none⟩ = some (.int .i64 N1) := cell_of_row _ _ _ _ _ _ Z1.out
       have Z1_f1 : V2.frozen? ⟨w.heap.size + 1 + 1, 1, none⟩ = false := (by simp [World.frozen?, Z1.out])
       have zZ1 := lt_of_heap Z1.out
       try go_simp
       go_wp2
       refine shut_ret (v := .tuple #[.agg #[.int .i64 S1, .int .i64 N1], .int .i64 E1]) (by simp [results, Tryd.results17, go_sem, zZ1, Z1_0, Z1_1]) rfl ⟨rfl, ?_⟩
       exact B2.out
def ordT (y m d h i s n y' m' d' h' i' s' n' : Int) : Int := if ord3 y m d y' m' d' = 0 then (if ord2 h i h' i' = 0 then ord2 s n s' n' else ord2 h i h' i') else ord3 y m d y' m' d'
set_option maxHeartbeats 3200000 in
set_option maxRecDepth 100000 in
theorem rtCmp_any (y m d h i s n y' m' d' h' i' s' n' : Int) (w : World) :
    Calls Tryd.prog 19 #[.agg #[.int .i64 y, .int .i64 m, .int .i64 d, .int .i64 h, .int .i64 i, .int .i64 s, .int .i64 n], .agg #[.int .i64 y', .int .i64 m', .int .i64 d', .int .i64 h', .int .i64 i', .int .i64 s', .int .i64 n']] w fun e w' => e = .returned (.int .i64 (ordT y m d h i s n y' m' d' h' i' s' n')) ∧ Below w.heap.size w w' := by
  have X1 := rCmp6_any y m d y' m' d'
  have X2 := riCmp_any h i h' i'
  have H3 := Lib.hid (riCmp_any s n s' n')
  by_cases k1 : ord3 y m d y' m' d' = 0
  · by_cases k2 : ord2 h i h' i' = 0
    · have E : Hid (ordT y m d h i s n y' m' d' h' i' s' n' = ord2 s n s' n') := Lib.hid (by unfold ordT; rw [if_pos k1]; exact if_pos k2)
      rw [k1] at X1
      rw [k2] at X2
      have H1 := Lib.hid X1
      have H2 := Lib.hid X2
      clear X1 X2 k1 k2
      generalize ord2 s n s' n' = O at *
      go_enter Tryd.func19, Tryd.ntmps19
      go_wp2_with fail
      
      refine (H1.out _).mono ?_
      rintro e V1 ⟨rfl, hb1⟩
      have B1 := Lib.hid ((((Below.refl w.heap.size w).alloc (Nat.le_refl _) _).alloc (by simp <;> omega) _).trans (hb1.mono (by first | assumption | (simp <;> omega) | (simp; done))))
      have A1 := Lib.hid (row_call hb1 (row_alloc (heap_alloc_new _ _) _))
      have D1 := Lib.hid (row_at (k' := w.heap.size + 1) (by simp) (row_call hb1 (heap_alloc_new _ _)))
      clear hb1
      have A1_0 : V1.cell? ⟨w.heap.size, 0, none⟩ = some (.int .i64 y) := cell_of_row _ _ _ _ _ _ A1.out
      have A1_1 : V1.cell? ⟨w.heap.size, 1, none⟩ = some (.int .i64 m) := cell_of_row _ _ _ _ _ _ A1.out
      have A1_2 : V1.cell? ⟨w.heap.size, 2, none⟩ = some (.int .i64 d) := cell_of_row _ _ _ _ _ _ A1.out
      have A1_3 : V1.cell? ⟨w.heap.size, 3, none⟩ = some (.int .i64 h) := cell_of_row _ _ _ _ _ _ A1.out
      have A1_4 : V1.cell? ⟨w.heap.size, 4, none⟩ = some (.int .i64 i) := cell_of_row _ _ _ _ _ _ A1.out
      have A1_5 : V1.cell? ⟨w.heap.size, 5, none⟩ = some (.int .i64 s) := cell_of_row _ _ _ _ _ _ A1.out
      have A1_6 : V1.cell? ⟨w.heap.size, 6, none⟩ = some (.int .i64 n) := cell_of_row _ _ _ _ _ _ A1.out
      have D1_0 : V1.cell? ⟨w.heap.size + 1, 0, none⟩ = some (.int .i64 y') := cell_of_row _ _ _ _ _ _ D1.out
      have D1_1 : V1.cell? ⟨w.heap.size + 1, 1, none⟩ = some (.int .i64 m') := cell_of_row _ _ _ _ _ _ D1.out
      have D1_2 : V1.cell? ⟨w.heap.size + 1, 2, none⟩ = some (.int .i64 d') := cell_of_row _ _ _ _ _ _ D1.out
      have D1_3 : V1.cell? ⟨w.heap.size + 1, 3, none⟩ = some (.int .i64 h') := cell_of_row _ _ _ _ _ _ D1.out
      have D1_4 : V1.cell? ⟨w.heap.size + 1, 4, none⟩ = some (.int .i64 i') := cell_of_row _ _ _ _ _ _ D1.out
      have D1_5 : V1.cell? ⟨w.heap.size + 1, 5, none⟩ = some (.int .i64 s') := cell_of_row _ _ _ _ _ _ D1.out
      have D1_6 : V1.cell? ⟨w.heap.size + 1, 6, none⟩ = some (.int .i64 n') := cell_of_row _ _ _ _ _ _ D1.out
      have zA1 := lt_of_heap A1.out
      have zD1 := lt_of_heap D1.out
      go_simp
      go_wp2_with fail
      refine (H2.out _).mono ?_
      rintro e V2 ⟨rfl, hb2⟩
      clear A1_0 A1_1 A1_2 A1_3 A1_4 A1_5 A1_6 zA1 D1_0 D1_1 D1_2 D1_3 D1_4 D1_5 D1_6 zD1
      have B2 : Hid (Below w.heap.size w V2) := by first | exact Lib.hid ((B1.out).trans (hb2.mono (by have := B1.out.size; first | assumption | (simp <;> omega) | (simp; done)))) | exact Lib.hid (((B1.out).alloc (B1.out.size) _).trans (hb2.mono (by have := B1.out.size; first | assumption | (simp <;> omega) | (simp; done)))) | exact Lib.hid ((((B1.out).alloc (B1.out.size) _).alloc (by have := B1.out.size; simp <;> omega) _).trans (hb2.mono (by have := B1.out.size; first | assumption | (simp <;> omega) | (simp; done)))) | exact Lib.hid (((((B1.out).alloc (B1.out.size) _).alloc (by have := B1.out.size; simp <;> omega) _).alloc (by have := B1.out.size; simp <;> omega) _).trans (hb2.mono (by have := B1.out.size; first | assumption | (simp <;> omega) | (simp; done))))
      first | replace A1 := Lib.hid (row_call hb2 A1.out) | replace A1 := Lib.hid (row_call hb2 (row_alloc A1.out _)) | replace A1 := Lib.hid (row_call hb2 (row_alloc (row_alloc A1.out _) _)) | replace A1 := Lib.hid (row_call hb2 (row_alloc (row_alloc (row_alloc A1.out _) _) _))
      first | replace D1 := Lib.hid (row_call hb2 D1.out) | replace D1 := Lib.hid (row_call hb2 (row_alloc D1.out _)) | replace D1 := Lib.hid (row_call hb2 (row_alloc (row_alloc D1.out _) _)) | replace D1 := Lib.hid (row_call hb2 (row_alloc (row_alloc (row_alloc D1.out _) _) _))
      clear hb2
      have A1_0 : V2.cell? ⟨w.heap.size, 0, none⟩ = some (.int .i64 y) := cell_of_row _ _ _ _ _ _ A1.out
      have A1_1 : V2.cell? ⟨w.heap.size, 1, none⟩ = some (.int .i64 m) := cell_of_row _ _ _ _ _ _ A1.out
      have A1_2 : V2.cell? ⟨w.heap.size, 2, none⟩ = some (.int .i64 d) := cell_of_row _ _ _ _ _ _ A1.out
      have A1_3 : V2.cell? ⟨w.heap.size, 3, none⟩ = some (.int .i64 h) := cell_of_row _ _ _ _ _ _ A1.out
      have A1_4 : V2.cell? ⟨w.heap.size, 4, none⟩ = some (.int .i64 i) := cell_of_row _ _ _ _ _ _ A1.out
      have A1_5 : V2.cell? ⟨w.heap.size, 5, none⟩ = some (.int .i64 s) := cell_of_row _ _ _ _ _ _ A1.out
      have A1_6 : V2.cell? ⟨w.heap.size, 6, none⟩ = some (.int .i64 n) := cell_of_row _ _ _ _ _ _ A1.out
      have D1_0 : V2.cell? ⟨w.heap.size + 1, 0, none⟩ = some (.int .i64 y') := cell_of_row _ _ _ _ _ _ D1.out
      have D1_1 : V2.cell? ⟨w.heap.size + 1, 1, none⟩ = some (.int .i64 m') := cell_of_row _ _ _ _ _ _ D1.out
      have D1_2 : V2.cell? ⟨w.heap.size + 1, 2, none⟩ = some (.int .i64 d') := cell_of_row _ _ _ _ _ _ D1.out
      have D1_3 : V2.cell? ⟨w.heap.size + 1, 3, none⟩ = some (.int .i64 h') := cell_of_row _ _ _ _ _ _ D1.out
      have D1_4 : V2.cell? ⟨w.heap.size + 1, 4, none⟩ = some (.int .i64 i') := cell_of_row _ _ _ _ _ _ D1.out
      have D1_5 : V2.cell? ⟨w.heap.size + 1, 5, none⟩ = some (.int .i64 s') := cell_of_row _ _ _ _ _ _ D1.out
      have D1_6 : V2.cell? ⟨w.heap.size + 1, 6, none⟩ = some (.int .i64 n') := cell_of_row _ _ _ _ _ _ D1.out
      have zA1 := lt_of_heap A1.out
      have zD1 := lt_of_heap D1.out
      go_simp
      go_wp2_with fail
      refine (H3.out _).mono ?_
      rintro e V3 ⟨rfl, hb3⟩
      clear A1_0 A1_1 A1_2 A1_3 A1_4 A1_5 A1_6 zA1 D1_0 D1_1 D1_2 D1_3 D1_4 D1_5 D1_6 zD1
      have B3 : Hid (Below w.heap.size w V3) := by first | exact Lib.hid ((B2.out).trans (hb3.mono (by have := B2.out.size; first | assumption | (simp <;> omega) | (simp; done)))) | exact Lib.hid (((B2.out).alloc (B2.out.size) _).trans (hb3.mono (by have := B2.out.size; first | assumption | (simp <;> omega) | (simp; done)))) | exact Lib.hid ((((B2.out).alloc (B2.out.size) _).alloc (by have := B2.out.size; simp <;> omega) _).trans (hb3.mono (by have := B2.out.size; first | assumption | (simp <;> omega) | (simp; done)))) | exact Lib.hid (((((B2.out).alloc (B2.out.size) _).alloc (by have := B2.out.size; simp <;> omega) _).alloc (by have := B2.out.size; simp <;> omega) _).trans (hb3.mono (by have := B2.out.size; first | assumption | (simp <;> omega) | (simp; done))))
      first | replace A1 := Lib.hid (row_call hb3 A1.out) | replace A1 := Lib.hid (row_call hb3 (row_alloc A1.out _)) | replace A1 := Lib.hid (row_call hb3 (row_alloc (row_alloc A1.out _) _)) | replace A1 := Lib.hid (row_call hb3 (row_alloc (row_alloc (row_alloc A1.out _) _) _))
      first | replace D1 := Lib.hid (row_call hb3 D1.out) | replace D1 := Lib.hid (row_call hb3 (row_alloc D1.out _)) | replace D1 := Lib.hid (row_call hb3 (row_alloc (row_alloc D1.out _) _)) | replace D1 := Lib.hid (row_call hb3 (row_alloc (row_alloc (row_alloc D1.out _) _) _))
      clear hb3
      have A1_0 : V3.cell? ⟨w.heap.size, 0, none⟩ = some (.int .i64 y) := cell_of_row _ _ _ _ _ _ A1.out
      have A1_1 : V3.cell? ⟨w.heap.size, 1, none⟩ = some (.int .i64 m) := cell_of_row _ _ _ _ _ _ A1.out
      have A1_2 : V3.cell? ⟨w.heap.size, 2, none⟩ = some (.int .i64 d) := cell_of_row _ _ _ _ _ _ A1.out
      have A1_3 : V3.cell? ⟨w.heap.size, 3, none⟩ = some (.int .i64 h) := cell_of_row _ _ _ _ _ _ A1.out
      have A1_4 : V3.cell? ⟨w.heap.size, 4, none⟩ = some (.int .i64 i) := cell_of_row _ _ _ _ _ _ A1.out
      have A1_5 : V3.cell? ⟨w.heap.size, 5, none⟩ = some (.int .i64 s) := cell_of_row _ _ _ _ _ _ A1.out
      have A1_6 : V3.cell? ⟨w.heap.size, 6, none⟩ = some (.int .i64 n) := cell_of_row _ _ _ _ _ _ A1.out
      have D1_0 : V3.cell? ⟨w.heap.size + 1, 0, none⟩ = some (.int .i64 y') := cell_of_row _ _ _ _ _ _ D1.out
      have D1_1 : V3.cell? ⟨w.heap.size + 1, 1, none⟩ = some (.int .i64 m') := cell_of_row _ _ _ _ _ _ D1.out
      have D1_2 : V3.cell? ⟨w.heap.size + 1, 2, none⟩ = some (.int .i64 d') := cell_of_row _ _ _ _ _ _ D1.out
      have D1_3 : V3.cell? ⟨w.heap.size + 1, 3, none⟩ = some (.int .i64 h') := cell_of_row _ _ _ _ _ _ D1.out
      have D1_4 : V3.cell? ⟨w.heap.size + 1, 4, none⟩ = some (.int .i64 i') := cell_of_row _ _ _ _ _ _ D1.out
      have D1_5 : V3.cell? ⟨w.heap.size + 1, 5, none⟩ = some (.int .i64 s') := cell_of_row _ _ _ _ _ _ D1.out
      have D1_6 : V3.cell? ⟨w.heap.size + 1, 6, none⟩ = some (.int .i64 n') := cell_of_row _ _ _ _ _ _ D1.out
      have zA1 := lt_of_heap A1.out
      have zD1 := lt_of_heap D1.out
      go_simp
      go_wp2
      go_ret
      exact ⟨by rw [E.out]; try rfl, B3.out⟩
    · have E : Hid (ordT y m d h i s n y' m' d' h' i' s' n' = ord2 h i h' i') := Lib.hid (by unfold ordT; rw [if_pos k1]; exact if_neg k2)
      rw [k1] at X1
      have H1 := Lib.hid X1
      have H2 := Lib.hid X2
      clear X1 X2 k1 H3
      generalize ord2 h i h' i' = O at *
      have f2 : (O != 0) = true := by rw [bne_iff_ne]; exact k2
      go_enter Tryd.func19, Tryd.ntmps19
      go_wp2_with fail
      
      refine (H1.out _).mono ?_
      rintro e V1 ⟨rfl, hb1⟩
      have B1 := Lib.hid ((((Below.refl w.heap.size w).alloc (Nat.le_refl _) _).alloc (by simp <;> omega) _).trans (hb1.mono (by first | assumption | (simp <;> omega) | (simp; done))))
      have A1 := Lib.hid (row_call hb1 (row_alloc (heap_alloc_new _ _) _))
      have D1 := Lib.hid (row_at (k' := w.heap.size + 1) (by simp) (row_call hb1 (heap_alloc_new _ _)))
      clear hb1
      have A1_0 : V1.cell? ⟨w.heap.size, 0, none⟩ = some (.int .i64 y) := cell_of_row _ _ _ _ _ _ A1.out
      have A1_1 : V1.cell? ⟨w.heap.size, 1, none⟩ = some (.int .i64 m) := cell_of_row _ _ _ _ _ _ A1.out
      have A1_2 : V1.cell? ⟨w.heap.size, 2, none⟩ = some (.int .i64 d) := cell_of_row _ _ _ _ _ _ A1.out
      have A1_3 : V1.cell? ⟨w.heap.size, 3, none⟩ = some (.int .i64 h) := cell_of_row _ _ _ _ _ _ A1.out
      have A1_4 : V1.cell? ⟨w.heap.size, 4, none⟩ = some (.int .i64 i) := cell_of_row _ _ _ _ _ _ A1.out
      have A1_5 : V1.cell? ⟨w.heap.size, 5, none⟩ = some (.int .i64 s) := cell_of_row _ _ _ _ _ _ A1.out
      have A1_6 : V1.cell? ⟨w.heap.size, 6, none⟩ = some (.int .i64 n) := cell_of_row _ _ _ _ _ _ A1.out
      have D1_0 : V1.cell? ⟨w.heap.size + 1, 0, none⟩ = some (.int .i64 y') := cell_of_row _ _ _ _ _ _ D1.out
      have D1_1 : V1.cell? ⟨w.heap.size + 1, 1, none⟩ = some (.int .i64 m') := cell_of_row _ _ _ _ _ _ D1.out
      have D1_2 : V1.cell? ⟨w.heap.size + 1, 2, none⟩ = some (.int .i64 d') := cell_of_row _ _ _ _ _ _ D1.out
      have D1_3 : V1.cell? ⟨w.heap.size + 1, 3, none⟩ = some (.int .i64 h') := cell_of_row _ _ _ _ _ _ D1.out
      have D1_4 : V1.cell? ⟨w.heap.size + 1, 4, none⟩ = some (.int .i64 i') := cell_of_row _ _ _ _ _ _ D1.out
      have D1_5 : V1.cell? ⟨w.heap.size + 1, 5, none⟩ = some (.int .i64 s') := cell_of_row _ _ _ _ _ _ D1.out
      have D1_6 : V1.cell? ⟨w.heap.size + 1, 6, none⟩ = some (.int .i64 n') := cell_of_row _ _ _ _ _ _ D1.out
      have zA1 := lt_of_heap A1.out
      have zD1 := lt_of_heap D1.out
      go_simp
      go_wp2_with fail
      refine (H2.out _).mono ?_
      rintro e V2 ⟨rfl, hb2⟩
      clear A1_0 A1_1 A1_2 A1_3 A1_4 A1_5 A1_6 zA1 D1_0 D1_1 D1_2 D1_3 D1_4 D1_5 D1_6 zD1
      have B2 : Hid (Below w.heap.size w V2) := by first | exact Lib.hid ((B1.out).trans (hb2.mono (by have := B1.out.size; first | assumption | (simp <;> omega) | (simp; done)))) | exact Lib.hid (((B1.out).alloc (B1.out.size) _).trans (hb2.mono (by have := B1.out.size; first | assumption | (simp <;> omega) | (simp; done)))) | exact Lib.hid ((((B1.out).alloc (B1.out.size) _).alloc (by have := B1.out.size; simp <;> omega) _).trans (hb2.mono (by have := B1.out.size; first | assumption | (simp <;> omega) | (simp; done)))) | exact Lib.hid (((((B1.out).alloc (B1.out.size) _).alloc (by have := B1.out.size; simp <;> omega) _).alloc (by have := B1.out.size; simp <;> omega) _).trans (hb2.mono (by have := B1.out.size; first | assumption | (simp <;> omega) | (simp; done))))
      first | replace A1 := Lib.hid (row_call hb2 A1.out) | replace A1 := Lib.hid (row_call hb2 (row_alloc A1.out _)) | replace A1 := Lib.hid (row_call hb2 (row_alloc (row_alloc A1.out _) _)) | replace A1 := Lib.hid (row_call hb2 (row_alloc (row_alloc (row_alloc A1.out _) _) _))
      first | replace D1 := Lib.hid (row_call hb2 D1.out) | replace D1 := Lib.hid (row_call hb2 (row_alloc D1.out _)) | replace D1 := Lib.hid (row_call hb2 (row_alloc (row_alloc D1.out _) _)) | replace D1 := Lib.hid (row_call hb2 (row_alloc (row_alloc (row_alloc D1.out _) _) _))
      clear hb2
      have A1_0 : V2.cell? ⟨w.heap.size, 0, none⟩ = some (.int .i64 y) := cell_of_row _ _ _ _ _ _ A1.out
      have A1_1 : V2.cell? ⟨w.heap.size, 1, none⟩ = some (.int .i64 m) := cell_of_row _ _ _ _ _ _ A1.out
      have A1_2 : V2.cell? ⟨w.heap.size, 2, none⟩ = some (.int .i64 d) := cell_of_row _ _ _ _ _ _ A1.out
      have A1_3 : V2.cell? ⟨w.heap.size, 3, none⟩ = some (.int .i64 h) := cell_of_row _ _ _ _ _ _ A1.out
      have A1_4 : V2.cell? ⟨w.heap.size, 4, none⟩ = some (.int .i64 i) := cell_of_row _ _ _ _ _ _ A1.out
      have A1_5 : V2.cell? ⟨w.heap.size, 5, none⟩ = some (.int .i64 s) := cell_of_row _ _ _ _ _ _ A1.out
      have A1_6 : V2.cell? ⟨w.heap.size, 6, none⟩ = some (.int .i64 n) := cell_of_row _ _ _ _ _ _ A1.out
      have D1_0 : V2.cell? ⟨w.heap.size + 1, 0, none⟩ = some (.int .i64 y') := cell_of_row _ _ _ _ _ _ D1.out
      have D1_1 : V2.cell? ⟨w.heap.size + 1, 1, none⟩ = some (.int .i64 m') := cell_of_row _ _ _ _ _ _ D1.out
      have D1_2 : V2.cell? ⟨w.heap.size + 1, 2, none⟩ = some (.int .i64 d') := cell_of_row _ _ _ _ _ _ D1.out
      have D1_3 : V2.cell? ⟨w.heap.size + 1, 3, none⟩ = some (.int .i64 h') := cell_of_row _ _ _ _ _ _ D1.out
      have D1_4 : V2.cell? ⟨w.heap.size + 1, 4, none⟩ = some (.int .i64 i') := cell_of_row _ _ _ _ _ _ D1.out
      have D1_5 : V2.cell? ⟨w.heap.size + 1, 5, none⟩ = some (.int .i64 s') := cell_of_row _ _ _ _ _ _ D1.out
      have D1_6 : V2.cell? ⟨w.heap.size + 1, 6, none⟩ = some (.int .i64 n') := cell_of_row _ _ _ _ _ _ D1.out
      have zA1 := lt_of_heap A1.out
      have zD1 := lt_of_heap D1.out
      go_simp
      go_wp2
      go_ret
      exact ⟨by rw [E.out]; try rfl, B2.out⟩
  · have E : Hid (ordT y m d h i s n y' m' d' h' i' s' n' = ord3 y m d y' m' d') := Lib.hid (by unfold ordT; exact if_neg k1)
    have H1 := Lib.hid X1
    clear X1 X2 H3
    generalize ord3 y m d y' m' d' = O at *
    have f2 : (O != 0) = true := by rw [bne_iff_ne]; exact k1
    go_enter Tryd.func19, Tryd.ntmps19
    go_wp2_with fail
    
    refine (H1.out _).mono ?_
    rintro e V1 ⟨rfl, hb1⟩
    have B1 := Lib.hid ((((Below.refl w.heap.size w).alloc (Nat.le_refl _) _).alloc (by simp <;> omega) _).trans (hb1.mono (by first | assumption | (simp <;> omega) | (simp; done))))
    have A1 := Lib.hid (row_call hb1 (row_alloc (heap_alloc_new _ _) _))
    have D1 := Lib.hid (row_at (k' := w.heap.size + 1) (by simp) (row_call hb1 (heap_alloc_new _ _)))
    clear hb1
    have A1_0 : V1.cell? ⟨w.heap.size, 0, none⟩ = some (.int .i64 y) := cell_of_row _ _ _ _ _ _ A1.out
    have A1_1 : V1.cell? ⟨w.heap.size, 1, none⟩ = some (.int .i64 m) := cell_of_row _ _ _ _ _ _ A1.out
    have A1_2 : V1.cell? ⟨w.heap.size, 2, none⟩ = some (.int .i64 d) := cell_of_row _ _ _ _ _ _ A1.out
    have A1_3 : V1.cell? ⟨w.heap.size, 3, none⟩ = some (.int .i64 h) := cell_of_row _ _ _ _ _ _ A1.out
    have A1_4 : V1.cell? ⟨w.heap.size, 4, none⟩ = some (.int .i64 i) := cell_of_row _ _ _ _ _ _ A1.out
    have A1_5 : V1.cell? ⟨w.heap.size, 5, none⟩ = some (.int .i64 s) := cell_of_row _ _ _ _ _ _ A1.out
    have A1_6 : V1.cell? ⟨w.heap.size, 6, none⟩ = some (.int .i64 n) := cell_of_row _ _ _ _ _ _ A1.out
    have D1_0 : V1.cell? ⟨w.heap.size + 1, 0, none⟩ = some (.int .i64 y') := cell_of_row _ _ _ _ _ _ D1.out
    have D1_1 : V1.cell? ⟨w.heap.size + 1, 1, none⟩ = some (.int .i64 m') := cell_of_row _ _ _ _ _ _ D1.out
    have D1_2 : V1.cell? ⟨w.heap.size + 1, 2, none⟩ = some (.int .i64 d') := cell_of_row _ _ _ _ _ _ D1.out
    have D1_3 : V1.cell? ⟨w.heap.size + 1, 3, none⟩ = some (.int .i64 h') := cell_of_row _ _ _ _ _ _ D1.out
    have D1_4 : V1.cell? ⟨w.heap.size + 1, 4, none⟩ = some (.int .i64 i') := cell_of_row _ _ _ _ _ _ D1.out
    have D1_5 : V1.cell? ⟨w.heap.size + 1, 5, none⟩ = some (.int .i64 s') := cell_of_row _ _ _ _ _ _ D1.out
    have D1_6 : V1.cell? ⟨w.heap.size + 1, 6, none⟩ = some (.int .i64 n') := cell_of_row _ _ _ _ _ _ D1.out
    have zA1 := lt_of_heap A1.out
    have zD1 := lt_of_heap D1.out
    go_simp
    go_wp2
    go_ret
    exact ⟨by rw [E.out]; try rfl, B1.out⟩
end Go.Proofs.YtaoljjhhbmblhaaDoor
namespace Go.Proofs.YtaoljjhhbmblhaaDoor
set_option linter.unusedVariables false
set_option linter.unusedSimpArgs false
open Go.ChangeShapes Go.WideShapes Go.ChangeAt Go.RowKit
def IsCiv (S n y m d h i s k E : Int) : Prop :=
  ((n < 0 ∨ 1000000000 ≤ n) ∧ y = 0 ∧ m = 0 ∧ d = 0 ∧ h = 0 ∧ i = 0 ∧ s = 0 ∧ k = 0 ∧ E = 5) ∨
  (0 ≤ n ∧ n < 1000000000 ∧ (S < -377705116800 ∨ 253402300799 < S) ∧ y = 0 ∧ m = 0 ∧ d = 0 ∧ h = 0 ∧ i = 0 ∧ s = 0 ∧ k = 0 ∧ E = 8) ∨
  (0 ≤ n ∧ n < 1000000000 ∧ -377705116800 ≤ S ∧ S ≤ 253402300799 ∧ mayB y m d = true ∧ -9999 ≤ y ∧ y ≤ 9999 ∧ dnI y m d = S / 86400 ∧ h = S % 86400 / 3600 ∧ i = S % 86400 / 60 % 60 ∧ s = S % 86400 % 60 ∧ k = n ∧ E = 0)
theorem isCiv_ex (S n : Int) : ∃ y m d h i s k E, IsCiv S n y m d h i s k E := by
  by_cases hn : n < 0 ∨ 1000000000 ≤ n
  · exact ⟨0, 0, 0, 0, 0, 0, 0, 5, Or.inl ⟨hn, rfl, rfl, rfl, rfl, rfl, rfl, rfl, rfl⟩⟩
  · by_cases hS : S < -377705116800 ∨ 253402300799 < S
    · exact ⟨0, 0, 0, 0, 0, 0, 0, 8, Or.inr (Or.inl ⟨by omega, by omega, hS, rfl, rfl, rfl, rfl, rfl, rfl, rfl, rfl⟩)⟩
    · obtain ⟨y, m, d, hm, y1, y2, e⟩ := date_ex (S / 86400) (by omega) (by omega)
      exact ⟨y, m, d, _, _, _, n, 0, Or.inr (Or.inr ⟨by omega, by omega, by omega, by omega, hm, y1, y2, e, rfl, rfl, rfl, rfl, rfl⟩)⟩
theorem rtOf_is {S n y m d h i s k E : Int} (hc : IsCiv S n y m d h i s k E) (w : World) : Calls Tryd.prog 10 #[.int .i64 S, .int .i64 n] w fun e w' => e = .returned (.tuple #[.agg #[.int .i64 y, .int .i64 m, .int .i64 d, .int .i64 h, .int .i64 i, .int .i64 s, .int .i64 k], .int .i64 E]) ∧ Below w.heap.size w w' := by
  rcases hc with ⟨hn, rfl, rfl, rfl, rfl, rfl, rfl, rfl, rfl⟩ | ⟨n1, n2, hS, rfl, rfl, rfl, rfl, rfl, rfl, rfl, rfl⟩ | ⟨n1, n2, s1, s2, hm, y1, y2, hd, rfl, rfl, rfl, rfl, rfl⟩
  · exact rtOf_bad S n hn w
  · exact rtOf_out S n n1 n2 hS w
  · exact rtOf_any S k y m d n1 n2 s1 s2 hm y1 y2 hd w
theorem isCiv_back {y m d h i s n : Int} (hc : ckT y m d h i s n = 0) : IsCiv (nuT y m d h i s) n y m d h i s n 0 ∧ ckI (nuT y m d h i s) n = 0 := by
  obtain ⟨ok, cd, _, hm, hd⟩ := of_ckT hc
  obtain ⟨mb, y1, y2⟩ := of_ckC cd
  obtain ⟨i1, i2, i3⟩ := dn_in mb
  have a := yst_mono y1
  have b := yst_mono (show y + 1 ≤ 10000 by omega)
  have c := yst_succ y
  have e := yst_bounds
  have f := (mayB_yes mb).1
  have bd := scK_bd ok
  have hs : nuT y m d h i s = dnI y m d * 86400 + scK h i s := rfl
  have q : nuT y m d h i s / 86400 = dnI y m d ∧ nuT y m d h i s % 86400 = scK h i s := by omega
  have r1 : -377705116800 ≤ nuT y m d h i s := by omega
  have r2 : nuT y m d h i s ≤ 253402300799 := by omega
  unfold okK at ok
  refine ⟨Or.inr (Or.inr ⟨ok.2.2.2.2.2.2.1, ok.2.2.2.2.2.2.2, r1, r2, mb, y1, y2, q.1.symm, ?_, ?_, ?_, rfl, rfl⟩), ckI_ok (wmB_true ok.2.2.2.2.2.2.1 ok.2.2.2.2.2.2.2) (by omega)⟩
  · rw [q.2]; unfold scK; omega
  · rw [q.2]; unfold scK; omega
  · rw [q.2]; unfold scK; omega
def atE (y m d h i s n c k : Int) : Int := if fsI (ckT y m d h i s n) (ckD c k) ≠ 0 then fsI (ckT y m d h i s n) (ckD c k) else adE (nuT y m d h i s) n c k
def AtIs (y m d h i s n c k r0 r1 r2 r3 r4 r5 r6 E : Int) : Prop :=
  (atE y m d h i s n c k ≠ 0 ∧ r0 = 0 ∧ r1 = 0 ∧ r2 = 0 ∧ r3 = 0 ∧ r4 = 0 ∧ r5 = 0 ∧ r6 = 0 ∧ E = atE y m d h i s n c k) ∨ (atE y m d h i s n c k = 0 ∧ IsCiv (adS (nuT y m d h i s) n c k) (adN (nuT y m d h i s) n c k) r0 r1 r2 r3 r4 r5 r6 E)
theorem atIs_ex (y m d h i s n c k : Int) : ∃ r0 r1 r2 r3 r4 r5 r6 E, AtIs y m d h i s n c k r0 r1 r2 r3 r4 r5 r6 E := by
  by_cases he : atE y m d h i s n c k = 0
  · obtain ⟨r0, r1, r2, r3, r4, r5, r6, E, hc⟩ := isCiv_ex (adS (nuT y m d h i s) n c k) (adN (nuT y m d h i s) n c k)
    exact ⟨r0, r1, r2, r3, r4, r5, r6, E, Or.inr ⟨he, hc⟩⟩
  · exact ⟨0, 0, 0, 0, 0, 0, 0, _, Or.inl ⟨he, rfl, rfl, rfl, rfl, rfl, rfl, rfl, rfl⟩⟩
theorem rtAdd_is {y m d h i s n c k r0 r1 r2 r3 r4 r5 r6 E : Int} (hc : AtIs y m d h i s n c k r0 r1 r2 r3 r4 r5 r6 E) (bc : in64 c) (bk : in64 k) (w : World) :
    Calls Tryd.prog 15 #[.agg #[.int .i64 y, .int .i64 m, .int .i64 d, .int .i64 h, .int .i64 i, .int .i64 s, .int .i64 n], .agg #[.int .i64 c, .int .i64 k]] w fun e w' => e = .returned (.tuple #[.agg #[.int .i64 r0, .int .i64 r1, .int .i64 r2, .int .i64 r3, .int .i64 r4, .int .i64 r5, .int .i64 r6], .int .i64 E]) ∧ Below w.heap.size w w' := by
  by_cases h1 : fsI (ckT y m d h i s n) (ckD c k) = 0
  · have e : atE y m d h i s n c k = adE (nuT y m d h i s) n c k := if_neg (fun k => k h1)
    rcases hc with ⟨h0, rfl, rfl, rfl, rfl, rfl, rfl, rfl, rfl⟩ | ⟨h0, hc⟩
    · rw [e] at h0 ⊢
      exact rtAdd_out y m d h i s n c k h1 h0 bc bk w
    · rw [e] at h0
      exact rtAdd_any y m d h i s n c k h1 h0 bc bk r0 r1 r2 r3 r4 r5 r6 E (Lib.hid (rtOf_is hc)) w
  · have e : atE y m d h i s n c k = fsI (ckT y m d h i s n) (ckD c k) := if_pos h1
    rcases hc with ⟨h0, rfl, rfl, rfl, rfl, rfl, rfl, rfl, rfl⟩ | ⟨h0, hc⟩
    · rw [e]
      exact rtAdd_no y m d h i s n c k h1 w
    · rw [e] at h0; exact absurd h0 h1
def utE (y m d h i s n y' m' d' h' i' s' n' : Int) : Int := fsI (ckT y m d h i s n) (ckT y' m' d' h' i' s' n')
def utS (y m d h i s n y' m' d' h' i' s' n' : Int) : Int := if utE y m d h i s n y' m' d' h' i' s' n' = 0 then sbS (nuT y m d h i s) n (nuT y' m' d' h' i' s') n' else 0
def utN (y m d h i s n y' m' d' h' i' s' n' : Int) : Int := if utE y m d h i s n y' m' d' h' i' s' n' = 0 then sbN (nuT y m d h i s) n (nuT y' m' d' h' i' s') n' else 0
theorem rtSub_is (y m d h i s n y' m' d' h' i' s' n' : Int) (w : World) :
    Calls Tryd.prog 17 #[.agg #[.int .i64 y, .int .i64 m, .int .i64 d, .int .i64 h, .int .i64 i, .int .i64 s, .int .i64 n], .agg #[.int .i64 y', .int .i64 m', .int .i64 d', .int .i64 h', .int .i64 i', .int .i64 s', .int .i64 n']] w fun e w' => e = .returned (.tuple #[.agg #[.int .i64 (utS y m d h i s n y' m' d' h' i' s' n'), .int .i64 (utN y m d h i s n y' m' d' h' i' s' n')], .int .i64 (utE y m d h i s n y' m' d' h' i' s' n')]) ∧ Below w.heap.size w w' := by
  by_cases hc : utE y m d h i s n y' m' d' h' i' s' n' = 0
  · have X := rtSub_any y m d h i s n y' m' d' h' i' s' n' hc w
    obtain ⟨c1, c2⟩ := fsI_none hc
    rw [(isCiv_back c1).2, (isCiv_back c2).2, show fsI 0 0 = 0 by unfold fsI; rfl] at X
    unfold utS utN
    rw [if_pos hc, if_pos hc, hc]
    exact X
  · unfold utS utN
    rw [if_neg hc, if_neg hc]
    exact rtSub_no y m d h i s n y' m' d' h' i' s' n' hc w
theorem ordT_ord2 {y m d h i s n y' m' d' h' i' s' n' : Int} (ha : ckT y m d h i s n = 0) (hb : ckT y' m' d' h' i' s' n' = 0) :
    ordT y m d h i s n y' m' d' h' i' s' n' = ord2 (nuT y m d h i s) n (nuT y' m' d' h' i' s') n' := by
  obtain ⟨ok, cd, _, _, _⟩ := of_ckT ha
  obtain ⟨ok', cd', _, _, _⟩ := of_ckT hb
  obtain ⟨mb, _, _⟩ := of_ckC cd
  obtain ⟨mb', _, _⟩ := of_ckC cd'
  have bd := scK_bd ok
  have bd' := scK_bd ok'
  have hs : nuT y m d h i s = dnI y m d * 86400 + scK h i s := rfl
  have hs' : nuT y' m' d' h' i' s' = dnI y' m' d' * 86400 + scK h' i' s' := rfl
  rw [ord2_of]
  unfold ordT
  rcases ord3_three y m d y' m' d' with hl | hl | ⟨rfl, rfl, rfl⟩
  · rw [(ord3_lt hl).1]
    have := dn_lt mb mb' hl
    rw [if_neg (by decide), if_neg (by omega), if_pos (by omega)]
  · rw [(ord3_lt hl).2]
    have := dn_lt mb' mb hl
    rw [if_neg (by decide), if_neg (by omega), if_neg (by omega), if_pos (by omega)]
  · rw [if_pos (ord3_self y m d), ord2_of, ord2_of]
    unfold okK at ok ok'
    unfold nuT scK
    repeat' split
    all_goals omega
end Go.Proofs.YtaoljjhhbmblhaaDoor
namespace Go.Proofs.YtaoljjhhbmblhaaDoor
set_option linter.unusedVariables false
set_option linter.unusedSimpArgs false
open Go.ChangeShapes Go.WideShapes Go.ChangeAt Go.RowKit
def or2 (x y : Int) : Int := if x = 0 then y else x
set_option maxHeartbeats 1600000 in
set_option maxRecDepth 100000 in
theorem or2_any (x y : Int) (b : Nat) (w : World) (c0 : w.cell? ⟨b, 0, none⟩ = some (.int .i64 x)) (c1 : w.cell? ⟨b, 1, none⟩ = some (.int .i64 y)) :
    Calls Tryd.prog 25 #[.slice (some ⟨b, 0, none⟩) 2 2] w fun e w' => e = .returned (.int .i64 (or2 x y)) ∧ Below w.heap.size w w' := by
  by_cases h1 : x = 0
  · subst h1
    have E := Lib.hid (show or2 0 y = y from rfl)
    by_cases h2 : y = 0
    · subst h2
      go_enter Tryd.func25, Tryd.ntmps25
      go_wp2
      refine wp_loop_rounds 3 ?_
      rw [rounds_succ]
      go_wp2
      rw [rounds_succ]
      go_wp2
      rw [rounds_succ]
      go_wp2
      go_ret
      exact ⟨by rw [E.out]; try rfl, Below.refl _ _⟩
    · have f3 : (y != 0) = true := by rw [bne_iff_ne]; exact h2
      clear h2
      go_enter Tryd.func25, Tryd.ntmps25
      go_wp2
      refine wp_loop_rounds 3 ?_
      rw [rounds_succ]
      go_wp2
      rw [rounds_succ]
      go_wp2
      go_ret
      exact ⟨by rw [E.out]; try rfl, Below.refl _ _⟩
  · have E := Lib.hid (show or2 x y = x from by unfold or2; exact if_neg h1)
    have f3 : (x != 0) = true := by rw [bne_iff_ne]; exact h1
    clear h1
    go_enter Tryd.func25, Tryd.ntmps25
    go_wp2
    refine wp_loop_rounds 3 ?_
    rw [rounds_succ]
    go_wp2
    go_ret
    exact ⟨by rw [E.out]; try rfl, Below.refl _ _⟩
theorem ckT_pos (y m d h i s n : Int) : 0 ≤ ckT y m d h i s n := by
  by_cases k : ckK h i s n = 0
  · rw [ckT_ok k]; unfold ckC; repeat' split
    all_goals omega
  · rw [ckT_no k]; rcases ckK_two h i s n with e | e <;> omega
theorem or2_ckT (y m d h i s n : Int) : or2 (ckK h i s n) (ckC y m d) = ckT y m d h i s n := by
  unfold or2
  by_cases k : ckK h i s n = 0
  · rw [if_pos k, ckT_ok k]
  · rw [if_neg k, ckT_no k]
set_option maxHeartbeats 1600000 in
set_option maxRecDepth 100000 in
theorem ptCheck_any (y m d h i s n : Int) (w : World) (hM : TB w) : Calls Tryd.prog 11 #[.agg #[.int .i64 y, .int .i64 m, .int .i64 d, .int .i64 h, .int .i64 i, .int .i64 s, .int .i64 n]] w fun e w' => e = .returned (.int .i64 (ckT y m d h i s n)) ∧ Below w.heap.size w w' := by
  have H1 := Lib.hid (fun w (hM : TB w) => pkCheck_any h i s n w hM.sz)
  have H2 := Lib.hid (fun w (hM : TB w) => pCheck_any y m d w hM.md)
  have X3 := or2_any (ckK h i s n) (ckC y m d)
  rw [or2_ckT] at X3
  have H3 := Lib.hid X3
  clear X3
  generalize ckT y m d h i s n = E at *
  generalize ckK h i s n = c1 at *
  generalize ckC y m d = c2 at *
  replace hM := Lib.hid hM
  go_enter Tryd.func11, Tryd.ntmps11
  go_wp2_with fail
  
  obtain ⟨W0, hW0⟩ : ∃ W0, W0 = (w.alloc (Obj.cells #[Value.int .i64 y, Value.int .i64 m, Value.int .i64 d, Value.int .i64 h, Value.int .i64 i, Value.int .i64 s, Value.int .i64 n] 27)) := ⟨_, rfl⟩
  have A1 := Lib.hid (row_at (k' := w.heap.size) (by simp) (row_by hW0 (heap_alloc_new _ _)))
  have HB0 := Lib.hid (below_by hW0 ((Below.refl w.heap.size w).alloc (by simp <;> omega) _))
  have HW0 := Lib.hid hW0
  clear hW0
  have A1_0 : W0.cell? ⟨w.heap.size, 0, none⟩ = some (.int .i64 y) := cell_of_row _ _ _ _ _ _ A1.out
  have A1_1 : W0.cell? ⟨w.heap.size, 1, none⟩ = some (.int .i64 m) := cell_of_row _ _ _ _ _ _ A1.out
  have A1_2 : W0.cell? ⟨w.heap.size, 2, none⟩ = some (.int .i64 d) := cell_of_row _ _ _ _ _ _ A1.out
  have A1_3 : W0.cell? ⟨w.heap.size, 3, none⟩ = some (.int .i64 h) := cell_of_row _ _ _ _ _ _ A1.out
  have A1_4 : W0.cell? ⟨w.heap.size, 4, none⟩ = some (.int .i64 i) := cell_of_row _ _ _ _ _ _ A1.out
  have A1_5 : W0.cell? ⟨w.heap.size, 5, none⟩ = some (.int .i64 s) := cell_of_row _ _ _ _ _ _ A1.out
  have A1_6 : W0.cell? ⟨w.heap.size, 6, none⟩ = some (.int .i64 n) := cell_of_row _ _ _ _ _ _ A1.out
  have zA1 := lt_of_heap A1.out
  try rw [← HW0.out]
  go_cut [2] (fun s2 wx => s2 = .int .i64 E ∧ Below W0.heap.size W0 wx)
  case first =>
    go_region_held3 (fun w' => Below W0.heap.size W0 w' ∧ w'.cell? ⟨w.heap.size, 0, none⟩ = some (.int .i64 y) ∧ w'.cell? ⟨w.heap.size, 1, none⟩ = some (.int .i64 m) ∧ w'.cell? ⟨w.heap.size, 2, none⟩ = some (.int .i64 d) ∧ w'.cell? ⟨w.heap.size, 3, none⟩ = some (.int .i64 h) ∧ w'.cell? ⟨w.heap.size, 4, none⟩ = some (.int .i64 i) ∧ w'.cell? ⟨w.heap.size, 5, none⟩ = some (.int .i64 s) ∧ w'.cell? ⟨w.heap.size, 6, none⟩ = some (.int .i64 n))
    (first
      | ((try go_split_ands); refine ⟨(Below.refl _ _).drew, ?_, ?_, ?_, ?_, ?_, ?_, ?_⟩ <;> first | assumption | (rw [World.cell?_drew]; assumption))
      | ((try go_split_ands); refine ⟨keepS (W0 := W0) ?_ hb1, cellS (W0 := W0) ?_ hb1 ?_ ?_, cellS (W0 := W0) ?_ hb1 ?_ ?_, cellS (W0 := W0) ?_ hb1 ?_ ?_, cellS (W0 := W0) ?_ hb1 ?_ ?_, cellS (W0 := W0) ?_ hb1 ?_ ?_, cellS (W0 := W0) ?_ hb1 ?_ ?_, cellS (W0 := W0) ?_ hb1 ?_ ?_⟩ <;> first | assumption | omega)
      | ((try go_split_ands); refine ⟨keepA (W0 := W0) ?_ _, cellA (W0 := W0) ?_ _ ?_ ?_, cellA (W0 := W0) ?_ _ ?_ ?_, cellA (W0 := W0) ?_ _ ?_ ?_, cellA (W0 := W0) ?_ _ ?_ ?_, cellA (W0 := W0) ?_ _ ?_ ?_, cellA (W0 := W0) ?_ _ ?_ ?_, cellA (W0 := W0) ?_ _ ?_ ?_⟩ <;> first | assumption | omega)
      | ((try go_split_ands); refine ⟨keepAd (W0 := W0) ?_ _, cellAd (W0 := W0) ?_ _ ?_ ?_, cellAd (W0 := W0) ?_ _ ?_ ?_, cellAd (W0 := W0) ?_ _ ?_ ?_, cellAd (W0 := W0) ?_ _ ?_ ?_, cellAd (W0 := W0) ?_ _ ?_ ?_, cellAd (W0 := W0) ?_ _ ?_ ?_, cellAd (W0 := W0) ?_ _ ?_ ?_⟩ <;> first | assumption | omega | exact Below.refl _ _)
      | ((try go_split_ands); (with_reducible refine ⟨keep3 (W0 := W0) ?_ ?_ _ _ _, cell3 (W0 := W0) ?_ _ _ _ ?_ ?_, cell3 (W0 := W0) ?_ _ _ _ ?_ ?_, cell3 (W0 := W0) ?_ _ _ _ ?_ ?_, cell3 (W0 := W0) ?_ _ _ _ ?_ ?_, cell3 (W0 := W0) ?_ _ _ _ ?_ ?_, cell3 (W0 := W0) ?_ _ _ _ ?_ ?_, cell3 (W0 := W0) ?_ _ _ _ ?_ ?_⟩) <;> first | assumption | omega | exact Nat.le_refl _)
      | ((try go_split_ands); refine ⟨keep2 (W0 := W0) ?_ ?_ _ _, cell2 (W0 := W0) ?_ _ _ ?_ ?_, cell2 (W0 := W0) ?_ _ _ ?_ ?_, cell2 (W0 := W0) ?_ _ _ ?_ ?_, cell2 (W0 := W0) ?_ _ _ ?_ ?_, cell2 (W0 := W0) ?_ _ _ ?_ ?_, cell2 (W0 := W0) ?_ _ _ ?_ ?_, cell2 (W0 := W0) ?_ _ _ ?_ ?_⟩ <;> first | assumption | omega | exact Nat.le_refl _)
      | ((try go_split_ands); refine ⟨keepZ (W0 := W0) ?_ ?_ _, cellZ (W0 := W0) ?_ _ ?_ ?_, cellZ (W0 := W0) ?_ _ ?_ ?_, cellZ (W0 := W0) ?_ _ ?_ ?_, cellZ (W0 := W0) ?_ _ ?_ ?_, cellZ (W0 := W0) ?_ _ ?_ ?_, cellZ (W0 := W0) ?_ _ ?_ ?_, cellZ (W0 := W0) ?_ _ ?_ ?_⟩ <;> first | assumption | omega | exact Nat.le_refl _ | exact ⟨_, by assumption⟩))
    (first | (go_at_call 26; refine (H1.out _ (by first | exact tb_keep (Lib.hid (tb_keep hM HB0.out)) (by assumption) | exact tb_keep (Lib.hid (tb_keep hM HB0.out)) (by (try go_split_ands); assumption) | exact tb_keep (Lib.hid (tb_keep hM HB0.out)) (Below.refl _ _).drew)).mono ?_; rintro e w1 ⟨rfl, hb1⟩; (try go_split_ands); have hge : W0.heap.size ≤ w1.heap.size := (by first | (refine (keepS (W0 := W0) ?_ hb1).size; assumption) | exact (hb1.size : W0.heap.size ≤ w1.heap.size)); (try have hrow := row_call hb1 hrow); (try have hrow := row_new hb1); (try have hrow := row_newd hb1); have hl1 := lt_below hb1; obtain ⟨hc1, hf1⟩ := bcell hb1; (try (have hrc := row_cellA hrow; clear hc1 hf1)); (try have hrf := row_frozA hrow)) | (go_at_call 27; refine (H2.out _ (by first | exact tb_keep (Lib.hid (tb_keep hM HB0.out)) (by assumption) | exact tb_keep (Lib.hid (tb_keep hM HB0.out)) (by (try go_split_ands); assumption) | exact tb_keep (Lib.hid (tb_keep hM HB0.out)) (Below.refl _ _).drew)).mono ?_; rintro e w1 ⟨rfl, hb1⟩; (try go_split_ands); have hge : W0.heap.size ≤ w1.heap.size := (by first | (refine (keepS (W0 := W0) ?_ hb1).size; assumption) | exact (hb1.size : W0.heap.size ≤ w1.heap.size)); (try have hrow := row_call hb1 hrow); (try have hrow := row_new hb1); (try have hrow := row_newd hb1); have hl1 := lt_below hb1; obtain ⟨hc1, hf1⟩ := bcell hb1; (try (have hrc := row_cellA hrow; clear hc1 hf1)); (try have hrf := row_frozA hrow)) | (go_at_call 25; refine (H3.out _ _ (by simp [go_sem]) (by simp [go_sem])).mono ?_; rintro e w1 ⟨rfl, hb1⟩; (try go_split_ands); have hge : W0.heap.size ≤ w1.heap.size := (by first | (refine (keepS (W0 := W0) ?_ hb1).size; assumption) | exact (hb1.size : W0.heap.size ≤ w1.heap.size)); (try have hrow := row_call hb1 hrow); (try have hrow := row_new hb1); (try have hrow := row_newd hb1); have hl1 := lt_below hb1; obtain ⟨hc1, hf1⟩ := bcell hb1; (try (have hrc := row_cellA hrow; clear hc1 hf1)); (try have hrf := row_frozA hrow)))
    all_goals (try go_split_ands)
    all_goals (go_wp2_with fail; go_meet; refine ⟨rfl, ?_⟩)
    all_goals first | (with_reducible assumption) | (with_reducible exact heap_alloc_new _ _) | (with_reducible exact row_set3 (by assumption) _ _ _) | assumption | exact heap_alloc_new _ _ | exact row_set (by assumption) _ _
  case rest =>
    obtain ⟨rfl, hB⟩ := hcut
    obtain ⟨V1, rfl⟩ : ∃ V, V = wc := ⟨_, rfl⟩
    clear A1_0 A1_1 A1_2 A1_3 A1_4 A1_5 A1_6 zA1
    replace A1 := Lib.hid (row_call hB A1.out)
    have B1 := Lib.hid (HB0.out.trans (hB.mono HB0.out.size))
    clear hB
    have A1_0 : V1.cell? ⟨w.heap.size, 0, none⟩ = some (.int .i64 y) := cell_of_row _ _ _ _ _ _ A1.out
    have A1_1 : V1.cell? ⟨w.heap.size, 1, none⟩ = some (.int .i64 m) := cell_of_row _ _ _ _ _ _ A1.out
    have A1_2 : V1.cell? ⟨w.heap.size, 2, none⟩ = some (.int .i64 d) := cell_of_row _ _ _ _ _ _ A1.out
    have A1_3 : V1.cell? ⟨w.heap.size, 3, none⟩ = some (.int .i64 h) := cell_of_row _ _ _ _ _ _ A1.out
    have A1_4 : V1.cell? ⟨w.heap.size, 4, none⟩ = some (.int .i64 i) := cell_of_row _ _ _ _ _ _ A1.out
    have A1_5 : V1.cell? ⟨w.heap.size, 5, none⟩ = some (.int .i64 s) := cell_of_row _ _ _ _ _ _ A1.out
    have A1_6 : V1.cell? ⟨w.heap.size, 6, none⟩ = some (.int .i64 n) := cell_of_row _ _ _ _ _ _ A1.out
    have zA1 := lt_of_heap A1.out
    go_wp2
    go_ret
    exact ⟨rfl, B1.out⟩
@[irreducible] def rdD (y m d h i s n : Int) : Int := if ckT y m d h i s n = 0 then dnI y m d else 0
@[irreducible] def rdN (y m d h i s n : Int) : Int := if ckT y m d h i s n = 0 then scK h i s * 1000000000 + n else 0
theorem rd_ok {y m d h i s n : Int} (k : ckT y m d h i s n = 0) : rdD y m d h i s n = dnI y m d ∧ rdN y m d h i s n = scK h i s * 1000000000 + n := by unfold rdD rdN; exact ⟨if_pos k, if_pos k⟩
theorem rd_no {y m d h i s n : Int} (k : ckT y m d h i s n ≠ 0) : rdD y m d h i s n = 0 ∧ rdN y m d h i s n = 0 := by unfold rdD rdN; exact ⟨if_neg k, if_neg k⟩
theorem ckT_both {y m d h i s n : Int} (k : ckT y m d h i s n = 0) : ckK h i s n = 0 ∧ ckC y m d = 0 := by
  obtain ⟨a, b, _⟩ := of_ckT k
  exact ⟨ckK_ok a, b⟩
theorem dyV_ok {y m d : Int} (k : ckC y m d = 0) : dyV y m d = dnI y m d := by unfold dyV; exact if_pos k
set_option maxHeartbeats 1600000 in
set_option maxRecDepth 100000 in
theorem pRead_any (y m d h i s n : Int) (w : World) (hM : TB w) : Calls Tryd.prog 20 #[.agg #[.int .i64 y, .int .i64 m, .int .i64 d, .int .i64 h, .int .i64 i, .int .i64 s, .int .i64 n]] w fun e w' => e = .returned (.tuple #[.agg #[.int .i64 (rdD y m d h i s n), .int .i64 (rdN y m d h i s n)], .int .i64 (ckT y m d h i s n)]) ∧ Below w.heap.size w w' := by
  have X1 := ptCheck_any y m d h i s n
  by_cases hc : ckT y m d h i s n = 0
  · obtain ⟨k1, k2⟩ := ckT_both hc
    have X2 := fun w (hM : TB w) => pDays_any y m d w hM.md
    have X3 := fun w (hM : TB w) => pkNanos_any h i s n w hM.sz
    simp only [dyV_ok k2, k2] at X2
    simp only [nnK_ok k1, k1] at X3
    rw [(rd_ok hc).1, (rd_ok hc).2, hc]
    rw [hc] at X1
    have H1 := Lib.hid X1
    have H2 := Lib.hid X2
    have H3 := Lib.hid X3
    clear X1 X2 X3 hc k1 k2
    generalize dnI y m d = D at *
    generalize scK h i s * 1000000000 + n = N at *
    replace hM := Lib.hid hM
    go_enter Tryd.func20, Tryd.ntmps20
    refine wp_shut ?_
    go_wp2_with fail
    
    refine (H1.out _ (by first | exact tb_keep hM (((Below.refl w.heap.size w).alloc (Nat.le_refl _) _).alloc (by simp <;> omega) _))).mono ?_
    rintro e V1 ⟨rfl, hb1⟩
    have B1 := Lib.hid ((((Below.refl w.heap.size w).alloc (Nat.le_refl _) _).alloc (by simp <;> omega) _).trans (hb1.mono (by first | assumption | (simp <;> omega) | (simp; done))))
    have A1 := Lib.hid (row_call hb1 (row_alloc (heap_alloc_new _ _) _))
    have Z1 := Lib.hid (row_at (k' := w.heap.size + 1) (by simp) (row_call hb1 (heap_alloc_new _ _)))
    clear hb1
    have A1_0 : V1.cell? ⟨w.heap.size, 0, none⟩ = some (.int .i64 y) := cell_of_row _ _ _ _ _ _ A1.out
    have A1_1 : V1.cell? ⟨w.heap.size, 1, none⟩ = some (.int .i64 m) := cell_of_row _ _ _ _ _ _ A1.out
    have A1_2 : V1.cell? ⟨w.heap.size, 2, none⟩ = some (.int .i64 d) := cell_of_row _ _ _ _ _ _ A1.out
    have A1_3 : V1.cell? ⟨w.heap.size, 3, none⟩ = some (.int .i64 h) := cell_of_row _ _ _ _ _ _ A1.out
    have A1_4 : V1.cell? ⟨w.heap.size, 4, none⟩ = some (.int .i64 i) := cell_of_row _ _ _ _ _ _ A1.out
    have A1_5 : V1.cell? ⟨w.heap.size, 5, none⟩ = some (.int .i64 s) := cell_of_row _ _ _ _ _ _ A1.out
    have A1_6 : V1.cell? ⟨w.heap.size, 6, none⟩ = some (.int .i64 n) := cell_of_row _ _ _ _ _ _ A1.out
    have Z1_0 : V1.cell? ⟨w.heap.size + 1, 0, none⟩ = some (.int .i64 0) := cell_of_row _ _ _ _ _ _ Z1.out
    have Z1_1 : V1.cell? ⟨w.heap.size + 1, 1, none⟩ = some (.int .i64 0) := cell_of_row _ _ _ _ _ _ Z1.out
    have Z1_f0 : V1.frozen? ⟨w.heap.size + 1, 0, none⟩ = false := by simp [World.frozen?, Z1.out]
    have Z1_f1 : V1.frozen? ⟨w.heap.size + 1, 1, none⟩ = false := by simp [World.frozen?, Z1.out]
    have zA1 := lt_of_heap A1.out
    have zZ1 := lt_of_heap Z1.out
    go_simp
    go_wp2_with fail
    refine (H2.out _ (by first | exact tb_keep hM (B1.out) | exact tb_keep hM ((B1.out).alloc (B1.out.size) _) | exact tb_keep hM (((B1.out).alloc (B1.out.size) _).alloc (by have := B1.out.size; simp <;> omega) _) | exact tb_keep hM ((((B1.out).alloc (B1.out.size) _).alloc (by have := B1.out.size; simp <;> omega) _).alloc (by have := B1.out.size; simp <;> omega) _))).mono ?_
    rintro e V2 ⟨rfl, hb2⟩
    clear A1_0 A1_1 A1_2 A1_3 A1_4 A1_5 A1_6 zA1 Z1_0 Z1_1 Z1_f0 Z1_f1 zZ1
    have B2 : Hid (Below w.heap.size w V2) := by first | exact Lib.hid ((B1.out).trans (hb2.mono (by have := B1.out.size; first | assumption | (simp <;> omega) | (simp; done)))) | exact Lib.hid (((B1.out).alloc (B1.out.size) _).trans (hb2.mono (by have := B1.out.size; first | assumption | (simp <;> omega) | (simp; done)))) | exact Lib.hid ((((B1.out).alloc (B1.out.size) _).alloc (by have := B1.out.size; simp <;> omega) _).trans (hb2.mono (by have := B1.out.size; first | assumption | (simp <;> omega) | (simp; done)))) | exact Lib.hid (((((B1.out).alloc (B1.out.size) _).alloc (by have := B1.out.size; simp <;> omega) _).alloc (by have := B1.out.size; simp <;> omega) _).trans (hb2.mono (by have := B1.out.size; first | assumption | (simp <;> omega) | (simp; done))))
    first | replace A1 := Lib.hid (row_call hb2 A1.out) | replace A1 := Lib.hid (row_call hb2 (row_alloc A1.out _)) | replace A1 := Lib.hid (row_call hb2 (row_alloc (row_alloc A1.out _) _)) | replace A1 := Lib.hid (row_call hb2 (row_alloc (row_alloc (row_alloc A1.out _) _) _))
    first | replace Z1 := Lib.hid (row_call hb2 Z1.out) | replace Z1 := Lib.hid (row_call hb2 (row_alloc Z1.out _)) | replace Z1 := Lib.hid (row_call hb2 (row_alloc (row_alloc Z1.out _) _)) | replace Z1 := Lib.hid (row_call hb2 (row_alloc (row_alloc (row_alloc Z1.out _) _) _))
    clear hb2
    have A1_0 : V2.cell? ⟨w.heap.size, 0, none⟩ = some (.int .i64 y) := cell_of_row _ _ _ _ _ _ A1.out
    have A1_1 : V2.cell? ⟨w.heap.size, 1, none⟩ = some (.int .i64 m) := cell_of_row _ _ _ _ _ _ A1.out
    have A1_2 : V2.cell? ⟨w.heap.size, 2, none⟩ = some (.int .i64 d) := cell_of_row _ _ _ _ _ _ A1.out
    have A1_3 : V2.cell? ⟨w.heap.size, 3, none⟩ = some (.int .i64 h) := cell_of_row _ _ _ _ _ _ A1.out
    have A1_4 : V2.cell? ⟨w.heap.size, 4, none⟩ = some (.int .i64 i) := cell_of_row _ _ _ _ _ _ A1.out
    have A1_5 : V2.cell? ⟨w.heap.size, 5, none⟩ = some (.int .i64 s) := cell_of_row _ _ _ _ _ _ A1.out
    have A1_6 : V2.cell? ⟨w.heap.size, 6, none⟩ = some (.int .i64 n) := cell_of_row _ _ _ _ _ _ A1.out
    have Z1_0 : V2.cell? ⟨w.heap.size + 1, 0, none⟩ = some (.int .i64 0) := cell_of_row _ _ _ _ _ _ Z1.out
    have Z1_1 : V2.cell? ⟨w.heap.size + 1, 1, none⟩ = some (.int .i64 0) := cell_of_row _ _ _ _ _ _ Z1.out
    have Z1_f0 : V2.frozen? ⟨w.heap.size + 1, 0, none⟩ = false := by simp [World.frozen?, Z1.out]
    have Z1_f1 : V2.frozen? ⟨w.heap.size + 1, 1, none⟩ = false := by simp [World.frozen?, Z1.out]
    have zA1 := lt_of_heap A1.out
    have zZ1 := lt_of_heap Z1.out
    go_simp
    go_wp2_with fail
    refine (H3.out _ (by first | exact tb_keep hM (B2.out) | exact tb_keep hM ((B2.out).alloc (B2.out.size) _) | exact tb_keep hM (((B2.out).alloc (B2.out.size) _).alloc (by have := B2.out.size; simp <;> omega) _) | exact tb_keep hM ((((B2.out).alloc (B2.out.size) _).alloc (by have := B2.out.size; simp <;> omega) _).alloc (by have := B2.out.size; simp <;> omega) _))).mono ?_
    rintro e V3 ⟨rfl, hb3⟩
    clear A1_0 A1_1 A1_2 A1_3 A1_4 A1_5 A1_6 zA1 Z1_0 Z1_1 Z1_f0 Z1_f1 zZ1
    have B3 : Hid (Below w.heap.size w V3) := by first | exact Lib.hid ((B2.out).trans (hb3.mono (by have := B2.out.size; first | assumption | (simp <;> omega) | (simp; done)))) | exact Lib.hid (((B2.out).alloc (B2.out.size) _).trans (hb3.mono (by have := B2.out.size; first | assumption | (simp <;> omega) | (simp; done)))) | exact Lib.hid ((((B2.out).alloc (B2.out.size) _).alloc (by have := B2.out.size; simp <;> omega) _).trans (hb3.mono (by have := B2.out.size; first | assumption | (simp <;> omega) | (simp; done)))) | exact Lib.hid (((((B2.out).alloc (B2.out.size) _).alloc (by have := B2.out.size; simp <;> omega) _).alloc (by have := B2.out.size; simp <;> omega) _).trans (hb3.mono (by have := B2.out.size; first | assumption | (simp <;> omega) | (simp; done))))
    first | replace A1 := Lib.hid (row_call hb3 A1.out) | replace A1 := Lib.hid (row_call hb3 (row_alloc A1.out _)) | replace A1 := Lib.hid (row_call hb3 (row_alloc (row_alloc A1.out _) _)) | replace A1 := Lib.hid (row_call hb3 (row_alloc (row_alloc (row_alloc A1.out _) _) _))
    first | replace Z1 := Lib.hid (row_call hb3 Z1.out) | replace Z1 := Lib.hid (row_call hb3 (row_alloc Z1.out _)) | replace Z1 := Lib.hid (row_call hb3 (row_alloc (row_alloc Z1.out _) _)) | replace Z1 := Lib.hid (row_call hb3 (row_alloc (row_alloc (row_alloc Z1.out _) _) _))
    clear hb3
    have A1_0 : V3.cell? ⟨w.heap.size, 0, none⟩ = some (.int .i64 y) := cell_of_row _ _ _ _ _ _ A1.out
    have A1_1 : V3.cell? ⟨w.heap.size, 1, none⟩ = some (.int .i64 m) := cell_of_row _ _ _ _ _ _ A1.out
    have A1_2 : V3.cell? ⟨w.heap.size, 2, none⟩ = some (.int .i64 d) := cell_of_row _ _ _ _ _ _ A1.out
    have A1_3 : V3.cell? ⟨w.heap.size, 3, none⟩ = some (.int .i64 h) := cell_of_row _ _ _ _ _ _ A1.out
    have A1_4 : V3.cell? ⟨w.heap.size, 4, none⟩ = some (.int .i64 i) := cell_of_row _ _ _ _ _ _ A1.out
    have A1_5 : V3.cell? ⟨w.heap.size, 5, none⟩ = some (.int .i64 s) := cell_of_row _ _ _ _ _ _ A1.out
    have A1_6 : V3.cell? ⟨w.heap.size, 6, none⟩ = some (.int .i64 n) := cell_of_row _ _ _ _ _ _ A1.out
    have Z1_0 : V3.cell? ⟨w.heap.size + 1, 0, none⟩ = some (.int .i64 0) := cell_of_row _ _ _ _ _ _ Z1.out
    have Z1_1 : V3.cell? ⟨w.heap.size + 1, 1, none⟩ = some (.int .i64 0) := cell_of_row _ _ _ _ _ _ Z1.out
    have Z1_f0 : V3.frozen? ⟨w.heap.size + 1, 0, none⟩ = false := by simp [World.frozen?, Z1.out]
    have Z1_f1 : V3.frozen? ⟨w.heap.size + 1, 1, none⟩ = false := by simp [World.frozen?, Z1.out]
    have zA1 := lt_of_heap A1.out
    have zZ1 := lt_of_heap Z1.out
    go_simp
    go_wp2
    refine shut_ret (v := .tuple #[.agg #[.int .i64 D, .int .i64 N], .int .i64 0]) (by simp [results, Tryd.results20, go_sem, zZ1, Z1_0, Z1_1]) rfl ⟨rfl, ?_⟩
    exact keep2 B3.out (by omega) _ _
  · rw [(rd_no hc).1, (rd_no hc).2]
    have H1 := Lib.hid X1
    clear X1
    generalize ckT y m d h i s n = E at *
    have f1 : (E != 0) = true := by rw [bne_iff_ne]; exact hc
    replace hM := Lib.hid hM
    go_enter Tryd.func20, Tryd.ntmps20
    refine wp_shut ?_
    go_wp2_with fail
    
    refine (H1.out _ (by first | exact tb_keep hM (((Below.refl w.heap.size w).alloc (Nat.le_refl _) _).alloc (by simp <;> omega) _))).mono ?_
    rintro e V1 ⟨rfl, hb1⟩
    have B1 := Lib.hid ((((Below.refl w.heap.size w).alloc (Nat.le_refl _) _).alloc (by simp <;> omega) _).trans (hb1.mono (by first | assumption | (simp <;> omega) | (simp; done))))
    have A1 := Lib.hid (row_call hb1 (row_alloc (heap_alloc_new _ _) _))
    have Z1 := Lib.hid (row_at (k' := w.heap.size + 1) (by simp) (row_call hb1 (heap_alloc_new _ _)))
    clear hb1
    have A1_0 : V1.cell? ⟨w.heap.size, 0, none⟩ = some (.int .i64 y) := cell_of_row _ _ _ _ _ _ A1.out
    have A1_1 : V1.cell? ⟨w.heap.size, 1, none⟩ = some (.int .i64 m) := cell_of_row _ _ _ _ _ _ A1.out
    have A1_2 : V1.cell? ⟨w.heap.size, 2, none⟩ = some (.int .i64 d) := cell_of_row _ _ _ _ _ _ A1.out
    have A1_3 : V1.cell? ⟨w.heap.size, 3, none⟩ = some (.int .i64 h) := cell_of_row _ _ _ _ _ _ A1.out
    have A1_4 : V1.cell? ⟨w.heap.size, 4, none⟩ = some (.int .i64 i) := cell_of_row _ _ _ _ _ _ A1.out
    have A1_5 : V1.cell? ⟨w.heap.size, 5, none⟩ = some (.int .i64 s) := cell_of_row _ _ _ _ _ _ A1.out
    have A1_6 : V1.cell? ⟨w.heap.size, 6, none⟩ = some (.int .i64 n) := cell_of_row _ _ _ _ _ _ A1.out
    have Z1_0 : V1.cell? ⟨w.heap.size + 1, 0, none⟩ = some (.int .i64 0) := cell_of_row _ _ _ _ _ _ Z1.out
    have Z1_1 : V1.cell? ⟨w.heap.size + 1, 1, none⟩ = some (.int .i64 0) := cell_of_row _ _ _ _ _ _ Z1.out
    have Z1_f0 : V1.frozen? ⟨w.heap.size + 1, 0, none⟩ = false := by simp [World.frozen?, Z1.out]
    have Z1_f1 : V1.frozen? ⟨w.heap.size + 1, 1, none⟩ = false := by simp [World.frozen?, Z1.out]
    have zA1 := lt_of_heap A1.out
    have zZ1 := lt_of_heap Z1.out
    go_simp
    go_wp2
    refine shut_ret (v := .tuple #[.agg #[.int .i64 0, .int .i64 0], .int .i64 E]) (by simp [results, Tryd.results20, go_sem, zZ1, Z1_0, Z1_1]) rfl ⟨rfl, ?_⟩
    exact keep2 B1.out (by omega) _ _
theorem pMid_any (D : Int) (b1 : -2000000000 ≤ D) (b2 : D ≤ 2000000000) (w : World) : Calls Tryd.prog 39 #[.int .i64 D] w fun e w' => e = .returned (.int .i64 (D * 86400)) ∧ Below w.heap.size w w' := by
  have g1 : IntKind.i64.wrap (D * 86400) = D * 86400 := by rw [IntKind.wrap_i64]; omega
  clear b1 b2
  go_enter Tryd.func39, Tryd.ntmps39
  go_wp2
  go_ret
  exact ⟨rfl, Below.refl _ _⟩
theorem pLater_any (D n : Int) (b1 : in64 (D + n)) (w : World) : Calls Tryd.prog 32 #[.int .i64 D, .int .i64 n] w fun e w' => e = .returned (.int .i64 (D + n)) ∧ Below w.heap.size w w' := by
  have g1 : IntKind.i64.wrap (D + n) = D + n := by unfold in64 at b1; rw [IntKind.wrap_i64]; omega
  clear b1
  go_enter Tryd.func32, Tryd.ntmps32
  go_wp2
  go_ret
  exact ⟨rfl, Below.refl _ _⟩
set_option maxHeartbeats 1600000 in
set_option maxRecDepth 100000 in
theorem pDate_is {n Y M D E : Int} (hd : IsDate n Y M D E) (w : World) (hM : TB w) : Calls Tryd.prog 33 #[.int .i64 n] w fun e w' => e = .returned (.tuple #[.agg #[.int .i64 Y, .int .i64 M, .int .i64 D], .int .i64 E]) ∧ Below w.heap.size w w' := by
  have H1 := Lib.hid (fun w (hM : TB w) => pDateOf_is hd w hM.md)
  clear hd
  replace hM := Lib.hid hM
  go_enter Tryd.func33, Tryd.ntmps33
  refine wp_shut ?_
  go_wp2_with fail
  
  refine (H1.out _ (by first | exact tb_keep hM ((Below.refl w.heap.size w).alloc (Nat.le_refl _) _))).mono ?_
  rintro e V1 ⟨rfl, hb1⟩
  have B1 := Lib.hid (((Below.refl w.heap.size w).alloc (Nat.le_refl _) _).trans (hb1.mono (by first | assumption | (simp <;> omega) | (simp; done))))
  have Z1 := Lib.hid (row_call hb1 (heap_alloc_new _ _))
  clear hb1
  have Z1_0 : V1.cell? ⟨w.heap.size, 0, none⟩ = some (.int .i64 0) := cell_of_row _ _ _ _ _ _ Z1.out
  have Z1_1 : V1.cell? ⟨w.heap.size, 1, none⟩ = some (.int .i64 0) := cell_of_row _ _ _ _ _ _ Z1.out
  have Z1_2 : V1.cell? ⟨w.heap.size, 2, none⟩ = some (.int .i64 0) := cell_of_row _ _ _ _ _ _ Z1.out
  have Z1_f0 : V1.frozen? ⟨w.heap.size, 0, none⟩ = false := by simp [World.frozen?, Z1.out]
  have Z1_f1 : V1.frozen? ⟨w.heap.size, 1, none⟩ = false := by simp [World.frozen?, Z1.out]
  have Z1_f2 : V1.frozen? ⟨w.heap.size, 2, none⟩ = false := by simp [World.frozen?, Z1.out]
  have zZ1 := lt_of_heap Z1.out
  go_simp
  go_wp2
  refine shut_ret (v := .tuple #[.agg #[.int .i64 Y, .int .i64 M, .int .i64 D], .int .i64 E]) (by simp [results, Tryd.results33, go_sem, zZ1, Z1_0, Z1_1, Z1_2]) rfl ⟨rfl, ?_⟩
  exact keep3 B1.out (by omega) _ _ _
set_option maxHeartbeats 1600000 in
set_option maxRecDepth 100000 in
theorem pRSecs_any (D N : Int) (b1 : -2000000000 ≤ D) (b2 : D ≤ 2000000000) (n1 : 0 ≤ N) (n2 : N < 86400000000000) (w : World) : Calls Tryd.prog 21 #[.agg #[.int .i64 D, .int .i64 N]] w fun e w' => e = .returned (.int .i64 (D * 86400 + N / 1000000000)) ∧ Below w.heap.size w w' := by
  have H1 := Lib.hid (pMid_any D b1 b2)
  have q : N.tdiv 1000000000 = N / 1000000000 := Int.tdiv_eq_ediv_of_nonneg n1
  have g1 : IntKind.i64.wrap (N / 1000000000) = N / 1000000000 := by rw [IntKind.wrap_i64]; omega
  have g2 : IntKind.i64.wrap (D * 86400 + N / 1000000000) = D * 86400 + N / 1000000000 := by rw [IntKind.wrap_i64]; omega
  clear b1 b2 n1 n2
  go_enter Tryd.func21, Tryd.ntmps21
  go_wp2_with fail
  
  obtain ⟨W0, hW0⟩ : ∃ W0, W0 = (w.alloc (Obj.cells #[Value.int .i64 D, Value.int .i64 N] 55)) := ⟨_, rfl⟩
  have A1 := Lib.hid (row_at (k' := w.heap.size) (by simp) (row_by hW0 (heap_alloc_new _ _)))
  have A1_0 : W0.cell? ⟨w.heap.size, 0, none⟩ = some (.int .i64 D) := cell_of_row _ _ _ _ _ _ A1.out
  have A1_1 : W0.cell? ⟨w.heap.size, 1, none⟩ = some (.int .i64 N) := cell_of_row _ _ _ _ _ _ A1.out
  have zA1 := lt_of_heap A1.out
  have HB0 := Lib.hid (below_by hW0 ((Below.refl w.heap.size w).alloc (Nat.le_refl _) _))
  have zW0 := HB0.out.size
  have HW0 := Lib.hid hW0
  clear hW0
  try go_simp
  rw [← HW0.out]
  have hk0 : ∀ w2, Below W0.heap.size W0 w2 → w2.cell? ⟨w.heap.size, 0, none⟩ = some (.int .i64 D) := fun w2 hb => (by rw [hb.cell (p := ⟨w.heap.size, 0, none⟩) (by assumption)]; assumption)
  have hk1 : ∀ w2, Below W0.heap.size W0 w2 → w2.cell? ⟨w.heap.size, 1, none⟩ = some (.int .i64 N) := fun w2 hb => (by rw [hb.cell (p := ⟨w.heap.size, 1, none⟩) (by assumption)]; assumption)
  clear A1_0 A1_1
  refine region_plan (S := fun w2 => Below W0.heap.size W0 w2) [(0, true), (1, true), (3, true), (4, true), (5, true), (2, false), (6, true), (7, true)] (by as_aux_lemma => kernel_rfl) (by as_aux_lemma => kernel_rfl) (by as_aux_lemma => kernel_rfl) (by as_aux_lemma => kernel_rfl) (Below.refl W0.heap.size W0).drew ?_
  have Y0 := Lib.hid (Below.refl W0.heap.size W0).drew
  refine plan_yes (v := ?v1) (by simp only [List.getElem?_toArray, List.getElem?_cons_zero, List.getElem?_cons_succ]; exact rfl) (Or.inl ⟨by as_aux_lemma => rfl, ?hy1⟩) ?rest1
  case hy1 => (intro w2 hSw; (try dsimp only at hSw); go_simp; try with_reducible rfl)
  try simp only [Act.put, List.setIfInBounds_toArray, List.set_cons_zero, List.set_cons_succ]
  refine plan_yes (v := ?v2) (by simp only [List.getElem?_toArray, List.getElem?_cons_zero, List.getElem?_cons_succ]; exact rfl) (Or.inl ⟨by as_aux_lemma => rfl, ?hy2⟩) ?rest2
  case hy2 => (intro w2 hSw; (try dsimp only at hSw); go_simp; try with_reducible rfl)
  try simp only [Act.put, List.setIfInBounds_toArray, List.set_cons_zero, List.set_cons_succ]
  refine plan_yes (v := ?v3) (by simp only [List.getElem?_toArray, List.getElem?_cons_zero, List.getElem?_cons_succ]; exact rfl) (Or.inl ⟨by as_aux_lemma => rfl, ?hy3⟩) ?rest3
  case hy3 => (intro w2 hSw; (try dsimp only at hSw); go_simp; try with_reducible rfl)
  try simp only [Act.put, List.setIfInBounds_toArray, List.set_cons_zero, List.set_cons_succ]
  refine plan_yes (v := ?v4) (by simp only [List.getElem?_toArray, List.getElem?_cons_zero, List.getElem?_cons_succ]; exact rfl) (Or.inl ⟨by as_aux_lemma => rfl, ?hy4⟩) ?rest4
  case hy4 => (intro w2 hSw; (try dsimp only at hSw); go_simp; try with_reducible rfl)
  try simp only [Act.put, List.setIfInBounds_toArray, List.set_cons_zero, List.set_cons_succ]
  refine plan_yes (v := ?v5) (by simp only [List.getElem?_toArray, List.getElem?_cons_zero, List.getElem?_cons_succ]; exact rfl) (Or.inl ⟨by as_aux_lemma => rfl, ?hy5⟩) ?rest5
  case hy5 => (intro w2 hSw; (try dsimp only at hSw); go_simp; try with_reducible rfl)
  try simp only [Act.put, List.setIfInBounds_toArray, List.set_cons_zero, List.set_cons_succ]
  refine plan_calls (by simp only [List.getElem?_toArray, List.getElem?_cons_zero, List.getElem?_cons_succ]; exact rfl) (by as_aux_lemma => rfl) (fun K hK => ?_)
  go_simp
  refine (H1.out _).mono ?_
  rintro e Y1w ⟨rfl, hb1⟩
  have Y1 := Lib.hid (keepS (W0 := W0) Y0.out hb1)
  clear hb1
  refine hK.out _ _ Y1.out ?_
  clear hK K
  try simp only [Act.put, List.setIfInBounds_toArray, List.set_cons_zero, List.set_cons_succ]
  as_aux_lemma =>
   refine plan_yes (v := ?v6) (by simp only [List.getElem?_toArray, List.getElem?_cons_zero, List.getElem?_cons_succ]; exact rfl) (Or.inl ⟨by as_aux_lemma => rfl, ?hy6⟩) ?rest6
   case hy6 => (intro w2 hSw; (try dsimp only at hSw); go_simp; try with_reducible rfl)
   try simp only [Act.put, List.setIfInBounds_toArray, List.set_cons_zero, List.set_cons_succ]
   refine plan_yes (v := ?v7) (by simp only [List.getElem?_toArray, List.getElem?_cons_zero, List.getElem?_cons_succ]; exact rfl) (Or.inl ⟨by as_aux_lemma => rfl, ?hy7⟩) ?rest7
   case hy7 => (intro w2 hSw; (try dsimp only at hSw); go_simp; try with_reducible rfl)
   try simp only [Act.put, List.setIfInBounds_toArray, List.set_cons_zero, List.set_cons_succ]
   refine plan_done (NoPanic.normal ?_)
   have B0 := Y1.out
   have BW := Lib.hid (HB0.out.trans (B0.mono zW0))
   go_simp
   go_wp2
   go_ret
   exact ⟨rfl, BW.out⟩
theorem pLesser_any (a b : Int) (w : World) (ha : 0 ≤ a) (hb : 0 ≤ b) : Calls Tryd.prog 31 #[.int .i64 a, .int .i64 b] w fun e w' => e = .returned (.int .i64 (fsI a b)) ∧ Below w.heap.size w w' := by
  by_cases h1 : a = 0
  · subst h1
    have E := Lib.hid (show fsI 0 b = max 0 b by unfold fsI; rw [if_pos rfl]; omega)
    clear ha hb
    go_enter Tryd.func31, Tryd.ntmps31
    go_wp2
    go_ret
    exact ⟨by rw [E.out]; try rfl, Below.refl _ _⟩
  · have f1 : (a == 0) = false := by rw [beq_eq_false_iff_ne]; exact h1
    by_cases h2 : b = 0
    · subst h2
      have E := Lib.hid (show fsI a 0 = max a 0 by unfold fsI; rw [if_neg h1, if_pos rfl]; omega)
      clear ha hb h1
      go_enter Tryd.func31, Tryd.ntmps31
      go_wp2
      go_ret
      exact ⟨by rw [E.out]; try rfl, Below.refl _ _⟩
    · have f2 : (b == 0) = false := by rw [beq_eq_false_iff_ne]; exact h2
      have E := Lib.hid (show fsI a b = min a b by unfold fsI; rw [if_neg h1, if_neg h2]; split <;> omega)
      clear ha hb h1 h2
      go_enter Tryd.func31, Tryd.ntmps31
      go_wp2
      go_ret
      exact ⟨by rw [E.out]; try rfl, Below.refl _ _⟩
end Go.Proofs.YtaoljjhhbmblhaaDoor
