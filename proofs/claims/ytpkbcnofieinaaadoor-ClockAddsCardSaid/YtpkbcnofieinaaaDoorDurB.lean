/- Contracts of package dur: rounding down, the order, the check, products. -/
import Derived.Test.YtpkbcnofieinaaaDoorDurA
namespace Go.Proofs.YtpkbcnofieinaaaDoor
set_option linter.unusedVariables false
set_option linter.unusedSimpArgs false
open Go.ChangeShapes Go.WideShapes Go.ChangeAt Go.RowKit

set_option maxHeartbeats 3200000 in
set_option maxRecDepth 100000 in
theorem dCmp_any (s n d m : Int) (w : World) :
    Calls Tryd.prog 28 #[.agg #[.int .i64 s, .int .i64 n], .agg #[.int .i64 d, .int .i64 m]] w fun e w' => e = .returned (.int .i64 (ord2 s n d m)) ∧ Below w.heap.size w w' := by
  have H1 := Lib.hid (ccmp_any s d)
  have H2 := Lib.hid (ccmp_any n m)
  have X3 := or_any (ordI s d) (ordI n m)
  rw [ord_or] at X3
  have H3 := Lib.hid X3
  clear X3
  generalize ord2 s n d m = E at *
  generalize ordI s d = c1 at *
  generalize ordI n m = c2 at *
  go_enter Tryd.func28, Tryd.ntmps28
  go_wp2_with fail
  
  obtain ⟨W0, hW0⟩ : ∃ W0, W0 = ((w.alloc (Obj.cells #[Value.int .i64 s, Value.int .i64 n] 42)).alloc (Obj.cells #[Value.int .i64 d, Value.int .i64 m] 42)) := ⟨_, rfl⟩
  have A1 := Lib.hid (row_at (k' := w.heap.size) (by simp) (row_by hW0 (row_alloc (heap_alloc_new _ _) _)))
  have D1 := Lib.hid (row_at (k' := w.heap.size + 1) (by simp) (row_by hW0 (heap_alloc_new _ _)))
  have HB0 := Lib.hid (below_by hW0 (((Below.refl w.heap.size w).alloc (by simp <;> omega) _).alloc (by simp <;> omega) _))
  have HW0 := Lib.hid hW0
  clear hW0
  have A1_0 : W0.cell? ⟨w.heap.size, 0, none⟩ = some (.int .i64 s) := cell_of_row _ _ _ _ _ _ A1.out
  have A1_1 : W0.cell? ⟨w.heap.size, 1, none⟩ = some (.int .i64 n) := cell_of_row _ _ _ _ _ _ A1.out
  have zA1 := lt_of_heap A1.out
  have D1_0 : W0.cell? ⟨w.heap.size + 1, 0, none⟩ = some (.int .i64 d) := cell_of_row _ _ _ _ _ _ D1.out
  have D1_1 : W0.cell? ⟨w.heap.size + 1, 1, none⟩ = some (.int .i64 m) := cell_of_row _ _ _ _ _ _ D1.out
  have zD1 := lt_of_heap D1.out
  try rw [← HW0.out]
  go_cut [4] (fun s4 wx => s4 = .int .i64 E ∧ Below W0.heap.size W0 wx)
  case first =>
    go_region_held3 (fun w' => Below W0.heap.size W0 w' ∧ w'.cell? ⟨w.heap.size, 0, none⟩ = some (.int .i64 s) ∧ w'.cell? ⟨w.heap.size, 1, none⟩ = some (.int .i64 n) ∧ w'.cell? ⟨w.heap.size + 1, 0, none⟩ = some (.int .i64 d) ∧ w'.cell? ⟨w.heap.size + 1, 1, none⟩ = some (.int .i64 m))
    (first
      | ((try go_split_ands); refine ⟨(Below.refl _ _).drew, ?_, ?_, ?_, ?_⟩ <;> first | assumption | (rw [World.cell?_drew]; assumption))
      | ((try go_split_ands); refine ⟨keepS (W0 := W0) ?_ hb1, cellS (W0 := W0) ?_ hb1 ?_ ?_, cellS (W0 := W0) ?_ hb1 ?_ ?_, cellS (W0 := W0) ?_ hb1 ?_ ?_, cellS (W0 := W0) ?_ hb1 ?_ ?_⟩ <;> first | assumption | omega)
      | ((try go_split_ands); refine ⟨keepA (W0 := W0) ?_ _, cellA (W0 := W0) ?_ _ ?_ ?_, cellA (W0 := W0) ?_ _ ?_ ?_, cellA (W0 := W0) ?_ _ ?_ ?_, cellA (W0 := W0) ?_ _ ?_ ?_⟩ <;> first | assumption | omega)
      | ((try go_split_ands); refine ⟨keepAd (W0 := W0) ?_ _, cellAd (W0 := W0) ?_ _ ?_ ?_, cellAd (W0 := W0) ?_ _ ?_ ?_, cellAd (W0 := W0) ?_ _ ?_ ?_, cellAd (W0 := W0) ?_ _ ?_ ?_⟩ <;> first | assumption | omega | exact Below.refl _ _)
      | ((try go_split_ands); (with_reducible refine ⟨keep3 (W0 := W0) ?_ ?_ _ _ _, cell3 (W0 := W0) ?_ _ _ _ ?_ ?_, cell3 (W0 := W0) ?_ _ _ _ ?_ ?_, cell3 (W0 := W0) ?_ _ _ _ ?_ ?_, cell3 (W0 := W0) ?_ _ _ _ ?_ ?_⟩) <;> first | assumption | omega | exact Nat.le_refl _)
      | ((try go_split_ands); refine ⟨keep2 (W0 := W0) ?_ ?_ _ _, cell2 (W0 := W0) ?_ _ _ ?_ ?_, cell2 (W0 := W0) ?_ _ _ ?_ ?_, cell2 (W0 := W0) ?_ _ _ ?_ ?_, cell2 (W0 := W0) ?_ _ _ ?_ ?_⟩ <;> first | assumption | omega | exact Nat.le_refl _)
      | ((try go_split_ands); refine ⟨keepZ (W0 := W0) ?_ ?_ _, cellZ (W0 := W0) ?_ _ ?_ ?_, cellZ (W0 := W0) ?_ _ ?_ ?_, cellZ (W0 := W0) ?_ _ ?_ ?_, cellZ (W0 := W0) ?_ _ ?_ ?_⟩ <;> first | assumption | omega | exact Nat.le_refl _ | exact ⟨_, by assumption⟩))
    (first | (go_at_call 30; (with_reducible refine (H1.out _).mono ?_); rintro e w1 ⟨rfl, hb1⟩; (try go_split_ands); have hge : W0.heap.size ≤ w1.heap.size := (by first | (refine (keepS (W0 := W0) ?_ hb1).size; assumption) | exact (hb1.size : W0.heap.size ≤ w1.heap.size)); (try have hrow := row_call hb1 hrow); (try have hrow := row_new hb1); (try have hrow := row_newd hb1); have hl1 := lt_below hb1; obtain ⟨hc1, hf1⟩ := bcell hb1; (try (have hrc := row_cellA hrow; clear hc1 hf1)); (try have hrf := row_frozA hrow)) | (go_at_call 30; (with_reducible refine (H2.out _).mono ?_); rintro e w1 ⟨rfl, hb1⟩; (try go_split_ands); have hge : W0.heap.size ≤ w1.heap.size := (by first | (refine (keepS (W0 := W0) ?_ hb1).size; assumption) | exact (hb1.size : W0.heap.size ≤ w1.heap.size)); (try have hrow := row_call hb1 hrow); (try have hrow := row_new hb1); (try have hrow := row_newd hb1); have hl1 := lt_below hb1; obtain ⟨hc1, hf1⟩ := bcell hb1; (try (have hrc := row_cellA hrow; clear hc1 hf1)); (try have hrf := row_frozA hrow)) | (go_at_call 29; refine (H3.out _ _ (by simp [go_sem]) (by simp [go_sem])).mono ?_; rintro e w1 ⟨rfl, hb1⟩; (try go_split_ands); have hge : W0.heap.size ≤ w1.heap.size := (by first | (refine (keepS (W0 := W0) ?_ hb1).size; assumption) | exact (hb1.size : W0.heap.size ≤ w1.heap.size)); (try have hrow := row_call hb1 hrow); (try have hrow := row_new hb1); (try have hrow := row_newd hb1); have hl1 := lt_below hb1; obtain ⟨hc1, hf1⟩ := bcell hb1; (try (have hrc := row_cellA hrow; clear hc1 hf1)); (try have hrf := row_frozA hrow)))
    all_goals (try go_split_ands)
    all_goals (go_wp2_with fail; go_meet; refine ⟨rfl, ?_⟩)
    all_goals first | (with_reducible assumption) | (with_reducible exact heap_alloc_new _ _) | (with_reducible exact row_set3 (by assumption) _ _ _) | assumption | exact heap_alloc_new _ _ | exact row_set (by assumption) _ _
  case rest =>
    obtain ⟨rfl, hB⟩ := hcut
    obtain ⟨V1, rfl⟩ : ∃ V, V = wc := ⟨_, rfl⟩
    clear A1_0 A1_1 zA1 D1_0 D1_1 zD1
    replace A1 := Lib.hid (row_call hB A1.out)
    replace D1 := Lib.hid (row_call hB D1.out)
    have B1 := Lib.hid (HB0.out.trans (hB.mono HB0.out.size))
    clear hB
    have A1_0 : V1.cell? ⟨w.heap.size, 0, none⟩ = some (.int .i64 s) := cell_of_row _ _ _ _ _ _ A1.out
    have A1_1 : V1.cell? ⟨w.heap.size, 1, none⟩ = some (.int .i64 n) := cell_of_row _ _ _ _ _ _ A1.out
    have zA1 := lt_of_heap A1.out
    have D1_0 : V1.cell? ⟨w.heap.size + 1, 0, none⟩ = some (.int .i64 d) := cell_of_row _ _ _ _ _ _ D1.out
    have D1_1 : V1.cell? ⟨w.heap.size + 1, 1, none⟩ = some (.int .i64 m) := cell_of_row _ _ _ _ _ _ D1.out
    have zD1 := lt_of_heap D1.out
    go_wp2
    go_ret
    exact ⟨rfl, B1.out⟩
theorem ord2_lo (s n : Int) (h : 0 ≤ n) : ord2 s n (-1099511627776) 0 < 0 ↔ s < -1099511627776 := by
  unfold ord2 ordI; repeat' split
  all_goals omega
theorem ord2_hi (s n : Int) (h : 0 ≤ n) : 0 < ord2 s n 1099511627776 0 ↔ (1099511627776 < s ∨ (s = 1099511627776 ∧ 0 < n)) := by
  unfold ord2 ordI; repeat' split
  all_goals omega
theorem belowC (w : World) (o o2 o3 : Obj) : Below w.heap.size w (((w.alloc o).alloc o2).alloc o3) := (((Below.refl _ _).alloc (Nat.le_refl _) _).alloc (by simp) _).alloc (by simp; omega) _
set_option maxHeartbeats 3200000 in
set_option maxRecDepth 100000 in
theorem dCheck_any (s n : Int) (w : World) : Calls Tryd.prog 25 #[.agg #[.int .i64 s, .int .i64 n]] w fun e w' => e = .returned (.int .i64 (ckD s n)) ∧ Below w.heap.size w w' := by
  by_cases h0 : n < 0
  · have E := Lib.hid (ckD_wm (s := s) (wmB_low h0))
    go_enter Tryd.func25, Tryd.ntmps25
    go_wp2
    go_ret
    exact ⟨by rw [E.out]; rfl, belowC _ _ _ _⟩
  · by_cases h1 : (1000000000 : Int) ≤ n
    · have E := Lib.hid (ckD_wm (s := s) (wmB_high h1))
      go_enter Tryd.func25, Tryd.ntmps25
      go_wp2
      go_ret
      exact ⟨by rw [E.out]; rfl, belowC _ _ _ _⟩
    · have hw := wmB_true (n := n) (by omega) (by omega)
      have L1 := ord2_lo s n (by omega)
      have L2 := ord2_hi s n (by omega)
      have H1 := Lib.hid (dCmp_any s n (-1099511627776) 0)
      have H2 := Lib.hid (dCmp_any s n 1099511627776 0)
      by_cases h2 : s < -1099511627776
      · have E := Lib.hid (ckD_out hw (Or.inl h2))
        have c1 := L1.mpr h2
        clear L1 L2 hw
        generalize ord2 s n (-1099511627776) 0 = C at *
        go_enter Tryd.func25, Tryd.ntmps25
        go_wp2_with fail
        
        refine (H1.out _).mono ?_
        rintro e V1 ⟨rfl, hb1⟩
        have B1 := Lib.hid (((((Below.refl w.heap.size w).alloc (Nat.le_refl _) _).alloc (by simp <;> omega) _).alloc (by simp <;> omega) _).trans (hb1.mono (by first | assumption | (simp <;> omega) | (simp; done))))
        have A1 := Lib.hid (row_call hb1 (row_alloc (row_alloc (heap_alloc_new _ _) _) _))
        have L1 := Lib.hid (row_at (k' := w.heap.size + 1) (by simp) (row_call hb1 (row_alloc (heap_alloc_new _ _) _)))
        have M1 := Lib.hid (row_at (k' := w.heap.size + 1 + 1) (by simp) (row_call hb1 (heap_alloc_new _ _)))
        clear hb1
        have A1_0 : V1.cell? ⟨w.heap.size, 0, none⟩ = some (.int .i64 s) := cell_of_row _ _ _ _ _ _ A1.out
        have A1_1 : V1.cell? ⟨w.heap.size, 1, none⟩ = some (.int .i64 n) := cell_of_row _ _ _ _ _ _ A1.out
        have L1_0 : V1.cell? ⟨w.heap.size + 1, 0, none⟩ = some (.int .i64 (-1099511627776)) := cell_of_row _ _ _ _ _ _ L1.out
        have L1_1 : V1.cell? ⟨w.heap.size + 1, 1, none⟩ = some (.int .i64 0) := cell_of_row _ _ _ _ _ _ L1.out
        have M1_0 : V1.cell? ⟨w.heap.size + 1 + 1, 0, none⟩ = some (.int .i64 1099511627776) := cell_of_row _ _ _ _ _ _ M1.out
        have M1_1 : V1.cell? ⟨w.heap.size + 1 + 1, 1, none⟩ = some (.int .i64 0) := cell_of_row _ _ _ _ _ _ M1.out
        have zA1 := lt_of_heap A1.out
        have zL1 := lt_of_heap L1.out
        have zM1 := lt_of_heap M1.out
        go_simp
        go_wp2
        go_ret
        exact ⟨by rw [E.out]; rfl, B1.out⟩
      · have c1 : ¬ ord2 s n (-1099511627776) 0 < 0 := fun h => h2 (L1.mp h)
        by_cases h3 : 1099511627776 < s ∨ (s = 1099511627776 ∧ 0 < n)
        · have E := Lib.hid (ckD_out hw (Or.inr h3))
          have c2 := L2.mpr h3
          clear L1 L2 hw h3
          generalize ord2 s n (-1099511627776) 0 = C at *
          generalize ord2 s n 1099511627776 0 = D at *
          go_enter Tryd.func25, Tryd.ntmps25
          go_wp2_with fail
          
          refine (H1.out _).mono ?_
          rintro e V1 ⟨rfl, hb1⟩
          have B1 := Lib.hid (((((Below.refl w.heap.size w).alloc (Nat.le_refl _) _).alloc (by simp <;> omega) _).alloc (by simp <;> omega) _).trans (hb1.mono (by first | assumption | (simp <;> omega) | (simp; done))))
          have A1 := Lib.hid (row_call hb1 (row_alloc (row_alloc (heap_alloc_new _ _) _) _))
          have L1 := Lib.hid (row_at (k' := w.heap.size + 1) (by simp) (row_call hb1 (row_alloc (heap_alloc_new _ _) _)))
          have M1 := Lib.hid (row_at (k' := w.heap.size + 1 + 1) (by simp) (row_call hb1 (heap_alloc_new _ _)))
          clear hb1
          have A1_0 : V1.cell? ⟨w.heap.size, 0, none⟩ = some (.int .i64 s) := cell_of_row _ _ _ _ _ _ A1.out
          have A1_1 : V1.cell? ⟨w.heap.size, 1, none⟩ = some (.int .i64 n) := cell_of_row _ _ _ _ _ _ A1.out
          have L1_0 : V1.cell? ⟨w.heap.size + 1, 0, none⟩ = some (.int .i64 (-1099511627776)) := cell_of_row _ _ _ _ _ _ L1.out
          have L1_1 : V1.cell? ⟨w.heap.size + 1, 1, none⟩ = some (.int .i64 0) := cell_of_row _ _ _ _ _ _ L1.out
          have M1_0 : V1.cell? ⟨w.heap.size + 1 + 1, 0, none⟩ = some (.int .i64 1099511627776) := cell_of_row _ _ _ _ _ _ M1.out
          have M1_1 : V1.cell? ⟨w.heap.size + 1 + 1, 1, none⟩ = some (.int .i64 0) := cell_of_row _ _ _ _ _ _ M1.out
          have zA1 := lt_of_heap A1.out
          have zL1 := lt_of_heap L1.out
          have zM1 := lt_of_heap M1.out
          go_simp
          go_wp2_with fail
          refine (H2.out _).mono ?_
          rintro e V2 ⟨rfl, hb2⟩
          clear A1_0 A1_1 zA1 L1_0 L1_1 zL1 M1_0 M1_1 zM1
          have B2 : Hid (Below w.heap.size w V2) := by first | exact Lib.hid ((B1.out).trans (hb2.mono (by have := B1.out.size; first | assumption | (simp <;> omega) | (simp; done)))) | exact Lib.hid (((B1.out).alloc (B1.out.size) _).trans (hb2.mono (by have := B1.out.size; first | assumption | (simp <;> omega) | (simp; done)))) | exact Lib.hid ((((B1.out).alloc (B1.out.size) _).alloc (by have := B1.out.size; simp <;> omega) _).trans (hb2.mono (by have := B1.out.size; first | assumption | (simp <;> omega) | (simp; done)))) | exact Lib.hid (((((B1.out).alloc (B1.out.size) _).alloc (by have := B1.out.size; simp <;> omega) _).alloc (by have := B1.out.size; simp <;> omega) _).trans (hb2.mono (by have := B1.out.size; first | assumption | (simp <;> omega) | (simp; done))))
          first | replace A1 := Lib.hid (row_call hb2 A1.out) | replace A1 := Lib.hid (row_call hb2 (row_alloc A1.out _)) | replace A1 := Lib.hid (row_call hb2 (row_alloc (row_alloc A1.out _) _)) | replace A1 := Lib.hid (row_call hb2 (row_alloc (row_alloc (row_alloc A1.out _) _) _))
          first | replace L1 := Lib.hid (row_call hb2 L1.out) | replace L1 := Lib.hid (row_call hb2 (row_alloc L1.out _)) | replace L1 := Lib.hid (row_call hb2 (row_alloc (row_alloc L1.out _) _)) | replace L1 := Lib.hid (row_call hb2 (row_alloc (row_alloc (row_alloc L1.out _) _) _))
          first | replace M1 := Lib.hid (row_call hb2 M1.out) | replace M1 := Lib.hid (row_call hb2 (row_alloc M1.out _)) | replace M1 := Lib.hid (row_call hb2 (row_alloc (row_alloc M1.out _) _)) | replace M1 := Lib.hid (row_call hb2 (row_alloc (row_alloc (row_alloc M1.out _) _) _))
          clear hb2
          have A1_0 : V2.cell? ⟨w.heap.size, 0, none⟩ = some (.int .i64 s) := cell_of_row _ _ _ _ _ _ A1.out
          have A1_1 : V2.cell? ⟨w.heap.size, 1, none⟩ = some (.int .i64 n) := cell_of_row _ _ _ _ _ _ A1.out
          have L1_0 : V2.cell? ⟨w.heap.size + 1, 0, none⟩ = some (.int .i64 (-1099511627776)) := cell_of_row _ _ _ _ _ _ L1.out
          have L1_1 : V2.cell? ⟨w.heap.size + 1, 1, none⟩ = some (.int .i64 0) := cell_of_row _ _ _ _ _ _ L1.out
          have M1_0 : V2.cell? ⟨w.heap.size + 1 + 1, 0, none⟩ = some (.int .i64 1099511627776) := cell_of_row _ _ _ _ _ _ M1.out
          have M1_1 : V2.cell? ⟨w.heap.size + 1 + 1, 1, none⟩ = some (.int .i64 0) := cell_of_row _ _ _ _ _ _ M1.out
          have zA1 := lt_of_heap A1.out
          have zL1 := lt_of_heap L1.out
          have zM1 := lt_of_heap M1.out
          go_simp
          go_wp2
          go_ret
          exact ⟨by rw [E.out]; rfl, B2.out⟩
        · have E := Lib.hid (ckD_ok hw (by omega : ¬ (s < -1099511627776 ∨ 1099511627776 < s ∨ (s = 1099511627776 ∧ 0 < n))))
          have c2 : ¬ 0 < ord2 s n 1099511627776 0 := fun h => h3 (L2.mp h)
          clear L1 L2 hw h3
          generalize ord2 s n (-1099511627776) 0 = C at *
          generalize ord2 s n 1099511627776 0 = D at *
          go_enter Tryd.func25, Tryd.ntmps25
          go_wp2_with fail
          
          refine (H1.out _).mono ?_
          rintro e V1 ⟨rfl, hb1⟩
          have B1 := Lib.hid (((((Below.refl w.heap.size w).alloc (Nat.le_refl _) _).alloc (by simp <;> omega) _).alloc (by simp <;> omega) _).trans (hb1.mono (by first | assumption | (simp <;> omega) | (simp; done))))
          have A1 := Lib.hid (row_call hb1 (row_alloc (row_alloc (heap_alloc_new _ _) _) _))
          have L1 := Lib.hid (row_at (k' := w.heap.size + 1) (by simp) (row_call hb1 (row_alloc (heap_alloc_new _ _) _)))
          have M1 := Lib.hid (row_at (k' := w.heap.size + 1 + 1) (by simp) (row_call hb1 (heap_alloc_new _ _)))
          clear hb1
          have A1_0 : V1.cell? ⟨w.heap.size, 0, none⟩ = some (.int .i64 s) := cell_of_row _ _ _ _ _ _ A1.out
          have A1_1 : V1.cell? ⟨w.heap.size, 1, none⟩ = some (.int .i64 n) := cell_of_row _ _ _ _ _ _ A1.out
          have L1_0 : V1.cell? ⟨w.heap.size + 1, 0, none⟩ = some (.int .i64 (-1099511627776)) := cell_of_row _ _ _ _ _ _ L1.out
          have L1_1 : V1.cell? ⟨w.heap.size + 1, 1, none⟩ = some (.int .i64 0) := cell_of_row _ _ _ _ _ _ L1.out
          have M1_0 : V1.cell? ⟨w.heap.size + 1 + 1, 0, none⟩ = some (.int .i64 1099511627776) := cell_of_row _ _ _ _ _ _ M1.out
          have M1_1 : V1.cell? ⟨w.heap.size + 1 + 1, 1, none⟩ = some (.int .i64 0) := cell_of_row _ _ _ _ _ _ M1.out
          have zA1 := lt_of_heap A1.out
          have zL1 := lt_of_heap L1.out
          have zM1 := lt_of_heap M1.out
          go_simp
          go_wp2_with fail
          refine (H2.out _).mono ?_
          rintro e V2 ⟨rfl, hb2⟩
          clear A1_0 A1_1 zA1 L1_0 L1_1 zL1 M1_0 M1_1 zM1
          have B2 : Hid (Below w.heap.size w V2) := by first | exact Lib.hid ((B1.out).trans (hb2.mono (by have := B1.out.size; first | assumption | (simp <;> omega) | (simp; done)))) | exact Lib.hid (((B1.out).alloc (B1.out.size) _).trans (hb2.mono (by have := B1.out.size; first | assumption | (simp <;> omega) | (simp; done)))) | exact Lib.hid ((((B1.out).alloc (B1.out.size) _).alloc (by have := B1.out.size; simp <;> omega) _).trans (hb2.mono (by have := B1.out.size; first | assumption | (simp <;> omega) | (simp; done)))) | exact Lib.hid (((((B1.out).alloc (B1.out.size) _).alloc (by have := B1.out.size; simp <;> omega) _).alloc (by have := B1.out.size; simp <;> omega) _).trans (hb2.mono (by have := B1.out.size; first | assumption | (simp <;> omega) | (simp; done))))
          first | replace A1 := Lib.hid (row_call hb2 A1.out) | replace A1 := Lib.hid (row_call hb2 (row_alloc A1.out _)) | replace A1 := Lib.hid (row_call hb2 (row_alloc (row_alloc A1.out _) _)) | replace A1 := Lib.hid (row_call hb2 (row_alloc (row_alloc (row_alloc A1.out _) _) _))
          first | replace L1 := Lib.hid (row_call hb2 L1.out) | replace L1 := Lib.hid (row_call hb2 (row_alloc L1.out _)) | replace L1 := Lib.hid (row_call hb2 (row_alloc (row_alloc L1.out _) _)) | replace L1 := Lib.hid (row_call hb2 (row_alloc (row_alloc (row_alloc L1.out _) _) _))
          first | replace M1 := Lib.hid (row_call hb2 M1.out) | replace M1 := Lib.hid (row_call hb2 (row_alloc M1.out _)) | replace M1 := Lib.hid (row_call hb2 (row_alloc (row_alloc M1.out _) _)) | replace M1 := Lib.hid (row_call hb2 (row_alloc (row_alloc (row_alloc M1.out _) _) _))
          clear hb2
          have A1_0 : V2.cell? ⟨w.heap.size, 0, none⟩ = some (.int .i64 s) := cell_of_row _ _ _ _ _ _ A1.out
          have A1_1 : V2.cell? ⟨w.heap.size, 1, none⟩ = some (.int .i64 n) := cell_of_row _ _ _ _ _ _ A1.out
          have L1_0 : V2.cell? ⟨w.heap.size + 1, 0, none⟩ = some (.int .i64 (-1099511627776)) := cell_of_row _ _ _ _ _ _ L1.out
          have L1_1 : V2.cell? ⟨w.heap.size + 1, 1, none⟩ = some (.int .i64 0) := cell_of_row _ _ _ _ _ _ L1.out
          have M1_0 : V2.cell? ⟨w.heap.size + 1 + 1, 0, none⟩ = some (.int .i64 1099511627776) := cell_of_row _ _ _ _ _ _ M1.out
          have M1_1 : V2.cell? ⟨w.heap.size + 1 + 1, 1, none⟩ = some (.int .i64 0) := cell_of_row _ _ _ _ _ _ M1.out
          have zA1 := lt_of_heap A1.out
          have zL1 := lt_of_heap L1.out
          have zM1 := lt_of_heap M1.out
          go_simp
          go_wp2
          go_ret
          exact ⟨by rw [E.out]; rfl, B2.out⟩
end Go.Proofs.YtpkbcnofieinaaaDoor
