/- Contracts of package round: the quotient and the rest. -/
import Derived.Test.YtlfbiidnfheelaaRpkB
namespace Go.Proofs.Ytlfbiidnfheelaa
set_option linter.unusedVariables false
set_option linter.unusedSimpArgs false
open Go.ChangeShapes Go.WideShapes Go.ChangeAt Go.RowKit

set_option maxHeartbeats 3200000 in
set_option maxRecDepth 100000 in
theorem divide_small (A u : Nat) (hA : A < 340282366920938463463374607431768211456) (hu : U u) (h0 : 0 < u) (w : World) :
    Calls Try.prog 45 #[.agg #[.int .u64 (zh (A : Int)), .int .u64 (zl (A : Int))], .agg #[.int .u64 0, .int .u64 u]] w fun e w' => e = .returned (.tuple #[.agg #[.int .u64 (zh ((A / u : Nat) : Int)), .int .u64 (zl ((A / u : Nat) : Int))], .agg #[.int .u64 0, .int .u64 ((A % u : Nat) : Int)]]) ∧ Below w.heap.size w w' := by
  have H1 := Lib.hid (zDiv_any A u hA hu h0)
  clear hA hu h0
  generalize ((A / u : Nat) : Int) = Q at *
  generalize A % u = R at *
  go_enter Try.func45, Try.ntmps45
  refine wp_shut ?_
  go_wp2_with fail
  
  refine (H1.out _).mono ?_
  rintro e V1 ⟨rfl, hb1⟩
  have B1 := Lib.hid ((((((Below.refl w.heap.size w).alloc (Nat.le_refl _) _).alloc (by simp <;> omega) _).alloc (by simp <;> omega) _).alloc (by simp <;> omega) _).trans (hb1.mono (by first | assumption | (simp <;> omega) | (simp; done))))
  have N1 := Lib.hid (row_call hb1 (row_alloc (row_alloc (row_alloc (heap_alloc_new _ _) _) _) _))
  have U1 := Lib.hid (row_at (k' := w.heap.size + 1) (by simp) (row_call hb1 (row_alloc (row_alloc (heap_alloc_new _ _) _) _)))
  have Z1 := Lib.hid (row_at (k' := w.heap.size + 1 + 1) (by simp) (row_call hb1 (row_alloc (heap_alloc_new _ _) _)))
  have Y1 := Lib.hid (row_at (k' := w.heap.size + 1 + 1 + 1) (by simp) (row_call hb1 (heap_alloc_new _ _)))
  clear hb1
  have N1_0 : V1.cell? ⟨w.heap.size, 0, none⟩ = some (.int .u64 (zh (A : Int))) := cell_of_row _ _ _ _ _ _ N1.out
  have N1_1 : V1.cell? ⟨w.heap.size, 1, none⟩ = some (.int .u64 (zl (A : Int))) := cell_of_row _ _ _ _ _ _ N1.out
  have U1_0 : V1.cell? ⟨w.heap.size + 1, 0, none⟩ = some (.int .u64 0) := cell_of_row _ _ _ _ _ _ U1.out
  have U1_1 : V1.cell? ⟨w.heap.size + 1, 1, none⟩ = some (.int .u64 u) := cell_of_row _ _ _ _ _ _ U1.out
  have Z1_0 : V1.cell? ⟨w.heap.size + 1 + 1, 0, none⟩ = some (.int .u64 0) := cell_of_row _ _ _ _ _ _ Z1.out
  have Z1_1 : V1.cell? ⟨w.heap.size + 1 + 1, 1, none⟩ = some (.int .u64 0) := cell_of_row _ _ _ _ _ _ Z1.out
  have Z1_f0 : V1.frozen? ⟨w.heap.size + 1 + 1, 0, none⟩ = false := by simp [World.frozen?, Z1.out]
  have Z1_f1 : V1.frozen? ⟨w.heap.size + 1 + 1, 1, none⟩ = false := by simp [World.frozen?, Z1.out]
  have Y1_0 : V1.cell? ⟨w.heap.size + 1 + 1 + 1, 0, none⟩ = some (.int .u64 0) := cell_of_row _ _ _ _ _ _ Y1.out
  have Y1_1 : V1.cell? ⟨w.heap.size + 1 + 1 + 1, 1, none⟩ = some (.int .u64 0) := cell_of_row _ _ _ _ _ _ Y1.out
  have Y1_f0 : V1.frozen? ⟨w.heap.size + 1 + 1 + 1, 0, none⟩ = false := by simp [World.frozen?, Y1.out]
  have Y1_f1 : V1.frozen? ⟨w.heap.size + 1 + 1 + 1, 1, none⟩ = false := by simp [World.frozen?, Y1.out]
  have zN1 := lt_of_heap N1.out
  have zU1 := lt_of_heap U1.out
  have zZ1 := lt_of_heap Z1.out
  have zY1 := lt_of_heap Y1.out
  go_simp
  go_wp2
  refine shut_ret (v := .tuple #[.agg #[.int .u64 (zh Q), .int .u64 (zl Q)], .agg #[.int .u64 0, .int .u64 R]]) (by simp [results, Try.results45, go_sem, zZ1, Z1_0, Z1_1, zY1, Y1_0, Y1_1]) rfl ⟨rfl, ?_⟩
  exact (keep2 (keep2 B1.out (by omega) _ _) (by omega) _ _).alloc (by have := B1.out.size; simp; try omega) _
theorem zhl_small {n : Nat} (h : U n) : zh (n : Int) = 0 ∧ zl (n : Int) = n := by
  unfold U at h
  exact hl_of_zw (h := 0) (l := n) (by rw [zw_nat n (by omega)]; omega) h
set_option maxHeartbeats 3200000 in
set_option maxRecDepth 100000 in
theorem divide_eq (A uh ul c k r ph pl m xh : Nat) (D R : Int) (v : Nat) (ah al vh : Nat) (w : World) (huh : ¬ uh = 0) (uU : U uh)
    (hc : Lib.bitLen uh = c)
    (H2 : Hid (∀ w, Calls Try.prog 68 #[.agg #[.int .u64 (zh (A : Int)), .int .u64 (zl (A : Int))], .int .i64 c] w fun e w' => e = .returned (.agg #[.int .u64 ah, .int .u64 al]) ∧ Below w.heap.size w w'))
    (H3 : Hid (∀ w, Calls Try.prog 68 #[.agg #[.int .u64 uh, .int .u64 ul], .int .i64 c] w fun e w' => e = .returned (.agg #[.int .u64 vh, .int .u64 v]) ∧ Below w.heap.size w w'))
    (H4 : Hid (∀ w, Calls Try.prog 66 #[.agg #[.int .u64 ah, .int .u64 al], .int .u64 v] w fun e w' => e = .returned (.tuple #[.agg #[.int .u64 0, .int .u64 k], .int .u64 r, .int .i64 0]) ∧ Below w.heap.size w w'))
    (H5 : Hid (∀ w, Calls Try.prog 69 #[.int .u64 k, .int .u64 ul] w fun e w' => e = .returned (.agg #[.int .u64 ph, .int .u64 pl]) ∧ Below w.heap.size w w'))
    (g1 : IntKind.u64.wrap ((k : Int) * (uh : Int)) = (m : Int)) (g2 : IntKind.u64.wrap ((ph : Int) + (m : Int)) = (xh : Int))
    (H6 : Hid (∀ w, Calls Try.prog 43 #[.agg #[.int .u64 (zh (A : Int)), .int .u64 (zl (A : Int))], .agg #[.int .u64 xh, .int .u64 pl]] w fun e w' => e = .returned (.tuple #[.agg #[.int .u64 (zh D), .int .u64 (zl D)], .bool false]) ∧ Below w.heap.size w w')) :
    Calls Try.prog 45 #[.agg #[.int .u64 (zh (A : Int)), .int .u64 (zl (A : Int))], .agg #[.int .u64 uh, .int .u64 ul]] w fun e w' => e = .returned (.tuple #[.agg #[.int .u64 0, .int .u64 k], .agg #[.int .u64 (zh D), .int .u64 (zl D)]]) ∧ Below w.heap.size w w' := by
  have f0 : ((uh : Int) == 0) = false := by rw [beq_eq_false_iff_ne]; omega
  have H1 : Hid (∀ w, Calls Try.prog 67 #[.int .u64 uh] w fun e w' => e = .returned (.int .i64 c) ∧ Below w.heap.size w w') := Lib.hid (fun w => by
    have h := Try.bits_Len64 uh w (by omega) (by unfold U at uU; omega)
    rw [Int.toNat_natCast, hc] at h
    exact h.mono (fun e w' h => ⟨h.1, by rw [h.2]; exact Below.refl _ _⟩))
  clear huh uU hc
  have hfd := fieldW1
  go_enter Try.func45, Try.ntmps45
  refine wp_shut ?_
  go_wp2_with fail
  
  refine (H1.out _).mono ?_
  rintro e V1 ⟨rfl, hb1⟩
  have B1 := Lib.hid ((((((Below.refl w.heap.size w).alloc (Nat.le_refl _) _).alloc (by simp <;> omega) _).alloc (by simp <;> omega) _).alloc (by simp <;> omega) _).trans (hb1.mono (by first | assumption | (simp <;> omega) | (simp; done))))
  have N1 := Lib.hid (row_call hb1 (row_alloc (row_alloc (row_alloc (heap_alloc_new _ _) _) _) _))
  have U1 := Lib.hid (row_at (k' := w.heap.size + 1) (by simp) (row_call hb1 (row_alloc (row_alloc (heap_alloc_new _ _) _) _)))
  have Z1 := Lib.hid (row_at (k' := w.heap.size + 1 + 1) (by simp) (row_call hb1 (row_alloc (heap_alloc_new _ _) _)))
  have Y1 := Lib.hid (row_at (k' := w.heap.size + 1 + 1 + 1) (by simp) (row_call hb1 (heap_alloc_new _ _)))
  clear hb1
  have N1_0 : V1.cell? ⟨w.heap.size, 0, none⟩ = some (.int .u64 (zh (A : Int))) := cell_of_row _ _ _ _ _ _ N1.out
  have N1_1 : V1.cell? ⟨w.heap.size, 1, none⟩ = some (.int .u64 (zl (A : Int))) := cell_of_row _ _ _ _ _ _ N1.out
  have U1_0 : V1.cell? ⟨w.heap.size + 1, 0, none⟩ = some (.int .u64 uh) := cell_of_row _ _ _ _ _ _ U1.out
  have U1_1 : V1.cell? ⟨w.heap.size + 1, 1, none⟩ = some (.int .u64 ul) := cell_of_row _ _ _ _ _ _ U1.out
  have Z1_0 : V1.cell? ⟨w.heap.size + 1 + 1, 0, none⟩ = some (.int .u64 0) := cell_of_row _ _ _ _ _ _ Z1.out
  have Z1_1 : V1.cell? ⟨w.heap.size + 1 + 1, 1, none⟩ = some (.int .u64 0) := cell_of_row _ _ _ _ _ _ Z1.out
  have Z1_f0 : V1.frozen? ⟨w.heap.size + 1 + 1, 0, none⟩ = false := by simp [World.frozen?, Z1.out]
  have Z1_f1 : V1.frozen? ⟨w.heap.size + 1 + 1, 1, none⟩ = false := by simp [World.frozen?, Z1.out]
  have Y1_0 : V1.cell? ⟨w.heap.size + 1 + 1 + 1, 0, none⟩ = some (.int .u64 0) := cell_of_row _ _ _ _ _ _ Y1.out
  have Y1_1 : V1.cell? ⟨w.heap.size + 1 + 1 + 1, 1, none⟩ = some (.int .u64 0) := cell_of_row _ _ _ _ _ _ Y1.out
  have Y1_f0 : V1.frozen? ⟨w.heap.size + 1 + 1 + 1, 0, none⟩ = false := by simp [World.frozen?, Y1.out]
  have Y1_f1 : V1.frozen? ⟨w.heap.size + 1 + 1 + 1, 1, none⟩ = false := by simp [World.frozen?, Y1.out]
  have zN1 := lt_of_heap N1.out
  have zU1 := lt_of_heap U1.out
  have zZ1 := lt_of_heap Z1.out
  have zY1 := lt_of_heap Y1.out
  go_simp
  go_wp2_with fail
  clear N1_0 N1_1 zN1 U1_0 U1_1 zU1 Z1_0 Z1_1 Z1_f0 Z1_f1 zZ1 Y1_0 Y1_1 Y1_f0 Y1_f1 zY1
  obtain ⟨W0, hW0⟩ : ∃ W0, W0 = V1 := ⟨_, rfl⟩
  replace N1 := Lib.hid (row_by hW0 N1.out)
  replace U1 := Lib.hid (row_by hW0 U1.out)
  replace Z1 := Lib.hid (row_by hW0 Z1.out)
  replace Y1 := Lib.hid (row_by hW0 Y1.out)
  have HB0 := Lib.hid (below_by hW0 (B1.out))
  have HW0 := Lib.hid hW0
  clear hW0
  have N1_0 : W0.cell? ⟨w.heap.size, 0, none⟩ = some (.int .u64 (zh (A : Int))) := cell_of_row _ _ _ _ _ _ N1.out
  have N1_1 : W0.cell? ⟨w.heap.size, 1, none⟩ = some (.int .u64 (zl (A : Int))) := cell_of_row _ _ _ _ _ _ N1.out
  have zN1 := lt_of_heap N1.out
  have U1_0 : W0.cell? ⟨w.heap.size + 1, 0, none⟩ = some (.int .u64 uh) := cell_of_row _ _ _ _ _ _ U1.out
  have U1_1 : W0.cell? ⟨w.heap.size + 1, 1, none⟩ = some (.int .u64 ul) := cell_of_row _ _ _ _ _ _ U1.out
  have zU1 := lt_of_heap U1.out
  have Z1_0 : W0.cell? ⟨w.heap.size + 1 + 1, 0, none⟩ = some (.int .u64 0) := cell_of_row _ _ _ _ _ _ Z1.out
  have Z1_1 : W0.cell? ⟨w.heap.size + 1 + 1, 1, none⟩ = some (.int .u64 0) := cell_of_row _ _ _ _ _ _ Z1.out
  have Z1_f0 : W0.frozen? ⟨w.heap.size + 1 + 1, 0, none⟩ = false := (by simp [World.frozen?, Z1.out])
  have Z1_f1 : W0.frozen? ⟨w.heap.size + 1 + 1, 1, none⟩ = false := (by simp [World.frozen?, Z1.out])
  have zZ1 := lt_of_heap Z1.out
  have Y1_0 : W0.cell? ⟨w.heap.size + 1 + 1 + 1, 0, none⟩ = some (.int .u64 0) := cell_of_row _ _ _ _ _ _ Y1.out
  have Y1_1 : W0.cell? ⟨w.heap.size + 1 + 1 + 1, 1, none⟩ = some (.int .u64 0) := cell_of_row _ _ _ _ _ _ Y1.out
  have Y1_f0 : W0.frozen? ⟨w.heap.size + 1 + 1 + 1, 0, none⟩ = false := (by simp [World.frozen?, Y1.out])
  have Y1_f1 : W0.frozen? ⟨w.heap.size + 1 + 1 + 1, 1, none⟩ = false := (by simp [World.frozen?, Y1.out])
  have zY1 := lt_of_heap Y1.out
  try rw [← HW0.out]
  go_cut [10, 11, 12] (fun s10 s11 s12 wx => ∃ gQ1 : Nat, s10 = .pointer (some ⟨gQ1, 0, none⟩) ∧ s11 = .int .u64 r ∧ s12 = .int .i64 0 ∧ wx.heap[gQ1]? = some (.cells #[.int .u64 0, .int .u64 k] 24 (0, 0)) ∧ Below W0.heap.size W0 wx)
  case first =>
    go_region_held3 (fun w' => Below W0.heap.size W0 w' ∧ w'.cell? ⟨w.heap.size, 0, none⟩ = some (.int .u64 (zh (A : Int))) ∧ w'.cell? ⟨w.heap.size, 1, none⟩ = some (.int .u64 (zl (A : Int))) ∧ w'.cell? ⟨w.heap.size + 1, 0, none⟩ = some (.int .u64 uh) ∧ w'.cell? ⟨w.heap.size + 1, 1, none⟩ = some (.int .u64 ul))
    (first
      | ((try go_split_ands); refine ⟨(Below.refl _ _).drew, ?_, ?_, ?_, ?_⟩ <;> first | assumption | (rw [World.cell?_drew]; assumption))
      | ((try go_split_ands); refine ⟨keepS (W0 := W0) ?_ hb1, cellS (W0 := W0) ?_ hb1 ?_ ?_, cellS (W0 := W0) ?_ hb1 ?_ ?_, cellS (W0 := W0) ?_ hb1 ?_ ?_, cellS (W0 := W0) ?_ hb1 ?_ ?_⟩ <;> first | assumption | omega)
      | ((try go_split_ands); refine ⟨keepA (W0 := W0) ?_ _, cellA (W0 := W0) ?_ _ ?_ ?_, cellA (W0 := W0) ?_ _ ?_ ?_, cellA (W0 := W0) ?_ _ ?_ ?_, cellA (W0 := W0) ?_ _ ?_ ?_⟩ <;> first | assumption | omega)
      | ((try go_split_ands); refine ⟨keepAd (W0 := W0) ?_ _, cellAd (W0 := W0) ?_ _ ?_ ?_, cellAd (W0 := W0) ?_ _ ?_ ?_, cellAd (W0 := W0) ?_ _ ?_ ?_, cellAd (W0 := W0) ?_ _ ?_ ?_⟩ <;> first | assumption | omega | exact Below.refl _ _)
      | ((try go_split_ands); refine ⟨keep2 (W0 := W0) ?_ ?_ _ _, cell2 (W0 := W0) ?_ _ _ ?_ ?_, cell2 (W0 := W0) ?_ _ _ ?_ ?_, cell2 (W0 := W0) ?_ _ _ ?_ ?_, cell2 (W0 := W0) ?_ _ _ ?_ ?_⟩ <;> first | assumption | omega | exact Nat.le_refl _)
      | ((try go_split_ands); refine ⟨keepZ (W0 := W0) ?_ ?_ _, cellZ (W0 := W0) ?_ _ ?_ ?_, cellZ (W0 := W0) ?_ _ ?_ ?_, cellZ (W0 := W0) ?_ _ ?_ ?_, cellZ (W0 := W0) ?_ _ ?_ ?_⟩ <;> first | assumption | omega | exact Nat.le_refl _ | exact ⟨_, by assumption⟩))
    (first | (go_at_call 68; (with_reducible refine (H2.out _).mono ?_); rintro e w1 ⟨rfl, hb1⟩; (try go_split_ands); have hge : W0.heap.size ≤ w1.heap.size := (by first | (refine (keepS (W0 := W0) ?_ hb1).size; assumption) | exact (hb1.size : W0.heap.size ≤ w1.heap.size)); (try have hrow := row_call hb1 hrow); (try have hrow := row_new hb1); (try have hrow := row_newd hb1); have hl1 := lt_below hb1; obtain ⟨hc1, hf1⟩ := bcell hb1; (try (have hrc := row_cellA hrow; clear hc1 hf1)); (try have hrf := row_frozA hrow)) | (go_at_call 68; (with_reducible refine (H3.out _).mono ?_); rintro e w1 ⟨rfl, hb1⟩; (try go_split_ands); have hge : W0.heap.size ≤ w1.heap.size := (by first | (refine (keepS (W0 := W0) ?_ hb1).size; assumption) | exact (hb1.size : W0.heap.size ≤ w1.heap.size)); (try have hrow := row_call hb1 hrow); (try have hrow := row_new hb1); (try have hrow := row_newd hb1); have hl1 := lt_below hb1; obtain ⟨hc1, hf1⟩ := bcell hb1; (try (have hrc := row_cellA hrow; clear hc1 hf1)); (try have hrf := row_frozA hrow)) | (go_at_call 66; (with_reducible refine (H4.out _).mono ?_); rintro e w1 ⟨rfl, hb1⟩; (try go_split_ands); have hge : W0.heap.size ≤ w1.heap.size := (by first | (refine (keepS (W0 := W0) ?_ hb1).size; assumption) | exact (hb1.size : W0.heap.size ≤ w1.heap.size)); (try have hrow := row_call hb1 hrow); (try have hrow := row_new hb1); (try have hrow := row_newd hb1); have hl1 := lt_below hb1; obtain ⟨hc1, hf1⟩ := bcell hb1; (try (have hrc := row_cellA hrow; clear hc1 hf1)); (try have hrf := row_frozA hrow)))
    all_goals (try go_split_ands)
    all_goals (go_wp2_with fail; go_meet; refine ⟨_, rfl, rfl, rfl, ?_, ?_⟩)
    all_goals first | assumption | exact heap_alloc_new _ _ | exact row_set (by assumption) _ _
  case rest =>
    obtain ⟨gQ1, rfl, rfl, rfl, hQ1, hB⟩ := hcut
    obtain ⟨V2, rfl⟩ : ∃ V, V = wc := ⟨_, rfl⟩
    have Q1 := Lib.hid hQ1
    clear hQ1
    clear N1_0 N1_1 zN1 U1_0 U1_1 zU1 Z1_0 Z1_1 Z1_f0 Z1_f1 zZ1 Y1_0 Y1_1 Y1_f0 Y1_f1 zY1
    replace N1 := Lib.hid (row_call hB N1.out)
    replace U1 := Lib.hid (row_call hB U1.out)
    replace Z1 := Lib.hid (row_call hB Z1.out)
    replace Y1 := Lib.hid (row_call hB Y1.out)
    have B2 := Lib.hid (HB0.out.trans (hB.mono HB0.out.size))
    clear hB
    have N1_0 : V2.cell? ⟨w.heap.size, 0, none⟩ = some (.int .u64 (zh (A : Int))) := cell_of_row _ _ _ _ _ _ N1.out
    have N1_1 : V2.cell? ⟨w.heap.size, 1, none⟩ = some (.int .u64 (zl (A : Int))) := cell_of_row _ _ _ _ _ _ N1.out
    have zN1 := lt_of_heap N1.out
    have U1_0 : V2.cell? ⟨w.heap.size + 1, 0, none⟩ = some (.int .u64 uh) := cell_of_row _ _ _ _ _ _ U1.out
    have U1_1 : V2.cell? ⟨w.heap.size + 1, 1, none⟩ = some (.int .u64 ul) := cell_of_row _ _ _ _ _ _ U1.out
    have zU1 := lt_of_heap U1.out
    have Z1_0 : V2.cell? ⟨w.heap.size + 1 + 1, 0, none⟩ = some (.int .u64 0) := cell_of_row _ _ _ _ _ _ Z1.out
    have Z1_1 : V2.cell? ⟨w.heap.size + 1 + 1, 1, none⟩ = some (.int .u64 0) := cell_of_row _ _ _ _ _ _ Z1.out
    have Z1_f0 : V2.frozen? ⟨w.heap.size + 1 + 1, 0, none⟩ = false := (by simp [World.frozen?, Z1.out])
    have Z1_f1 : V2.frozen? ⟨w.heap.size + 1 + 1, 1, none⟩ = false := (by simp [World.frozen?, Z1.out])
    have zZ1 := lt_of_heap Z1.out
    have Y1_0 : V2.cell? ⟨w.heap.size + 1 + 1 + 1, 0, none⟩ = some (.int .u64 0) := cell_of_row _ _ _ _ _ _ Y1.out
    have Y1_1 : V2.cell? ⟨w.heap.size + 1 + 1 + 1, 1, none⟩ = some (.int .u64 0) := cell_of_row _ _ _ _ _ _ Y1.out
    have Y1_f0 : V2.frozen? ⟨w.heap.size + 1 + 1 + 1, 0, none⟩ = false := (by simp [World.frozen?, Y1.out])
    have Y1_f1 : V2.frozen? ⟨w.heap.size + 1 + 1 + 1, 1, none⟩ = false := (by simp [World.frozen?, Y1.out])
    have zY1 := lt_of_heap Y1.out
    have Q1_0 : V2.cell? ⟨gQ1, 0, none⟩ = some (.int .u64 0) := cell_of_row _ _ _ _ _ _ Q1.out
    have Q1_1 : V2.cell? ⟨gQ1, 1, none⟩ = some (.int .u64 k) := cell_of_row _ _ _ _ _ _ Q1.out
    have zQ1 := lt_of_heap Q1.out
    go_wp2_with fail
    refine (H5.out _).mono ?_
    rintro e V3 ⟨rfl, hb3⟩
    clear N1_0 N1_1 zN1 U1_0 U1_1 zU1 Z1_0 Z1_1 Z1_f0 Z1_f1 zZ1 Y1_0 Y1_1 Y1_f0 Y1_f1 zY1 Q1_0 Q1_1 zQ1
    have B3 : Hid (Below w.heap.size w V3) := by first | exact Lib.hid ((B2.out).trans (hb3.mono (by have := B2.out.size; first | assumption | (simp <;> omega) | (simp; done)))) | exact Lib.hid (((B2.out).alloc (B2.out.size) _).trans (hb3.mono (by have := B2.out.size; first | assumption | (simp <;> omega) | (simp; done)))) | exact Lib.hid ((((B2.out).alloc (B2.out.size) _).alloc (by have := B2.out.size; simp <;> omega) _).trans (hb3.mono (by have := B2.out.size; first | assumption | (simp <;> omega) | (simp; done)))) | exact Lib.hid (((((B2.out).alloc (B2.out.size) _).alloc (by have := B2.out.size; simp <;> omega) _).alloc (by have := B2.out.size; simp <;> omega) _).trans (hb3.mono (by have := B2.out.size; first | assumption | (simp <;> omega) | (simp; done))))
    first | replace N1 := Lib.hid (row_call hb3 N1.out) | replace N1 := Lib.hid (row_call hb3 (row_alloc N1.out _)) | replace N1 := Lib.hid (row_call hb3 (row_alloc (row_alloc N1.out _) _)) | replace N1 := Lib.hid (row_call hb3 (row_alloc (row_alloc (row_alloc N1.out _) _) _))
    first | replace U1 := Lib.hid (row_call hb3 U1.out) | replace U1 := Lib.hid (row_call hb3 (row_alloc U1.out _)) | replace U1 := Lib.hid (row_call hb3 (row_alloc (row_alloc U1.out _) _)) | replace U1 := Lib.hid (row_call hb3 (row_alloc (row_alloc (row_alloc U1.out _) _) _))
    first | replace Z1 := Lib.hid (row_call hb3 Z1.out) | replace Z1 := Lib.hid (row_call hb3 (row_alloc Z1.out _)) | replace Z1 := Lib.hid (row_call hb3 (row_alloc (row_alloc Z1.out _) _)) | replace Z1 := Lib.hid (row_call hb3 (row_alloc (row_alloc (row_alloc Z1.out _) _) _))
    first | replace Y1 := Lib.hid (row_call hb3 Y1.out) | replace Y1 := Lib.hid (row_call hb3 (row_alloc Y1.out _)) | replace Y1 := Lib.hid (row_call hb3 (row_alloc (row_alloc Y1.out _) _)) | replace Y1 := Lib.hid (row_call hb3 (row_alloc (row_alloc (row_alloc Y1.out _) _) _))
    first | replace Q1 := Lib.hid (row_call hb3 Q1.out) | replace Q1 := Lib.hid (row_call hb3 (row_alloc Q1.out _)) | replace Q1 := Lib.hid (row_call hb3 (row_alloc (row_alloc Q1.out _) _)) | replace Q1 := Lib.hid (row_call hb3 (row_alloc (row_alloc (row_alloc Q1.out _) _) _))
    clear hb3
    have N1_0 : V3.cell? ⟨w.heap.size, 0, none⟩ = some (.int .u64 (zh (A : Int))) := cell_of_row _ _ _ _ _ _ N1.out
    have N1_1 : V3.cell? ⟨w.heap.size, 1, none⟩ = some (.int .u64 (zl (A : Int))) := cell_of_row _ _ _ _ _ _ N1.out
    have U1_0 : V3.cell? ⟨w.heap.size + 1, 0, none⟩ = some (.int .u64 uh) := cell_of_row _ _ _ _ _ _ U1.out
    have U1_1 : V3.cell? ⟨w.heap.size + 1, 1, none⟩ = some (.int .u64 ul) := cell_of_row _ _ _ _ _ _ U1.out
    have Z1_0 : V3.cell? ⟨w.heap.size + 1 + 1, 0, none⟩ = some (.int .u64 0) := cell_of_row _ _ _ _ _ _ Z1.out
    have Z1_1 : V3.cell? ⟨w.heap.size + 1 + 1, 1, none⟩ = some (.int .u64 0) := cell_of_row _ _ _ _ _ _ Z1.out
    have Z1_f0 : V3.frozen? ⟨w.heap.size + 1 + 1, 0, none⟩ = false := by simp [World.frozen?, Z1.out]
    have Z1_f1 : V3.frozen? ⟨w.heap.size + 1 + 1, 1, none⟩ = false := by simp [World.frozen?, Z1.out]
    have Y1_0 : V3.cell? ⟨w.heap.size + 1 + 1 + 1, 0, none⟩ = some (.int .u64 0) := cell_of_row _ _ _ _ _ _ Y1.out
    have Y1_1 : V3.cell? ⟨w.heap.size + 1 + 1 + 1, 1, none⟩ = some (.int .u64 0) := cell_of_row _ _ _ _ _ _ Y1.out
    have Y1_f0 : V3.frozen? ⟨w.heap.size + 1 + 1 + 1, 0, none⟩ = false := by simp [World.frozen?, Y1.out]
    have Y1_f1 : V3.frozen? ⟨w.heap.size + 1 + 1 + 1, 1, none⟩ = false := by simp [World.frozen?, Y1.out]
    have Q1_0 : V3.cell? ⟨gQ1, 0, none⟩ = some (.int .u64 0) := cell_of_row _ _ _ _ _ _ Q1.out
    have Q1_1 : V3.cell? ⟨gQ1, 1, none⟩ = some (.int .u64 k) := cell_of_row _ _ _ _ _ _ Q1.out
    have zN1 := lt_of_heap N1.out
    have zU1 := lt_of_heap U1.out
    have zZ1 := lt_of_heap Z1.out
    have zY1 := lt_of_heap Y1.out
    have zQ1 := lt_of_heap Q1.out
    go_simp
    go_wp2_with fail
    refine (H6.out _).mono ?_
    rintro e V4 ⟨rfl, hb4⟩
    clear N1_0 N1_1 zN1 U1_0 U1_1 zU1 Z1_0 Z1_1 Z1_f0 Z1_f1 zZ1 Y1_0 Y1_1 Y1_f0 Y1_f1 zY1 Q1_0 Q1_1 zQ1
    have nN1P1 := Lib.hid (lt_of_heap N1.out)
    have nU1P1 := Lib.hid (lt_of_heap U1.out)
    have nZ1P1 := Lib.hid (lt_of_heap Z1.out)
    have nY1P1 := Lib.hid (lt_of_heap Y1.out)
    have nQ1P1 := Lib.hid (lt_of_heap Q1.out)
    have B4 := Lib.hid (((B3.out).alloc (B3.out.size) _).trans (hb4.mono (by have := B3.out.size; first | assumption | (simp <;> omega) | (simp; done))))
    replace N1 := Lib.hid (row_call hb4 (row_alloc N1.out _))
    replace U1 := Lib.hid (row_call hb4 (row_alloc U1.out _))
    replace Z1 := Lib.hid (row_call hb4 (row_alloc Z1.out _))
    replace Y1 := Lib.hid (row_call hb4 (row_alloc Y1.out _))
    replace Q1 := Lib.hid (row_call hb4 (row_alloc Q1.out _))
    have P1 := Lib.hid (row_call hb4 (heap_alloc_new _ _))
    clear hb4
    have N1_0 : V4.cell? ⟨w.heap.size, 0, none⟩ = some (.int .u64 (zh (A : Int))) := cell_of_row _ _ _ _ _ _ N1.out
    have N1_1 : V4.cell? ⟨w.heap.size, 1, none⟩ = some (.int .u64 (zl (A : Int))) := cell_of_row _ _ _ _ _ _ N1.out
    have U1_0 : V4.cell? ⟨w.heap.size + 1, 0, none⟩ = some (.int .u64 uh) := cell_of_row _ _ _ _ _ _ U1.out
    have U1_1 : V4.cell? ⟨w.heap.size + 1, 1, none⟩ = some (.int .u64 ul) := cell_of_row _ _ _ _ _ _ U1.out
    have Z1_0 : V4.cell? ⟨w.heap.size + 1 + 1, 0, none⟩ = some (.int .u64 0) := cell_of_row _ _ _ _ _ _ Z1.out
    have Z1_1 : V4.cell? ⟨w.heap.size + 1 + 1, 1, none⟩ = some (.int .u64 0) := cell_of_row _ _ _ _ _ _ Z1.out
    have Z1_f0 : V4.frozen? ⟨w.heap.size + 1 + 1, 0, none⟩ = false := by simp [World.frozen?, Z1.out]
    have Z1_f1 : V4.frozen? ⟨w.heap.size + 1 + 1, 1, none⟩ = false := by simp [World.frozen?, Z1.out]
    have Y1_0 : V4.cell? ⟨w.heap.size + 1 + 1 + 1, 0, none⟩ = some (.int .u64 0) := cell_of_row _ _ _ _ _ _ Y1.out
    have Y1_1 : V4.cell? ⟨w.heap.size + 1 + 1 + 1, 1, none⟩ = some (.int .u64 0) := cell_of_row _ _ _ _ _ _ Y1.out
    have Y1_f0 : V4.frozen? ⟨w.heap.size + 1 + 1 + 1, 0, none⟩ = false := by simp [World.frozen?, Y1.out]
    have Y1_f1 : V4.frozen? ⟨w.heap.size + 1 + 1 + 1, 1, none⟩ = false := by simp [World.frozen?, Y1.out]
    have Q1_0 : V4.cell? ⟨gQ1, 0, none⟩ = some (.int .u64 0) := cell_of_row _ _ _ _ _ _ Q1.out
    have Q1_1 : V4.cell? ⟨gQ1, 1, none⟩ = some (.int .u64 k) := cell_of_row _ _ _ _ _ _ Q1.out
    have P1_0 : V4.cell? ⟨V3.heap.size, 0, none⟩ = some (.int .u64 xh) := cell_of_row _ _ _ _ _ _ P1.out
    have P1_1 : V4.cell? ⟨V3.heap.size, 1, none⟩ = some (.int .u64 pl) := cell_of_row _ _ _ _ _ _ P1.out
    have zN1 := lt_of_heap N1.out
    have zU1 := lt_of_heap U1.out
    have zZ1 := lt_of_heap Z1.out
    have zY1 := lt_of_heap Y1.out
    have zQ1 := lt_of_heap Q1.out
    have zP1 := lt_of_heap P1.out
    go_simp
    go_wp2_with fail
    have nN1D1 := Lib.hid (lt_of_heap N1.out)
    have nU1D1 := Lib.hid (lt_of_heap U1.out)
    have nZ1D1 := Lib.hid (lt_of_heap Z1.out)
    have nlZ1D1 : ¬ (w.heap.size + 1 + 1 = V4.heap.size) := Nat.ne_of_lt (lt_of_heap Z1.out)
    have nrZ1D1 : ¬ (V4.heap.size = w.heap.size + 1 + 1) := Ne.symm (Nat.ne_of_lt (lt_of_heap Z1.out))
    have nY1D1 := Lib.hid (lt_of_heap Y1.out)
    have nlY1D1 : ¬ (w.heap.size + 1 + 1 + 1 = V4.heap.size) := Nat.ne_of_lt (lt_of_heap Y1.out)
    have nrY1D1 : ¬ (V4.heap.size = w.heap.size + 1 + 1 + 1) := Ne.symm (Nat.ne_of_lt (lt_of_heap Y1.out))
    have nQ1D1 := Lib.hid (lt_of_heap Q1.out)
    have nP1D1 := Lib.hid (lt_of_heap P1.out)
    clear N1_0 N1_1 zN1 U1_0 U1_1 zU1 Z1_0 Z1_1 Z1_f0 Z1_f1 zZ1 Y1_0 Y1_1 Y1_f0 Y1_f1 zY1 Q1_0 Q1_1 zQ1 P1_0 P1_1 zP1
    obtain ⟨W0, hW0⟩ : ∃ W0, W0 = (V4.alloc (Obj.cells #[Value.int .u64 (zh D), Value.int .u64 (zl D)] 24)) := ⟨_, rfl⟩
    replace N1 := Lib.hid (row_by hW0 (row_alloc N1.out _))
    replace U1 := Lib.hid (row_by hW0 (row_alloc U1.out _))
    replace Z1 := Lib.hid (row_by hW0 (row_alloc Z1.out _))
    replace Y1 := Lib.hid (row_by hW0 (row_alloc Y1.out _))
    replace Q1 := Lib.hid (row_by hW0 (row_alloc Q1.out _))
    replace P1 := Lib.hid (row_by hW0 (row_alloc P1.out _))
    have D1 := Lib.hid (row_at (k' := V4.heap.size) (by simp) (row_by hW0 (heap_alloc_new _ _)))
    have HB0 := Lib.hid (below_by hW0 ((B4.out).alloc (by have := B4.out.size; simp <;> omega) _))
    have HW0 := Lib.hid hW0
    clear hW0
    have N1_0 : W0.cell? ⟨w.heap.size, 0, none⟩ = some (.int .u64 (zh (A : Int))) := cell_of_row _ _ _ _ _ _ N1.out
    have N1_1 : W0.cell? ⟨w.heap.size, 1, none⟩ = some (.int .u64 (zl (A : Int))) := cell_of_row _ _ _ _ _ _ N1.out
    have zN1 := lt_of_heap N1.out
    have U1_0 : W0.cell? ⟨w.heap.size + 1, 0, none⟩ = some (.int .u64 uh) := cell_of_row _ _ _ _ _ _ U1.out
    have U1_1 : W0.cell? ⟨w.heap.size + 1, 1, none⟩ = some (.int .u64 ul) := cell_of_row _ _ _ _ _ _ U1.out
    have zU1 := lt_of_heap U1.out
    have Z1_0 : W0.cell? ⟨w.heap.size + 1 + 1, 0, none⟩ = some (.int .u64 0) := cell_of_row _ _ _ _ _ _ Z1.out
    have Z1_1 : W0.cell? ⟨w.heap.size + 1 + 1, 1, none⟩ = some (.int .u64 0) := cell_of_row _ _ _ _ _ _ Z1.out
    have Z1_f0 : W0.frozen? ⟨w.heap.size + 1 + 1, 0, none⟩ = false := (by simp [World.frozen?, Z1.out])
    have Z1_f1 : W0.frozen? ⟨w.heap.size + 1 + 1, 1, none⟩ = false := (by simp [World.frozen?, Z1.out])
    have zZ1 := lt_of_heap Z1.out
    have Y1_0 : W0.cell? ⟨w.heap.size + 1 + 1 + 1, 0, none⟩ = some (.int .u64 0) := cell_of_row _ _ _ _ _ _ Y1.out
    have Y1_1 : W0.cell? ⟨w.heap.size + 1 + 1 + 1, 1, none⟩ = some (.int .u64 0) := cell_of_row _ _ _ _ _ _ Y1.out
    have Y1_f0 : W0.frozen? ⟨w.heap.size + 1 + 1 + 1, 0, none⟩ = false := (by simp [World.frozen?, Y1.out])
    have Y1_f1 : W0.frozen? ⟨w.heap.size + 1 + 1 + 1, 1, none⟩ = false := (by simp [World.frozen?, Y1.out])
    have zY1 := lt_of_heap Y1.out
    have Q1_0 : W0.cell? ⟨gQ1, 0, none⟩ = some (.int .u64 0) := cell_of_row _ _ _ _ _ _ Q1.out
    have Q1_1 : W0.cell? ⟨gQ1, 1, none⟩ = some (.int .u64 k) := cell_of_row _ _ _ _ _ _ Q1.out
    have zQ1 := lt_of_heap Q1.out
    have P1_0 : W0.cell? ⟨V3.heap.size, 0, none⟩ = some (.int .u64 xh) := cell_of_row _ _ _ _ _ _ P1.out
    have P1_1 : W0.cell? ⟨V3.heap.size, 1, none⟩ = some (.int .u64 pl) := cell_of_row _ _ _ _ _ _ P1.out
    have zP1 := lt_of_heap P1.out
    have D1_0 : W0.cell? ⟨V4.heap.size, 0, none⟩ = some (.int .u64 (zh D)) := cell_of_row _ _ _ _ _ _ D1.out
    have D1_1 : W0.cell? ⟨V4.heap.size, 1, none⟩ = some (.int .u64 (zl D)) := cell_of_row _ _ _ _ _ _ D1.out
    have D1_f0 : W0.frozen? ⟨V4.heap.size, 0, none⟩ = false := (by simp [World.frozen?, D1.out])
    have D1_f1 : W0.frozen? ⟨V4.heap.size, 1, none⟩ = false := (by simp [World.frozen?, D1.out])
    have zD1 := lt_of_heap D1.out
    try rw [← HW0.out]
    go_region_with (fail)
    all_goals go_wp2
    all_goals refine shut_ret (v := .tuple #[.agg #[.int .u64 0, .int .u64 k], .agg #[.int .u64 (zh D), .int .u64 (zl D)]]) (by simp [results, Try.results45, go_sem, zZ1, Z1_0, Z1_1, zY1, Y1_0, Y1_1]) rfl ⟨rfl, ?_⟩
    all_goals exact keep2 (keep2 HB0.out.drew (by omega) _ _) (by omega) _ _
set_option maxHeartbeats 3200000 in
set_option maxRecDepth 100000 in
theorem divide_more (A uh ul c k k1 r ph pl m xh : Nat) (D R : Int) (cy : Bool) (v : Nat) (ah al vh : Nat) (w : World) (huh : ¬ uh = 0) (uU : U uh)
    (hc : Lib.bitLen uh = c)
    (H2 : Hid (∀ w, Calls Try.prog 68 #[.agg #[.int .u64 (zh (A : Int)), .int .u64 (zl (A : Int))], .int .i64 c] w fun e w' => e = .returned (.agg #[.int .u64 ah, .int .u64 al]) ∧ Below w.heap.size w w'))
    (H3 : Hid (∀ w, Calls Try.prog 68 #[.agg #[.int .u64 uh, .int .u64 ul], .int .i64 c] w fun e w' => e = .returned (.agg #[.int .u64 vh, .int .u64 v]) ∧ Below w.heap.size w w'))
    (H4 : Hid (∀ w, Calls Try.prog 66 #[.agg #[.int .u64 ah, .int .u64 al], .int .u64 v] w fun e w' => e = .returned (.tuple #[.agg #[.int .u64 0, .int .u64 k], .int .u64 r, .int .i64 0]) ∧ Below w.heap.size w w'))
    (H5 : Hid (∀ w, Calls Try.prog 69 #[.int .u64 k, .int .u64 ul] w fun e w' => e = .returned (.agg #[.int .u64 ph, .int .u64 pl]) ∧ Below w.heap.size w w'))
    (g1 : IntKind.u64.wrap ((k : Int) * (uh : Int)) = (m : Int)) (g2 : IntKind.u64.wrap ((ph : Int) + (m : Int)) = (xh : Int))
    (H6 : Hid (∀ w, Calls Try.prog 43 #[.agg #[.int .u64 (zh (A : Int)), .int .u64 (zl (A : Int))], .agg #[.int .u64 xh, .int .u64 pl]] w fun e w' => e = .returned (.tuple #[.agg #[.int .u64 (zh D), .int .u64 (zl D)], .bool true]) ∧ Below w.heap.size w w'))
    (g3 : IntKind.u64.wrap ((k : Int) - 1) = (k1 : Int))
    (H7 : Hid (∀ w, Calls Try.prog 47 #[.agg #[.int .u64 (zh D), .int .u64 (zl D)], .agg #[.int .u64 uh, .int .u64 ul]] w fun e w' => e = .returned (.tuple #[.agg #[.int .u64 (zh R), .int .u64 (zl R)], .bool cy]) ∧ Below w.heap.size w w')) :
    Calls Try.prog 45 #[.agg #[.int .u64 (zh (A : Int)), .int .u64 (zl (A : Int))], .agg #[.int .u64 uh, .int .u64 ul]] w fun e w' => e = .returned (.tuple #[.agg #[.int .u64 0, .int .u64 k1], .agg #[.int .u64 (zh R), .int .u64 (zl R)]]) ∧ Below w.heap.size w w' := by
  have f0 : ((uh : Int) == 0) = false := by rw [beq_eq_false_iff_ne]; omega
  have H1 : Hid (∀ w, Calls Try.prog 67 #[.int .u64 uh] w fun e w' => e = .returned (.int .i64 c) ∧ Below w.heap.size w w') := Lib.hid (fun w => by
    have h := Try.bits_Len64 uh w (by omega) (by unfold U at uU; omega)
    rw [Int.toNat_natCast, hc] at h
    exact h.mono (fun e w' h => ⟨h.1, by rw [h.2]; exact Below.refl _ _⟩))
  clear huh uU hc
  have hfd := fieldW1
  go_enter Try.func45, Try.ntmps45
  refine wp_shut ?_
  go_wp2_with fail
  
  refine (H1.out _).mono ?_
  rintro e V1 ⟨rfl, hb1⟩
  have B1 := Lib.hid ((((((Below.refl w.heap.size w).alloc (Nat.le_refl _) _).alloc (by simp <;> omega) _).alloc (by simp <;> omega) _).alloc (by simp <;> omega) _).trans (hb1.mono (by first | assumption | (simp <;> omega) | (simp; done))))
  have N1 := Lib.hid (row_call hb1 (row_alloc (row_alloc (row_alloc (heap_alloc_new _ _) _) _) _))
  have U1 := Lib.hid (row_at (k' := w.heap.size + 1) (by simp) (row_call hb1 (row_alloc (row_alloc (heap_alloc_new _ _) _) _)))
  have Z1 := Lib.hid (row_at (k' := w.heap.size + 1 + 1) (by simp) (row_call hb1 (row_alloc (heap_alloc_new _ _) _)))
  have Y1 := Lib.hid (row_at (k' := w.heap.size + 1 + 1 + 1) (by simp) (row_call hb1 (heap_alloc_new _ _)))
  clear hb1
  have N1_0 : V1.cell? ⟨w.heap.size, 0, none⟩ = some (.int .u64 (zh (A : Int))) := cell_of_row _ _ _ _ _ _ N1.out
  have N1_1 : V1.cell? ⟨w.heap.size, 1, none⟩ = some (.int .u64 (zl (A : Int))) := cell_of_row _ _ _ _ _ _ N1.out
  have U1_0 : V1.cell? ⟨w.heap.size + 1, 0, none⟩ = some (.int .u64 uh) := cell_of_row _ _ _ _ _ _ U1.out
  have U1_1 : V1.cell? ⟨w.heap.size + 1, 1, none⟩ = some (.int .u64 ul) := cell_of_row _ _ _ _ _ _ U1.out
  have U1_f0 : V1.frozen? ⟨w.heap.size + 1, 0, none⟩ = false := by simp [World.frozen?, U1.out]
  have U1_f1 : V1.frozen? ⟨w.heap.size + 1, 1, none⟩ = false := by simp [World.frozen?, U1.out]
  have Z1_0 : V1.cell? ⟨w.heap.size + 1 + 1, 0, none⟩ = some (.int .u64 0) := cell_of_row _ _ _ _ _ _ Z1.out
  have Z1_1 : V1.cell? ⟨w.heap.size + 1 + 1, 1, none⟩ = some (.int .u64 0) := cell_of_row _ _ _ _ _ _ Z1.out
  have Z1_f0 : V1.frozen? ⟨w.heap.size + 1 + 1, 0, none⟩ = false := by simp [World.frozen?, Z1.out]
  have Z1_f1 : V1.frozen? ⟨w.heap.size + 1 + 1, 1, none⟩ = false := by simp [World.frozen?, Z1.out]
  have Y1_0 : V1.cell? ⟨w.heap.size + 1 + 1 + 1, 0, none⟩ = some (.int .u64 0) := cell_of_row _ _ _ _ _ _ Y1.out
  have Y1_1 : V1.cell? ⟨w.heap.size + 1 + 1 + 1, 1, none⟩ = some (.int .u64 0) := cell_of_row _ _ _ _ _ _ Y1.out
  have Y1_f0 : V1.frozen? ⟨w.heap.size + 1 + 1 + 1, 0, none⟩ = false := by simp [World.frozen?, Y1.out]
  have Y1_f1 : V1.frozen? ⟨w.heap.size + 1 + 1 + 1, 1, none⟩ = false := by simp [World.frozen?, Y1.out]
  have zN1 := lt_of_heap N1.out
  have zU1 := lt_of_heap U1.out
  have zZ1 := lt_of_heap Z1.out
  have zY1 := lt_of_heap Y1.out
  go_simp
  go_wp2_with fail
  clear N1_0 N1_1 zN1 U1_0 U1_1 U1_f0 U1_f1 zU1 Z1_0 Z1_1 Z1_f0 Z1_f1 zZ1 Y1_0 Y1_1 Y1_f0 Y1_f1 zY1
  obtain ⟨W0, hW0⟩ : ∃ W0, W0 = V1 := ⟨_, rfl⟩
  replace N1 := Lib.hid (row_by hW0 N1.out)
  replace U1 := Lib.hid (row_by hW0 U1.out)
  replace Z1 := Lib.hid (row_by hW0 Z1.out)
  replace Y1 := Lib.hid (row_by hW0 Y1.out)
  have HB0 := Lib.hid (below_by hW0 (B1.out))
  have HW0 := Lib.hid hW0
  clear hW0
  have N1_0 : W0.cell? ⟨w.heap.size, 0, none⟩ = some (.int .u64 (zh (A : Int))) := cell_of_row _ _ _ _ _ _ N1.out
  have N1_1 : W0.cell? ⟨w.heap.size, 1, none⟩ = some (.int .u64 (zl (A : Int))) := cell_of_row _ _ _ _ _ _ N1.out
  have zN1 := lt_of_heap N1.out
  have U1_0 : W0.cell? ⟨w.heap.size + 1, 0, none⟩ = some (.int .u64 uh) := cell_of_row _ _ _ _ _ _ U1.out
  have U1_1 : W0.cell? ⟨w.heap.size + 1, 1, none⟩ = some (.int .u64 ul) := cell_of_row _ _ _ _ _ _ U1.out
  have U1_f0 : W0.frozen? ⟨w.heap.size + 1, 0, none⟩ = false := (by simp [World.frozen?, U1.out])
  have U1_f1 : W0.frozen? ⟨w.heap.size + 1, 1, none⟩ = false := (by simp [World.frozen?, U1.out])
  have zU1 := lt_of_heap U1.out
  have Z1_0 : W0.cell? ⟨w.heap.size + 1 + 1, 0, none⟩ = some (.int .u64 0) := cell_of_row _ _ _ _ _ _ Z1.out
  have Z1_1 : W0.cell? ⟨w.heap.size + 1 + 1, 1, none⟩ = some (.int .u64 0) := cell_of_row _ _ _ _ _ _ Z1.out
  have Z1_f0 : W0.frozen? ⟨w.heap.size + 1 + 1, 0, none⟩ = false := (by simp [World.frozen?, Z1.out])
  have Z1_f1 : W0.frozen? ⟨w.heap.size + 1 + 1, 1, none⟩ = false := (by simp [World.frozen?, Z1.out])
  have zZ1 := lt_of_heap Z1.out
  have Y1_0 : W0.cell? ⟨w.heap.size + 1 + 1 + 1, 0, none⟩ = some (.int .u64 0) := cell_of_row _ _ _ _ _ _ Y1.out
  have Y1_1 : W0.cell? ⟨w.heap.size + 1 + 1 + 1, 1, none⟩ = some (.int .u64 0) := cell_of_row _ _ _ _ _ _ Y1.out
  have Y1_f0 : W0.frozen? ⟨w.heap.size + 1 + 1 + 1, 0, none⟩ = false := (by simp [World.frozen?, Y1.out])
  have Y1_f1 : W0.frozen? ⟨w.heap.size + 1 + 1 + 1, 1, none⟩ = false := (by simp [World.frozen?, Y1.out])
  have zY1 := lt_of_heap Y1.out
  try rw [← HW0.out]
  go_cut [10, 11, 12] (fun s10 s11 s12 wx => ∃ gQ1 : Nat, s10 = .pointer (some ⟨gQ1, 0, none⟩) ∧ s11 = .int .u64 r ∧ s12 = .int .i64 0 ∧ wx.heap[gQ1]? = some (.cells #[.int .u64 0, .int .u64 k] 24 (0, 0)) ∧ W0.heap.size ≤ gQ1 ∧ Below W0.heap.size W0 wx)
  case first =>
    go_region_held3 (fun w' => Below W0.heap.size W0 w' ∧ w'.cell? ⟨w.heap.size, 0, none⟩ = some (.int .u64 (zh (A : Int))) ∧ w'.cell? ⟨w.heap.size, 1, none⟩ = some (.int .u64 (zl (A : Int))) ∧ w'.cell? ⟨w.heap.size + 1, 0, none⟩ = some (.int .u64 uh) ∧ w'.cell? ⟨w.heap.size + 1, 1, none⟩ = some (.int .u64 ul))
    (first
      | ((try go_split_ands); refine ⟨(Below.refl _ _).drew, ?_, ?_, ?_, ?_⟩ <;> first | assumption | (rw [World.cell?_drew]; assumption))
      | ((try go_split_ands); refine ⟨keepS (W0 := W0) ?_ hb1, cellS (W0 := W0) ?_ hb1 ?_ ?_, cellS (W0 := W0) ?_ hb1 ?_ ?_, cellS (W0 := W0) ?_ hb1 ?_ ?_, cellS (W0 := W0) ?_ hb1 ?_ ?_⟩ <;> first | assumption | omega)
      | ((try go_split_ands); refine ⟨keepA (W0 := W0) ?_ _, cellA (W0 := W0) ?_ _ ?_ ?_, cellA (W0 := W0) ?_ _ ?_ ?_, cellA (W0 := W0) ?_ _ ?_ ?_, cellA (W0 := W0) ?_ _ ?_ ?_⟩ <;> first | assumption | omega)
      | ((try go_split_ands); refine ⟨keepAd (W0 := W0) ?_ _, cellAd (W0 := W0) ?_ _ ?_ ?_, cellAd (W0 := W0) ?_ _ ?_ ?_, cellAd (W0 := W0) ?_ _ ?_ ?_, cellAd (W0 := W0) ?_ _ ?_ ?_⟩ <;> first | assumption | omega | exact Below.refl _ _)
      | ((try go_split_ands); refine ⟨keep2 (W0 := W0) ?_ ?_ _ _, cell2 (W0 := W0) ?_ _ _ ?_ ?_, cell2 (W0 := W0) ?_ _ _ ?_ ?_, cell2 (W0 := W0) ?_ _ _ ?_ ?_, cell2 (W0 := W0) ?_ _ _ ?_ ?_⟩ <;> first | assumption | omega | exact Nat.le_refl _)
      | ((try go_split_ands); refine ⟨keepZ (W0 := W0) ?_ ?_ _, cellZ (W0 := W0) ?_ _ ?_ ?_, cellZ (W0 := W0) ?_ _ ?_ ?_, cellZ (W0 := W0) ?_ _ ?_ ?_, cellZ (W0 := W0) ?_ _ ?_ ?_⟩ <;> first | assumption | omega | exact Nat.le_refl _ | exact ⟨_, by assumption⟩))
    (first | (go_at_call 68; (with_reducible refine (H2.out _).mono ?_); rintro e w1 ⟨rfl, hb1⟩; (try go_split_ands); have hge : W0.heap.size ≤ w1.heap.size := (by first | (refine (keepS (W0 := W0) ?_ hb1).size; assumption) | exact (hb1.size : W0.heap.size ≤ w1.heap.size)); (try have hrow := row_call hb1 hrow); (try have hrow := row_new hb1); (try have hrow := row_newd hb1); have hl1 := lt_below hb1; obtain ⟨hc1, hf1⟩ := bcell hb1; (try (have hrc := row_cellA hrow; clear hc1 hf1)); (try have hrf := row_frozA hrow)) | (go_at_call 68; (with_reducible refine (H3.out _).mono ?_); rintro e w1 ⟨rfl, hb1⟩; (try go_split_ands); have hge : W0.heap.size ≤ w1.heap.size := (by first | (refine (keepS (W0 := W0) ?_ hb1).size; assumption) | exact (hb1.size : W0.heap.size ≤ w1.heap.size)); (try have hrow := row_call hb1 hrow); (try have hrow := row_new hb1); (try have hrow := row_newd hb1); have hl1 := lt_below hb1; obtain ⟨hc1, hf1⟩ := bcell hb1; (try (have hrc := row_cellA hrow; clear hc1 hf1)); (try have hrf := row_frozA hrow)) | (go_at_call 66; (with_reducible refine (H4.out _).mono ?_); rintro e w1 ⟨rfl, hb1⟩; (try go_split_ands); have hge : W0.heap.size ≤ w1.heap.size := (by first | (refine (keepS (W0 := W0) ?_ hb1).size; assumption) | exact (hb1.size : W0.heap.size ≤ w1.heap.size)); (try have hrow := row_call hb1 hrow); (try have hrow := row_new hb1); (try have hrow := row_newd hb1); have hl1 := lt_below hb1; obtain ⟨hc1, hf1⟩ := bcell hb1; (try (have hrc := row_cellA hrow; clear hc1 hf1)); (try have hrf := row_frozA hrow)))
    all_goals (try go_split_ands)
    all_goals (go_wp2_with fail; go_meet; refine ⟨_, rfl, rfl, rfl, ?_, ?_, ?_⟩)
    all_goals first | assumption | exact heap_alloc_new _ _ | exact row_set (by assumption) _ _ | omega | (simp; omega)
  case rest =>
    obtain ⟨gQ1, rfl, rfl, rfl, hQ1, lQ1, hB⟩ := hcut
    have nN1Q1 := Lib.hid (Nat.lt_of_lt_of_le zN1 lQ1)
    have nU1Q1 := Lib.hid (Nat.lt_of_lt_of_le zU1 lQ1)
    have nlU1Q1 : ¬ (w.heap.size + 1 = gQ1) := Nat.ne_of_lt (Nat.lt_of_lt_of_le zU1 lQ1)
    have nrU1Q1 : ¬ (gQ1 = w.heap.size + 1) := Ne.symm (Nat.ne_of_lt (Nat.lt_of_lt_of_le zU1 lQ1))
    have nZ1Q1 := Lib.hid (Nat.lt_of_lt_of_le zZ1 lQ1)
    have nlZ1Q1 : ¬ (w.heap.size + 1 + 1 = gQ1) := Nat.ne_of_lt (Nat.lt_of_lt_of_le zZ1 lQ1)
    have nrZ1Q1 : ¬ (gQ1 = w.heap.size + 1 + 1) := Ne.symm (Nat.ne_of_lt (Nat.lt_of_lt_of_le zZ1 lQ1))
    have nY1Q1 := Lib.hid (Nat.lt_of_lt_of_le zY1 lQ1)
    have nlY1Q1 : ¬ (w.heap.size + 1 + 1 + 1 = gQ1) := Nat.ne_of_lt (Nat.lt_of_lt_of_le zY1 lQ1)
    have nrY1Q1 : ¬ (gQ1 = w.heap.size + 1 + 1 + 1) := Ne.symm (Nat.ne_of_lt (Nat.lt_of_lt_of_le zY1 lQ1))
    have LQ1 := Lib.hid (Nat.le_trans HB0.out.size lQ1)
    clear lQ1
    obtain ⟨V2, rfl⟩ : ∃ V, V = wc := ⟨_, rfl⟩
    have Q1 := Lib.hid hQ1
    clear hQ1
    clear N1_0 N1_1 zN1 U1_0 U1_1 U1_f0 U1_f1 zU1 Z1_0 Z1_1 Z1_f0 Z1_f1 zZ1 Y1_0 Y1_1 Y1_f0 Y1_f1 zY1
    replace N1 := Lib.hid (row_call hB N1.out)
    replace U1 := Lib.hid (row_call hB U1.out)
    replace Z1 := Lib.hid (row_call hB Z1.out)
    replace Y1 := Lib.hid (row_call hB Y1.out)
    have B2 := Lib.hid (HB0.out.trans (hB.mono HB0.out.size))
    clear hB
    have N1_0 : V2.cell? ⟨w.heap.size, 0, none⟩ = some (.int .u64 (zh (A : Int))) := cell_of_row _ _ _ _ _ _ N1.out
    have N1_1 : V2.cell? ⟨w.heap.size, 1, none⟩ = some (.int .u64 (zl (A : Int))) := cell_of_row _ _ _ _ _ _ N1.out
    have zN1 := lt_of_heap N1.out
    have U1_0 : V2.cell? ⟨w.heap.size + 1, 0, none⟩ = some (.int .u64 uh) := cell_of_row _ _ _ _ _ _ U1.out
    have U1_1 : V2.cell? ⟨w.heap.size + 1, 1, none⟩ = some (.int .u64 ul) := cell_of_row _ _ _ _ _ _ U1.out
    have U1_f0 : V2.frozen? ⟨w.heap.size + 1, 0, none⟩ = false := (by simp [World.frozen?, U1.out])
    have U1_f1 : V2.frozen? ⟨w.heap.size + 1, 1, none⟩ = false := (by simp [World.frozen?, U1.out])
    have zU1 := lt_of_heap U1.out
    have Z1_0 : V2.cell? ⟨w.heap.size + 1 + 1, 0, none⟩ = some (.int .u64 0) := cell_of_row _ _ _ _ _ _ Z1.out
    have Z1_1 : V2.cell? ⟨w.heap.size + 1 + 1, 1, none⟩ = some (.int .u64 0) := cell_of_row _ _ _ _ _ _ Z1.out
    have Z1_f0 : V2.frozen? ⟨w.heap.size + 1 + 1, 0, none⟩ = false := (by simp [World.frozen?, Z1.out])
    have Z1_f1 : V2.frozen? ⟨w.heap.size + 1 + 1, 1, none⟩ = false := (by simp [World.frozen?, Z1.out])
    have zZ1 := lt_of_heap Z1.out
    have Y1_0 : V2.cell? ⟨w.heap.size + 1 + 1 + 1, 0, none⟩ = some (.int .u64 0) := cell_of_row _ _ _ _ _ _ Y1.out
    have Y1_1 : V2.cell? ⟨w.heap.size + 1 + 1 + 1, 1, none⟩ = some (.int .u64 0) := cell_of_row _ _ _ _ _ _ Y1.out
    have Y1_f0 : V2.frozen? ⟨w.heap.size + 1 + 1 + 1, 0, none⟩ = false := (by simp [World.frozen?, Y1.out])
    have Y1_f1 : V2.frozen? ⟨w.heap.size + 1 + 1 + 1, 1, none⟩ = false := (by simp [World.frozen?, Y1.out])
    have zY1 := lt_of_heap Y1.out
    have Q1_0 : V2.cell? ⟨gQ1, 0, none⟩ = some (.int .u64 0) := cell_of_row _ _ _ _ _ _ Q1.out
    have Q1_1 : V2.cell? ⟨gQ1, 1, none⟩ = some (.int .u64 k) := cell_of_row _ _ _ _ _ _ Q1.out
    have Q1_f0 : V2.frozen? ⟨gQ1, 0, none⟩ = false := (by simp [World.frozen?, Q1.out])
    have Q1_f1 : V2.frozen? ⟨gQ1, 1, none⟩ = false := (by simp [World.frozen?, Q1.out])
    have zQ1 := lt_of_heap Q1.out
    go_wp2_with fail
    refine (H5.out _).mono ?_
    rintro e V3 ⟨rfl, hb3⟩
    clear N1_0 N1_1 zN1 U1_0 U1_1 U1_f0 U1_f1 zU1 Z1_0 Z1_1 Z1_f0 Z1_f1 zZ1 Y1_0 Y1_1 Y1_f0 Y1_f1 zY1 Q1_0 Q1_1 Q1_f0 Q1_f1 zQ1
    have B3 : Hid (Below w.heap.size w V3) := by first | exact Lib.hid ((B2.out).trans (hb3.mono (by have := B2.out.size; first | assumption | (simp <;> omega) | (simp; done)))) | exact Lib.hid (((B2.out).alloc (B2.out.size) _).trans (hb3.mono (by have := B2.out.size; first | assumption | (simp <;> omega) | (simp; done)))) | exact Lib.hid ((((B2.out).alloc (B2.out.size) _).alloc (by have := B2.out.size; simp <;> omega) _).trans (hb3.mono (by have := B2.out.size; first | assumption | (simp <;> omega) | (simp; done)))) | exact Lib.hid (((((B2.out).alloc (B2.out.size) _).alloc (by have := B2.out.size; simp <;> omega) _).alloc (by have := B2.out.size; simp <;> omega) _).trans (hb3.mono (by have := B2.out.size; first | assumption | (simp <;> omega) | (simp; done))))
    first | replace N1 := Lib.hid (row_call hb3 N1.out) | replace N1 := Lib.hid (row_call hb3 (row_alloc N1.out _)) | replace N1 := Lib.hid (row_call hb3 (row_alloc (row_alloc N1.out _) _)) | replace N1 := Lib.hid (row_call hb3 (row_alloc (row_alloc (row_alloc N1.out _) _) _))
    first | replace U1 := Lib.hid (row_call hb3 U1.out) | replace U1 := Lib.hid (row_call hb3 (row_alloc U1.out _)) | replace U1 := Lib.hid (row_call hb3 (row_alloc (row_alloc U1.out _) _)) | replace U1 := Lib.hid (row_call hb3 (row_alloc (row_alloc (row_alloc U1.out _) _) _))
    first | replace Z1 := Lib.hid (row_call hb3 Z1.out) | replace Z1 := Lib.hid (row_call hb3 (row_alloc Z1.out _)) | replace Z1 := Lib.hid (row_call hb3 (row_alloc (row_alloc Z1.out _) _)) | replace Z1 := Lib.hid (row_call hb3 (row_alloc (row_alloc (row_alloc Z1.out _) _) _))
    first | replace Y1 := Lib.hid (row_call hb3 Y1.out) | replace Y1 := Lib.hid (row_call hb3 (row_alloc Y1.out _)) | replace Y1 := Lib.hid (row_call hb3 (row_alloc (row_alloc Y1.out _) _)) | replace Y1 := Lib.hid (row_call hb3 (row_alloc (row_alloc (row_alloc Y1.out _) _) _))
    first | replace Q1 := Lib.hid (row_call hb3 Q1.out) | replace Q1 := Lib.hid (row_call hb3 (row_alloc Q1.out _)) | replace Q1 := Lib.hid (row_call hb3 (row_alloc (row_alloc Q1.out _) _)) | replace Q1 := Lib.hid (row_call hb3 (row_alloc (row_alloc (row_alloc Q1.out _) _) _))
    clear hb3
    have N1_0 : V3.cell? ⟨w.heap.size, 0, none⟩ = some (.int .u64 (zh (A : Int))) := cell_of_row _ _ _ _ _ _ N1.out
    have N1_1 : V3.cell? ⟨w.heap.size, 1, none⟩ = some (.int .u64 (zl (A : Int))) := cell_of_row _ _ _ _ _ _ N1.out
    have U1_0 : V3.cell? ⟨w.heap.size + 1, 0, none⟩ = some (.int .u64 uh) := cell_of_row _ _ _ _ _ _ U1.out
    have U1_1 : V3.cell? ⟨w.heap.size + 1, 1, none⟩ = some (.int .u64 ul) := cell_of_row _ _ _ _ _ _ U1.out
    have U1_f0 : V3.frozen? ⟨w.heap.size + 1, 0, none⟩ = false := by simp [World.frozen?, U1.out]
    have U1_f1 : V3.frozen? ⟨w.heap.size + 1, 1, none⟩ = false := by simp [World.frozen?, U1.out]
    have Z1_0 : V3.cell? ⟨w.heap.size + 1 + 1, 0, none⟩ = some (.int .u64 0) := cell_of_row _ _ _ _ _ _ Z1.out
    have Z1_1 : V3.cell? ⟨w.heap.size + 1 + 1, 1, none⟩ = some (.int .u64 0) := cell_of_row _ _ _ _ _ _ Z1.out
    have Z1_f0 : V3.frozen? ⟨w.heap.size + 1 + 1, 0, none⟩ = false := by simp [World.frozen?, Z1.out]
    have Z1_f1 : V3.frozen? ⟨w.heap.size + 1 + 1, 1, none⟩ = false := by simp [World.frozen?, Z1.out]
    have Y1_0 : V3.cell? ⟨w.heap.size + 1 + 1 + 1, 0, none⟩ = some (.int .u64 0) := cell_of_row _ _ _ _ _ _ Y1.out
    have Y1_1 : V3.cell? ⟨w.heap.size + 1 + 1 + 1, 1, none⟩ = some (.int .u64 0) := cell_of_row _ _ _ _ _ _ Y1.out
    have Y1_f0 : V3.frozen? ⟨w.heap.size + 1 + 1 + 1, 0, none⟩ = false := by simp [World.frozen?, Y1.out]
    have Y1_f1 : V3.frozen? ⟨w.heap.size + 1 + 1 + 1, 1, none⟩ = false := by simp [World.frozen?, Y1.out]
    have Q1_0 : V3.cell? ⟨gQ1, 0, none⟩ = some (.int .u64 0) := cell_of_row _ _ _ _ _ _ Q1.out
    have Q1_1 : V3.cell? ⟨gQ1, 1, none⟩ = some (.int .u64 k) := cell_of_row _ _ _ _ _ _ Q1.out
    have Q1_f0 : V3.frozen? ⟨gQ1, 0, none⟩ = false := by simp [World.frozen?, Q1.out]
    have Q1_f1 : V3.frozen? ⟨gQ1, 1, none⟩ = false := by simp [World.frozen?, Q1.out]
    have zN1 := lt_of_heap N1.out
    have zU1 := lt_of_heap U1.out
    have zZ1 := lt_of_heap Z1.out
    have zY1 := lt_of_heap Y1.out
    have zQ1 := lt_of_heap Q1.out
    go_simp
    go_wp2_with fail
    refine (H6.out _).mono ?_
    rintro e V4 ⟨rfl, hb4⟩
    clear N1_0 N1_1 zN1 U1_0 U1_1 U1_f0 U1_f1 zU1 Z1_0 Z1_1 Z1_f0 Z1_f1 zZ1 Y1_0 Y1_1 Y1_f0 Y1_f1 zY1 Q1_0 Q1_1 Q1_f0 Q1_f1 zQ1
    have nN1P1 := Lib.hid (lt_of_heap N1.out)
    have nU1P1 := Lib.hid (lt_of_heap U1.out)
    have nZ1P1 := Lib.hid (lt_of_heap Z1.out)
    have nY1P1 := Lib.hid (lt_of_heap Y1.out)
    have nQ1P1 := Lib.hid (lt_of_heap Q1.out)
    have B4 := Lib.hid (((B3.out).alloc (B3.out.size) _).trans (hb4.mono (by have := B3.out.size; first | assumption | (simp <;> omega) | (simp; done))))
    replace N1 := Lib.hid (row_call hb4 (row_alloc N1.out _))
    replace U1 := Lib.hid (row_call hb4 (row_alloc U1.out _))
    replace Z1 := Lib.hid (row_call hb4 (row_alloc Z1.out _))
    replace Y1 := Lib.hid (row_call hb4 (row_alloc Y1.out _))
    replace Q1 := Lib.hid (row_call hb4 (row_alloc Q1.out _))
    have P1 := Lib.hid (row_call hb4 (heap_alloc_new _ _))
    clear hb4
    have N1_0 : V4.cell? ⟨w.heap.size, 0, none⟩ = some (.int .u64 (zh (A : Int))) := cell_of_row _ _ _ _ _ _ N1.out
    have N1_1 : V4.cell? ⟨w.heap.size, 1, none⟩ = some (.int .u64 (zl (A : Int))) := cell_of_row _ _ _ _ _ _ N1.out
    have U1_0 : V4.cell? ⟨w.heap.size + 1, 0, none⟩ = some (.int .u64 uh) := cell_of_row _ _ _ _ _ _ U1.out
    have U1_1 : V4.cell? ⟨w.heap.size + 1, 1, none⟩ = some (.int .u64 ul) := cell_of_row _ _ _ _ _ _ U1.out
    have U1_f0 : V4.frozen? ⟨w.heap.size + 1, 0, none⟩ = false := by simp [World.frozen?, U1.out]
    have U1_f1 : V4.frozen? ⟨w.heap.size + 1, 1, none⟩ = false := by simp [World.frozen?, U1.out]
    have Z1_0 : V4.cell? ⟨w.heap.size + 1 + 1, 0, none⟩ = some (.int .u64 0) := cell_of_row _ _ _ _ _ _ Z1.out
    have Z1_1 : V4.cell? ⟨w.heap.size + 1 + 1, 1, none⟩ = some (.int .u64 0) := cell_of_row _ _ _ _ _ _ Z1.out
    have Z1_f0 : V4.frozen? ⟨w.heap.size + 1 + 1, 0, none⟩ = false := by simp [World.frozen?, Z1.out]
    have Z1_f1 : V4.frozen? ⟨w.heap.size + 1 + 1, 1, none⟩ = false := by simp [World.frozen?, Z1.out]
    have Y1_0 : V4.cell? ⟨w.heap.size + 1 + 1 + 1, 0, none⟩ = some (.int .u64 0) := cell_of_row _ _ _ _ _ _ Y1.out
    have Y1_1 : V4.cell? ⟨w.heap.size + 1 + 1 + 1, 1, none⟩ = some (.int .u64 0) := cell_of_row _ _ _ _ _ _ Y1.out
    have Y1_f0 : V4.frozen? ⟨w.heap.size + 1 + 1 + 1, 0, none⟩ = false := by simp [World.frozen?, Y1.out]
    have Y1_f1 : V4.frozen? ⟨w.heap.size + 1 + 1 + 1, 1, none⟩ = false := by simp [World.frozen?, Y1.out]
    have Q1_0 : V4.cell? ⟨gQ1, 0, none⟩ = some (.int .u64 0) := cell_of_row _ _ _ _ _ _ Q1.out
    have Q1_1 : V4.cell? ⟨gQ1, 1, none⟩ = some (.int .u64 k) := cell_of_row _ _ _ _ _ _ Q1.out
    have Q1_f0 : V4.frozen? ⟨gQ1, 0, none⟩ = false := by simp [World.frozen?, Q1.out]
    have Q1_f1 : V4.frozen? ⟨gQ1, 1, none⟩ = false := by simp [World.frozen?, Q1.out]
    have P1_0 : V4.cell? ⟨V3.heap.size, 0, none⟩ = some (.int .u64 xh) := cell_of_row _ _ _ _ _ _ P1.out
    have P1_1 : V4.cell? ⟨V3.heap.size, 1, none⟩ = some (.int .u64 pl) := cell_of_row _ _ _ _ _ _ P1.out
    have zN1 := lt_of_heap N1.out
    have zU1 := lt_of_heap U1.out
    have zZ1 := lt_of_heap Z1.out
    have zY1 := lt_of_heap Y1.out
    have zQ1 := lt_of_heap Q1.out
    have zP1 := lt_of_heap P1.out
    go_simp
    go_wp2_with fail
    refine (H7.out _).mono ?_
    rintro e V5 ⟨rfl, hb5⟩
    clear N1_0 N1_1 zN1 U1_0 U1_1 U1_f0 U1_f1 zU1 Z1_0 Z1_1 Z1_f0 Z1_f1 zZ1 Y1_0 Y1_1 Y1_f0 Y1_f1 zY1 Q1_0 Q1_1 Q1_f0 Q1_f1 zQ1 P1_0 P1_1 zP1
    have nN1R1 := Lib.hid (lt_of_heap N1.out)
    have nU1R1 := Lib.hid (lt_of_heap U1.out)
    have nlU1R1 : ¬ (w.heap.size + 1 = V4.heap.size) := Nat.ne_of_lt (lt_of_heap U1.out)
    have nrU1R1 : ¬ (V4.heap.size = w.heap.size + 1) := Ne.symm (Nat.ne_of_lt (lt_of_heap U1.out))
    have nZ1R1 := Lib.hid (lt_of_heap Z1.out)
    have nlZ1R1 : ¬ (w.heap.size + 1 + 1 = V4.heap.size) := Nat.ne_of_lt (lt_of_heap Z1.out)
    have nrZ1R1 : ¬ (V4.heap.size = w.heap.size + 1 + 1) := Ne.symm (Nat.ne_of_lt (lt_of_heap Z1.out))
    have nY1R1 := Lib.hid (lt_of_heap Y1.out)
    have nlY1R1 : ¬ (w.heap.size + 1 + 1 + 1 = V4.heap.size) := Nat.ne_of_lt (lt_of_heap Y1.out)
    have nrY1R1 : ¬ (V4.heap.size = w.heap.size + 1 + 1 + 1) := Ne.symm (Nat.ne_of_lt (lt_of_heap Y1.out))
    have nQ1R1 := Lib.hid (lt_of_heap Q1.out)
    have nlQ1R1 : ¬ (gQ1 = V4.heap.size) := Nat.ne_of_lt (lt_of_heap Q1.out)
    have nrQ1R1 : ¬ (V4.heap.size = gQ1) := Ne.symm (Nat.ne_of_lt (lt_of_heap Q1.out))
    have nP1R1 := Lib.hid (lt_of_heap P1.out)
    have B5 := Lib.hid (((keep1 (B4.out) LQ1.out 1 _).alloc (by have := B4.out.size; simp <;> omega) _).trans (hb5.mono (by have := B4.out.size; first | assumption | (simp <;> omega) | (simp; done))))
    replace N1 := Lib.hid (row_call hb5 (row_alloc (row_other1 (by have := nN1Q1.out; omega) N1.out 1 _) _))
    replace U1 := Lib.hid (row_call hb5 (row_alloc (row_other1 (by have := nU1Q1.out; omega) U1.out 1 _) _))
    replace Z1 := Lib.hid (row_call hb5 (row_alloc (row_other1 (by have := nZ1Q1.out; omega) Z1.out 1 _) _))
    replace Y1 := Lib.hid (row_call hb5 (row_alloc (row_other1 (by have := nY1Q1.out; omega) Y1.out 1 _) _))
    replace Q1 : Hid (V5.heap[gQ1]? = some (.cells #[.int .u64 0, .int .u64 k1] _ (0, 0))) := Lib.hid (row_call hb5 (row_alloc (row_set1 Q1.out 1 _) _))
    replace P1 := Lib.hid (row_call hb5 (row_alloc (row_other1 (by have := nQ1P1.out; omega) P1.out 1 _) _))
    have R1 := Lib.hid (row_at (k' := V4.heap.size) (by simp) (row_call hb5 (heap_alloc_new _ _)))
    clear hb5
    have N1_0 : V5.cell? ⟨w.heap.size, 0, none⟩ = some (.int .u64 (zh (A : Int))) := cell_of_row _ _ _ _ _ _ N1.out
    have N1_1 : V5.cell? ⟨w.heap.size, 1, none⟩ = some (.int .u64 (zl (A : Int))) := cell_of_row _ _ _ _ _ _ N1.out
    have U1_0 : V5.cell? ⟨w.heap.size + 1, 0, none⟩ = some (.int .u64 uh) := cell_of_row _ _ _ _ _ _ U1.out
    have U1_1 : V5.cell? ⟨w.heap.size + 1, 1, none⟩ = some (.int .u64 ul) := cell_of_row _ _ _ _ _ _ U1.out
    have U1_f0 : V5.frozen? ⟨w.heap.size + 1, 0, none⟩ = false := by simp [World.frozen?, U1.out]
    have U1_f1 : V5.frozen? ⟨w.heap.size + 1, 1, none⟩ = false := by simp [World.frozen?, U1.out]
    have Z1_0 : V5.cell? ⟨w.heap.size + 1 + 1, 0, none⟩ = some (.int .u64 0) := cell_of_row _ _ _ _ _ _ Z1.out
    have Z1_1 : V5.cell? ⟨w.heap.size + 1 + 1, 1, none⟩ = some (.int .u64 0) := cell_of_row _ _ _ _ _ _ Z1.out
    have Z1_f0 : V5.frozen? ⟨w.heap.size + 1 + 1, 0, none⟩ = false := by simp [World.frozen?, Z1.out]
    have Z1_f1 : V5.frozen? ⟨w.heap.size + 1 + 1, 1, none⟩ = false := by simp [World.frozen?, Z1.out]
    have Y1_0 : V5.cell? ⟨w.heap.size + 1 + 1 + 1, 0, none⟩ = some (.int .u64 0) := cell_of_row _ _ _ _ _ _ Y1.out
    have Y1_1 : V5.cell? ⟨w.heap.size + 1 + 1 + 1, 1, none⟩ = some (.int .u64 0) := cell_of_row _ _ _ _ _ _ Y1.out
    have Y1_f0 : V5.frozen? ⟨w.heap.size + 1 + 1 + 1, 0, none⟩ = false := by simp [World.frozen?, Y1.out]
    have Y1_f1 : V5.frozen? ⟨w.heap.size + 1 + 1 + 1, 1, none⟩ = false := by simp [World.frozen?, Y1.out]
    have Q1_0 : V5.cell? ⟨gQ1, 0, none⟩ = some (.int .u64 0) := cell_of_row _ _ _ _ _ _ Q1.out
    have Q1_1 : V5.cell? ⟨gQ1, 1, none⟩ = some (.int .u64 k1) := cell_of_row _ _ _ _ _ _ Q1.out
    have Q1_f0 : V5.frozen? ⟨gQ1, 0, none⟩ = false := by simp [World.frozen?, Q1.out]
    have Q1_f1 : V5.frozen? ⟨gQ1, 1, none⟩ = false := by simp [World.frozen?, Q1.out]
    have P1_0 : V5.cell? ⟨V3.heap.size, 0, none⟩ = some (.int .u64 xh) := cell_of_row _ _ _ _ _ _ P1.out
    have P1_1 : V5.cell? ⟨V3.heap.size, 1, none⟩ = some (.int .u64 pl) := cell_of_row _ _ _ _ _ _ P1.out
    have R1_0 : V5.cell? ⟨V4.heap.size, 0, none⟩ = some (.int .u64 (zh D)) := cell_of_row _ _ _ _ _ _ R1.out
    have R1_1 : V5.cell? ⟨V4.heap.size, 1, none⟩ = some (.int .u64 (zl D)) := cell_of_row _ _ _ _ _ _ R1.out
    have R1_f0 : V5.frozen? ⟨V4.heap.size, 0, none⟩ = false := by simp [World.frozen?, R1.out]
    have R1_f1 : V5.frozen? ⟨V4.heap.size, 1, none⟩ = false := by simp [World.frozen?, R1.out]
    have zN1 := lt_of_heap N1.out
    have zU1 := lt_of_heap U1.out
    have zZ1 := lt_of_heap Z1.out
    have zY1 := lt_of_heap Y1.out
    have zQ1 := lt_of_heap Q1.out
    have zP1 := lt_of_heap P1.out
    have zR1 := lt_of_heap R1.out
    go_simp
    go_wp2_with fail
    clear N1_0 N1_1 zN1 U1_0 U1_1 U1_f0 U1_f1 zU1 Z1_0 Z1_1 Z1_f0 Z1_f1 zZ1 Y1_0 Y1_1 Y1_f0 Y1_f1 zY1 Q1_0 Q1_1 Q1_f0 Q1_f1 zQ1 P1_0 P1_1 zP1 R1_0 R1_1 R1_f0 R1_f1 zR1
    obtain ⟨W0, hW0⟩ : ∃ W0, W0 = ((V5.setCell ⟨V4.heap.size, 0, none⟩ (Value.int .u64 (zh R))).setCell ⟨V4.heap.size, 1, none⟩ (Value.int .u64 (zl R))) := ⟨_, rfl⟩
    replace N1 := Lib.hid (row_by hW0 (row_other (by have := nN1R1.out; omega) N1.out _ _))
    replace U1 := Lib.hid (row_by hW0 (row_other (by have := nU1R1.out; omega) U1.out _ _))
    replace Z1 := Lib.hid (row_by hW0 (row_other (by have := nZ1R1.out; omega) Z1.out _ _))
    replace Y1 := Lib.hid (row_by hW0 (row_other (by have := nY1R1.out; omega) Y1.out _ _))
    replace Q1 := Lib.hid (row_by hW0 (row_other (by have := nQ1R1.out; omega) Q1.out _ _))
    replace P1 := Lib.hid (row_by hW0 (row_other (by have := nP1R1.out; omega) P1.out _ _))
    replace R1 := Lib.hid (row_by hW0 (row_set R1.out _ _))
    have HB0 := Lib.hid (below_by hW0 (keep2 (B5.out) (by have := B4.out.size; omega) _ _))
    have HW0 := Lib.hid hW0
    clear hW0
    have N1_0 : W0.cell? ⟨w.heap.size, 0, none⟩ = some (.int .u64 (zh (A : Int))) := cell_of_row _ _ _ _ _ _ N1.out
    have N1_1 : W0.cell? ⟨w.heap.size, 1, none⟩ = some (.int .u64 (zl (A : Int))) := cell_of_row _ _ _ _ _ _ N1.out
    have zN1 := lt_of_heap N1.out
    have U1_0 : W0.cell? ⟨w.heap.size + 1, 0, none⟩ = some (.int .u64 uh) := cell_of_row _ _ _ _ _ _ U1.out
    have U1_1 : W0.cell? ⟨w.heap.size + 1, 1, none⟩ = some (.int .u64 ul) := cell_of_row _ _ _ _ _ _ U1.out
    have U1_f0 : W0.frozen? ⟨w.heap.size + 1, 0, none⟩ = false := (by simp [World.frozen?, U1.out])
    have U1_f1 : W0.frozen? ⟨w.heap.size + 1, 1, none⟩ = false := (by simp [World.frozen?, U1.out])
    have zU1 := lt_of_heap U1.out
    have Z1_0 : W0.cell? ⟨w.heap.size + 1 + 1, 0, none⟩ = some (.int .u64 0) := cell_of_row _ _ _ _ _ _ Z1.out
    have Z1_1 : W0.cell? ⟨w.heap.size + 1 + 1, 1, none⟩ = some (.int .u64 0) := cell_of_row _ _ _ _ _ _ Z1.out
    have Z1_f0 : W0.frozen? ⟨w.heap.size + 1 + 1, 0, none⟩ = false := (by simp [World.frozen?, Z1.out])
    have Z1_f1 : W0.frozen? ⟨w.heap.size + 1 + 1, 1, none⟩ = false := (by simp [World.frozen?, Z1.out])
    have zZ1 := lt_of_heap Z1.out
    have Y1_0 : W0.cell? ⟨w.heap.size + 1 + 1 + 1, 0, none⟩ = some (.int .u64 0) := cell_of_row _ _ _ _ _ _ Y1.out
    have Y1_1 : W0.cell? ⟨w.heap.size + 1 + 1 + 1, 1, none⟩ = some (.int .u64 0) := cell_of_row _ _ _ _ _ _ Y1.out
    have Y1_f0 : W0.frozen? ⟨w.heap.size + 1 + 1 + 1, 0, none⟩ = false := (by simp [World.frozen?, Y1.out])
    have Y1_f1 : W0.frozen? ⟨w.heap.size + 1 + 1 + 1, 1, none⟩ = false := (by simp [World.frozen?, Y1.out])
    have zY1 := lt_of_heap Y1.out
    have Q1_0 : W0.cell? ⟨gQ1, 0, none⟩ = some (.int .u64 0) := cell_of_row _ _ _ _ _ _ Q1.out
    have Q1_1 : W0.cell? ⟨gQ1, 1, none⟩ = some (.int .u64 k1) := cell_of_row _ _ _ _ _ _ Q1.out
    have Q1_f0 : W0.frozen? ⟨gQ1, 0, none⟩ = false := (by simp [World.frozen?, Q1.out])
    have Q1_f1 : W0.frozen? ⟨gQ1, 1, none⟩ = false := (by simp [World.frozen?, Q1.out])
    have zQ1 := lt_of_heap Q1.out
    have P1_0 : W0.cell? ⟨V3.heap.size, 0, none⟩ = some (.int .u64 xh) := cell_of_row _ _ _ _ _ _ P1.out
    have P1_1 : W0.cell? ⟨V3.heap.size, 1, none⟩ = some (.int .u64 pl) := cell_of_row _ _ _ _ _ _ P1.out
    have zP1 := lt_of_heap P1.out
    have R1_0 : W0.cell? ⟨V4.heap.size, 0, none⟩ = some (.int .u64 (zh R)) := cell_of_row _ _ _ _ _ _ R1.out
    have R1_1 : W0.cell? ⟨V4.heap.size, 1, none⟩ = some (.int .u64 (zl R)) := cell_of_row _ _ _ _ _ _ R1.out
    have R1_f0 : W0.frozen? ⟨V4.heap.size, 0, none⟩ = false := (by simp [World.frozen?, R1.out])
    have R1_f1 : W0.frozen? ⟨V4.heap.size, 1, none⟩ = false := (by simp [World.frozen?, R1.out])
    have zR1 := lt_of_heap R1.out
    try rw [← HW0.out]
    go_region_with (fail)
    all_goals go_wp2
    all_goals refine shut_ret (v := .tuple #[.agg #[.int .u64 0, .int .u64 k1], .agg #[.int .u64 (zh R), .int .u64 (zl R)]]) (by simp [results, Try.results45, go_sem, zZ1, Z1_0, Z1_1, zY1, Y1_0, Y1_1]) rfl ⟨rfl, ?_⟩
    all_goals exact keep2 (keep2 HB0.out.drew (by omega) _ _) (by omega) _ _
theorem cut_facts {u : Nat} (h1 : 18446744073709551616 ≤ u) (h2 : u ≤ 1208925819614629174706176) :
    ¬ zh (u : Int) = 0 ∧ zh (u : Int) ≤ 65536 ∧ 1 ≤ Lib.bitLen (zh (u : Int)) ∧ Lib.bitLen (zh (u : Int)) ≤ 17 ∧
    9223372036854775808 ≤ u / 2 ^ Lib.bitLen (zh (u : Int)) ∧ u / 2 ^ Lib.bitLen (zh (u : Int)) < 18446744073709551616 := by
  obtain ⟨a1, a2, a3⟩ := zw_hl (u : Int)
  rw [zw_nat u (by omega)] at a1
  have hU := zh_U (u : Int)
  generalize zh (u : Int) = x at *
  generalize zl (u : Int) = l at *
  obtain ⟨b1, b2, b3⟩ := bitLenAux_spec 64 x hU
  obtain ⟨b4, b5⟩ := b2 (by omega)
  change x < 2 ^ Lib.bitLen x at b1
  change 1 ≤ Lib.bitLen x at b4
  change 2 ^ (Lib.bitLen x - 1) ≤ x at b5
  generalize Lib.bitLen x = c at *
  have hc : c ≤ 17 := by
    rcases Nat.lt_or_ge c 18 with h | h
    · omega
    · have := Nat.pow_le_pow_right (n := 2) (by decide) (show 17 ≤ c - 1 by omega)
      omega
  have p : 0 < 2 ^ c := Nat.two_pow_pos c
  obtain ⟨d, rfl⟩ : ∃ d, c = d + 1 := ⟨c - 1, by omega⟩
  rw [show d + 1 - 1 = d by omega] at b5
  have e : 2 ^ (d + 1) = 2 ^ d * 2 := Nat.pow_succ 2 d
  refine ⟨by omega, by omega, b4, hc, ?_, ?_⟩
  · rw [Nat.le_div_iff_mul_le p, e]
    omega
  · rw [Nat.div_lt_iff_lt_mul p]
    omega
theorem prod_parts (k u : Nat) (hk : k ≤ 68719476737) (hu : u ≤ 1208925819614629174706176) (hh : zh (u : Int) ≤ 65536) :
    ∃ m : Nat, IntKind.u64.wrap ((k : Int) * (zh (u : Int) : Int)) = (m : Int) ∧ IntKind.u64.wrap ((zh ((k * zl (u : Int) : Nat) : Int) : Int) + (m : Int)) = (zh ((k * u : Nat) : Int) : Int) ∧ zl ((k * zl (u : Int) : Nat) : Int) = zl ((k * u : Nat) : Int) := by
  obtain ⟨a1, a2, a3⟩ := zw_hl (u : Int)
  rw [zw_nat u (by omega)] at a1
  generalize zh (u : Int) = x at *
  generalize zl (u : Int) = l at *
  have h1 : k * x ≤ 68719476737 * 65536 := Nat.mul_le_mul hk hh
  have h2 : k * l ≤ 68719476737 * 18446744073709551615 := Nat.mul_le_mul hk (by omega)
  have e : k * u = k * x * 18446744073709551616 + k * l := by rw [a1, Nat.mul_add, Nat.mul_assoc]
  refine ⟨k * x, ?_, ?_⟩
  · rw [← Int.natCast_mul]; exact wrap_nat _ (by omega)
  · rw [e]
    generalize k * x = p at *
    generalize k * l = q at *
    obtain ⟨c1, c2, c3⟩ := zw_hl (q : Int)
    rw [zw_nat q (by omega)] at c1
    generalize zh (q : Int) = y at *
    generalize zl (q : Int) = z at *
    have e2 : zw ((p * 18446744073709551616 + q : Nat) : Int) = (y + p) * 18446744073709551616 + z := by
      rw [zw_nat _ (by omega)]; omega
    obtain ⟨r1, r2⟩ := hl_of_zw e2 c3
    rw [r1, r2]
    refine ⟨?_, rfl⟩
    rw [← Int.natCast_add]; exact wrap_nat _ (by omega)
theorem bb_nat {a b : Nat} (ha : a < 340282366920938463463374607431768211456) (hb : b < 340282366920938463463374607431768211456) : bb (a : Int) (b : Int) = decide (a < b) := by
  unfold bb; rw [zw_nat a ha, zw_nat b hb]
theorem divide_any (A u : Nat) (hA : A ≤ 1267650600228229401496703205376) (h0 : 0 < u) (hu : u ≤ 1208925819614629174706176) (w : World) :
    Calls Try.prog 45 #[.agg #[.int .u64 (zh (A : Int)), .int .u64 (zl (A : Int))], .agg #[.int .u64 (zh (u : Int)), .int .u64 (zl (u : Int))]] w fun e w' => e = .returned (.tuple #[.agg #[.int .u64 (zh ((A / u : Nat) : Int)), .int .u64 (zl ((A / u : Nat) : Int))], .agg #[.int .u64 (zh ((A % u : Nat) : Int)), .int .u64 (zl ((A % u : Nat) : Int))]]) ∧ Below w.heap.size w w' := by
  by_cases hs : u < 18446744073709551616
  · obtain ⟨u1, u2⟩ := zhl_small hs
    obtain ⟨r1, r2⟩ := zhl_small (Nat.lt_trans (Nat.mod_lt A h0) hs)
    rw [u1, u2, r1, r2]
    exact divide_small A u (by omega) hs h0 w
  · obtain ⟨c1, c2, c3, c4, c5, c6⟩ := cut_facts (by omega : 18446744073709551616 ≤ u) hu
    have hq : A / u ≤ 68719476736 := by
      have h1 : A / u ≤ A / 18446744073709551616 := Nat.div_le_div_left (by omega) (by omega)
      omega
    generalize hc : Lib.bitLen (zh (u : Int)) = c at *
    obtain ⟨e1, e2⟩ := est_div A u (2 ^ c) (Nat.two_pow_pos c) (by omega)
    have hm := Nat.div_add_mod A u
    have hl := Nat.mod_lt A h0
    have hv : zl ((u / 2 ^ c : Nat) : Int) = u / 2 ^ c := (zhl_small c6).2
    have X2 := high_any A c c3 (by omega) (by omega)
    have X3 := high_any u c c3 (by omega) (by omega)
    rw [hv] at X3
    have X4 := zDiv_any (A / 2 ^ c) (u / 2 ^ c) (Nat.lt_of_le_of_lt (Nat.div_le_self _ _) (by omega)) c6 (by omega)
    have X5 := fun k (h : U k) => zMul_any k (zl (u : Int)) h (zl_U _)
    generalize hk : A / 2 ^ c / (u / 2 ^ c) = k at *
    obtain ⟨k1, k2⟩ := zhl_small (show U k by unfold U; omega)
    rw [k1, k2] at X4
    replace X5 := X5 k (by unfold U; omega)
    obtain ⟨m, p1, p2, p3⟩ := prod_parts k u (by omega) hu c2
    have hku : k * u ≤ A + u := by
      have h1 : k * u ≤ (A / u + 1) * u := Nat.mul_le_mul_right u e2
      rw [Nat.add_mul, Nat.one_mul, Nat.mul_comm (A / u)] at h1; omega
    have X6 := zSub_any (A : Int) ((k * u : Nat) : Int)
    rw [bb_nat (by omega) (by omega)] at X6
    rw [← p3] at X6
    by_cases he : k = A / u
    · subst he
      have e3 : (A : Int) - ((A / u * u : Nat) : Int) = ((A % u : Nat) : Int) := by rw [Nat.mul_comm]; omega
      rw [decide_eq_false (by rw [Nat.mul_comm]; omega), e3] at X6
      rw [k1, k2]
      exact divide_eq A _ _ c _ _ _ _ m _ _ 0 _ _ _ _ w c1 (zh_U _) hc (Lib.hid X2) (Lib.hid X3) (Lib.hid X4) (Lib.hid X5) p1 p2 (Lib.hid X6)
    · have hk2 : k = A / u + 1 := by omega
      have e3 : (A : Int) - ((k * u : Nat) : Int) + (u : Int) = ((A % u : Nat) : Int) := by
        rw [hk2, Nat.add_mul, Nat.one_mul, Nat.mul_comm (A / u)]; omega
      rw [decide_eq_true (by rw [hk2, Nat.add_mul, Nat.one_mul, Nat.mul_comm (A / u)]; omega)] at X6
      have X7 := zAdd_any ((A : Int) - ((k * u : Nat) : Int)) (u : Int)
      rw [e3] at X7
      obtain ⟨q1, q2⟩ := zhl_small (show U (A / u) by unfold U; omega)
      rw [q1, q2]
      exact divide_more A _ _ c _ _ _ _ _ m _ _ _ _ _ _ _ _ w c1 (zh_U _) hc (Lib.hid X2) (Lib.hid X3) (Lib.hid X4) (Lib.hid X5) p1 p2 (Lib.hid X6) (by rw [hk2, IntKind.wrap_u64]; omega) (Lib.hid X7)
end Go.Proofs.Ytlfbiidnfheelaa
