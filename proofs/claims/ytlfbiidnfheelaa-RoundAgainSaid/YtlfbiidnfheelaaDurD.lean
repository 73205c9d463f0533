/- Contracts of package dur: its calls. -/
import Derived.Test.YtlfbiidnfheelaaDurC
namespace Go.Proofs.Ytlfbiidnfheelaa
set_option linter.unusedVariables false
set_option linter.unusedSimpArgs false
open Go.ChangeShapes Go.WideShapes Go.ChangeAt Go.RowKit

theorem ck00 : ckD 0 0 = 0 := by unfold ckD wmB; decide
theorem fs_zero_left (x : Int) : fsI 0 x = x := by unfold fsI; exact if_pos rfl
theorem join_new (s n : Int) (bs : in64 s) (bn : in64 n) (w : World) :
    Calls Try.prog 59 #[.agg #[.int .u64 (zh s), .int .u64 (zl s)], .agg #[.int .u64 (zh n), .int .u64 (zl n)]] w fun e w' => e = .returned (.tuple #[.agg #[.int .i64 (duS (nanos s n)), .int .i64 (duN (nanos s n))], .int .i64 (duE (nanos s n))]) ∧ Below w.heap.size w w' :=
  join_any s n bs.wide bn.wide (by unfold in64 at *; unfold in128; omega) w
set_option maxHeartbeats 1600000 in
set_option maxRecDepth 100000 in
theorem dOfNanos_any (x : Int) (b : in128 x) (w : World) :
    Calls Try.prog 39 #[.agg #[.int .u64 (zh x), .int .u64 (zl x)]] w fun e w' => e = .returned (.tuple #[.agg #[.int .i64 (duS x), .int .i64 (duN x)], .int .i64 (duE x)]) ∧ Below w.heap.size w w' := by
  have X3 := join_any 0 x (by unfold in128; omega) b (by unfold in128 at *; omega)
  rw [show nanos 0 x = x by unfold nanos; omega, zh_zero, zl_zero] at X3
  have H3 := Lib.hid X3
  clear b X3
  generalize duS x = S at *
  generalize duN x = N at *
  generalize duE x = E at *
  go_enter Try.func39, Try.ntmps39
  refine wp_shut ?_
  go_wp2_with fail
  
  refine (H3.out _).mono ?_
  rintro e V1 ⟨rfl, hb1⟩
  have B1 := Lib.hid ((((Below.refl w.heap.size w).alloc (Nat.le_refl _) _).alloc (by simp <;> omega) _).trans (hb1.mono (by first | assumption | (simp <;> omega) | (simp; done))))
  have A1 := Lib.hid (row_call hb1 (row_alloc (heap_alloc_new _ _) _))
  have Z1 := Lib.hid (row_at (k' := w.heap.size + 1) (by simp) (row_call hb1 (heap_alloc_new _ _)))
  clear hb1
  have A1_0 : V1.cell? ⟨w.heap.size, 0, none⟩ = some (.int .u64 (zh x)) := cell_of_row _ _ _ _ _ _ A1.out
  have A1_1 : V1.cell? ⟨w.heap.size, 1, none⟩ = some (.int .u64 (zl x)) := cell_of_row _ _ _ _ _ _ A1.out
  have Z1_0 : V1.cell? ⟨w.heap.size + 1, 0, none⟩ = some (.int .i64 0) := cell_of_row _ _ _ _ _ _ Z1.out
  have Z1_1 : V1.cell? ⟨w.heap.size + 1, 1, none⟩ = some (.int .i64 0) := cell_of_row _ _ _ _ _ _ Z1.out
  have Z1_f0 : V1.frozen? ⟨w.heap.size + 1, 0, none⟩ = false := by simp [World.frozen?, Z1.out]
  have Z1_f1 : V1.frozen? ⟨w.heap.size + 1, 1, none⟩ = false := by simp [World.frozen?, Z1.out]
  have zA1 := lt_of_heap A1.out
  have zZ1 := lt_of_heap Z1.out
  go_simp
  go_wp2
  refine shut_ret (v := .tuple #[.agg #[.int .i64 S, .int .i64 N], .int .i64 E]) (by simp [results, Try.results39, go_sem, zZ1, Z1_0, Z1_1]) rfl ⟨rfl, ?_⟩
  exact keep2 B1.out (by omega) _ _
/-- a duration's number: 0 beside an error. -/
def nnD (s n : Int) : Int := if ckD s n = 0 then nanos s n else 0
theorem nnD_in {s n : Int} (h : ckD s n = 0) : in64 s ∧ in64 n ∧ in128 (nanos s n) := by
  have h2 := ck_nanos h
  obtain ⟨a, b, c⟩ := of_ckD h
  have := of_wmB a
  unfold in64 in128; omega
set_option maxHeartbeats 1600000 in
set_option maxRecDepth 100000 in
theorem dNanos_any (s n : Int) (w : World) :
    Calls Try.prog 38 #[.agg #[.int .i64 s, .int .i64 n]] w fun e w' => e = .returned (.tuple #[.agg #[.int .u64 (zh (nnD s n)), .int .u64 (zl (nnD s n))], .int .i64 (ckD s n)]) ∧ Below w.heap.size w w' := by
  have X1 := dCheck_any s n
  by_cases hc : ckD s n = 0
  · obtain ⟨i1, i2, i3⟩ := nnD_in hc
    rw [show nnD s n = nanos s n from if_pos hc, hc]
    rw [hc] at X1
    have H1 := Lib.hid X1
    have X2 := times_any 1000000000 s (by unfold in64; omega) i1
    rw [Int.mul_comm] at X2
    have H2 := Lib.hid X2
    have H3 := Lib.hid (zOf_any n i2)
    have X4 := zAdd_any (s * 1000000000) n
    rw [show s * 1000000000 + n = nanos s n from rfl] at X4
    have H4 := Lib.hid X4
    clear X1 X2 X4 hc i1 i2 i3
    generalize cb (s * 1000000000) n = c at *
    generalize nanos s n = T at *
    generalize s * 1000000000 = M at *
    go_enter Try.func38, Try.ntmps38
    refine wp_shut ?_
    go_wp2_with fail
    
    refine (H1.out _).mono ?_
    rintro e V1 ⟨rfl, hb1⟩
    have B1 := Lib.hid ((((Below.refl w.heap.size w).alloc (Nat.le_refl _) _).alloc (by simp <;> omega) _).trans (hb1.mono (by first | assumption | (simp <;> omega) | (simp; done))))
    have A1 := Lib.hid (row_call hb1 (row_alloc (heap_alloc_new _ _) _))
    have Z1 := Lib.hid (row_at (k' := w.heap.size + 1) (by simp) (row_call hb1 (heap_alloc_new _ _)))
    clear hb1
    have A1_0 : V1.cell? ⟨w.heap.size, 0, none⟩ = some (.int .i64 s) := cell_of_row _ _ _ _ _ _ A1.out
    have A1_1 : V1.cell? ⟨w.heap.size, 1, none⟩ = some (.int .i64 n) := cell_of_row _ _ _ _ _ _ A1.out
    have Z1_0 : V1.cell? ⟨w.heap.size + 1, 0, none⟩ = some (.int .u64 0) := cell_of_row _ _ _ _ _ _ Z1.out
    have Z1_1 : V1.cell? ⟨w.heap.size + 1, 1, none⟩ = some (.int .u64 0) := cell_of_row _ _ _ _ _ _ Z1.out
    have Z1_f0 : V1.frozen? ⟨w.heap.size + 1, 0, none⟩ = false := by simp [World.frozen?, Z1.out]
    have Z1_f1 : V1.frozen? ⟨w.heap.size + 1, 1, none⟩ = false := by simp [World.frozen?, Z1.out]
    have zA1 := lt_of_heap A1.out
    have zZ1 := lt_of_heap Z1.out
    go_simp
    go_wp2_with fail
    clear A1_0 A1_1 zA1 Z1_0 Z1_1 Z1_f0 Z1_f1 zZ1
    obtain ⟨W0, hW0⟩ : ∃ W0, W0 = V1 := ⟨_, rfl⟩
    replace A1 := Lib.hid (row_by hW0 A1.out)
    replace Z1 := Lib.hid (row_by hW0 Z1.out)
    have HB0 := Lib.hid (below_by hW0 (B1.out))
    have HW0 := Lib.hid hW0
    clear hW0
    have A1_0 : W0.cell? ⟨w.heap.size, 0, none⟩ = some (.int .i64 s) := cell_of_row _ _ _ _ _ _ A1.out
    have A1_1 : W0.cell? ⟨w.heap.size, 1, none⟩ = some (.int .i64 n) := cell_of_row _ _ _ _ _ _ A1.out
    have zA1 := lt_of_heap A1.out
    have Z1_0 : W0.cell? ⟨w.heap.size + 1, 0, none⟩ = some (.int .u64 0) := cell_of_row _ _ _ _ _ _ Z1.out
    have Z1_1 : W0.cell? ⟨w.heap.size + 1, 1, none⟩ = some (.int .u64 0) := cell_of_row _ _ _ _ _ _ Z1.out
    have Z1_f0 : W0.frozen? ⟨w.heap.size + 1, 0, none⟩ = false := (by simp [World.frozen?, Z1.out])
    have Z1_f1 : W0.frozen? ⟨w.heap.size + 1, 1, none⟩ = false := (by simp [World.frozen?, Z1.out])
    have zZ1 := lt_of_heap Z1.out
    try rw [← HW0.out]
    go_cut [5, 6] (fun s5 s6 wx => ∃ gQ1 : Nat, s5 = .pointer (some ⟨gQ1, 0, none⟩) ∧ s6 = .bool c ∧ wx.heap[gQ1]? = some (.cells #[.int .u64 (zh T), .int .u64 (zl T)] 24 (0, 0)) ∧ Below W0.heap.size W0 wx)
    case first =>
      go_region_held3 (fun w' => Below W0.heap.size W0 w' ∧ w'.cell? ⟨w.heap.size, 0, none⟩ = some (.int .i64 s) ∧ w'.cell? ⟨w.heap.size, 1, none⟩ = some (.int .i64 n))
    (first
      | ((try go_split_ands); refine ⟨(Below.refl _ _).drew, ?_, ?_⟩ <;> first | assumption | (rw [World.cell?_drew]; assumption))
      | ((try go_split_ands); refine ⟨keepS (W0 := W0) ?_ hb1, cellS (W0 := W0) ?_ hb1 ?_ ?_, cellS (W0 := W0) ?_ hb1 ?_ ?_⟩ <;> first | assumption | omega)
      | ((try go_split_ands); refine ⟨keepA (W0 := W0) ?_ _, cellA (W0 := W0) ?_ _ ?_ ?_, cellA (W0 := W0) ?_ _ ?_ ?_⟩ <;> first | assumption | omega)
      | ((try go_split_ands); refine ⟨keepAd (W0 := W0) ?_ _, cellAd (W0 := W0) ?_ _ ?_ ?_, cellAd (W0 := W0) ?_ _ ?_ ?_⟩ <;> first | assumption | omega | exact Below.refl _ _)
      | ((try go_split_ands); refine ⟨keep2 (W0 := W0) ?_ ?_ _ _, cell2 (W0 := W0) ?_ _ _ ?_ ?_, cell2 (W0 := W0) ?_ _ _ ?_ ?_⟩ <;> first | assumption | omega | exact Nat.le_refl _)
      | ((try go_split_ands); refine ⟨keepZ (W0 := W0) ?_ ?_ _, cellZ (W0 := W0) ?_ _ ?_ ?_, cellZ (W0 := W0) ?_ _ ?_ ?_⟩ <;> first | assumption | omega | exact Nat.le_refl _ | exact ⟨_, by assumption⟩))
    (first | (go_at_call 58; (with_reducible refine (H2.out _).mono ?_); rintro e w1 ⟨rfl, hb1⟩; (try go_split_ands); have hge : W0.heap.size ≤ w1.heap.size := (by first | (refine (keepS (W0 := W0) ?_ hb1).size; assumption) | exact (hb1.size : W0.heap.size ≤ w1.heap.size)); (try have hrow := row_call hb1 hrow); (try have hrow := row_new hb1); (try have hrow := row_newd hb1); have hl1 := lt_below hb1; obtain ⟨hc1, hf1⟩ := bcell hb1; (try (have hrc := row_cellA hrow; clear hc1 hf1)); (try have hrf := row_frozA hrow)) | (go_at_call 19; (with_reducible refine (H3.out _).mono ?_); rintro e w1 ⟨rfl, hb1⟩; (try go_split_ands); have hge : W0.heap.size ≤ w1.heap.size := (by first | (refine (keepS (W0 := W0) ?_ hb1).size; assumption) | exact (hb1.size : W0.heap.size ≤ w1.heap.size)); (try have hrow := row_call hb1 hrow); (try have hrow := row_new hb1); (try have hrow := row_newd hb1); have hl1 := lt_below hb1; obtain ⟨hc1, hf1⟩ := bcell hb1; (try (have hrc := row_cellA hrow; clear hc1 hf1)); (try have hrf := row_frozA hrow)) | (go_at_call 47; (with_reducible refine (H4.out _).mono ?_); rintro e w1 ⟨rfl, hb1⟩; (try go_split_ands); have hge : W0.heap.size ≤ w1.heap.size := (by first | (refine (keepS (W0 := W0) ?_ hb1).size; assumption) | exact (hb1.size : W0.heap.size ≤ w1.heap.size)); (try have hrow := row_call hb1 hrow); (try have hrow := row_new hb1); (try have hrow := row_newd hb1); have hl1 := lt_below hb1; obtain ⟨hc1, hf1⟩ := bcell hb1; (try (have hrc := row_cellA hrow; clear hc1 hf1)); (try have hrf := row_frozA hrow)))
      all_goals (try go_split_ands)
      all_goals (go_wp2_with fail; go_meet; refine ⟨_, rfl, rfl, ?_, ?_⟩)
      all_goals first | assumption | exact heap_alloc_new _ _ | exact row_set (by assumption) _ _
    case rest =>
      obtain ⟨gQ1, rfl, rfl, hQ1, hB⟩ := hcut
      obtain ⟨V2, rfl⟩ : ∃ V, V = wc := ⟨_, rfl⟩
      have Q1 := Lib.hid hQ1
      clear hQ1
      clear A1_0 A1_1 zA1 Z1_0 Z1_1 Z1_f0 Z1_f1 zZ1
      replace A1 := Lib.hid (row_call hB A1.out)
      replace Z1 := Lib.hid (row_call hB Z1.out)
      have B2 := Lib.hid (HB0.out.trans (hB.mono HB0.out.size))
      clear hB
      have A1_0 : V2.cell? ⟨w.heap.size, 0, none⟩ = some (.int .i64 s) := cell_of_row _ _ _ _ _ _ A1.out
      have A1_1 : V2.cell? ⟨w.heap.size, 1, none⟩ = some (.int .i64 n) := cell_of_row _ _ _ _ _ _ A1.out
      have zA1 := lt_of_heap A1.out
      have Z1_0 : V2.cell? ⟨w.heap.size + 1, 0, none⟩ = some (.int .u64 0) := cell_of_row _ _ _ _ _ _ Z1.out
      have Z1_1 : V2.cell? ⟨w.heap.size + 1, 1, none⟩ = some (.int .u64 0) := cell_of_row _ _ _ _ _ _ Z1.out
      have Z1_f0 : V2.frozen? ⟨w.heap.size + 1, 0, none⟩ = false := (by simp [World.frozen?, Z1.out])
      have Z1_f1 : V2.frozen? ⟨w.heap.size + 1, 1, none⟩ = false := (by simp [World.frozen?, Z1.out])
      have zZ1 := lt_of_heap Z1.out
      have Q1_0 : V2.cell? ⟨gQ1, 0, none⟩ = some (.int .u64 (zh T)) := cell_of_row _ _ _ _ _ _ Q1.out
      have Q1_1 : V2.cell? ⟨gQ1, 1, none⟩ = some (.int .u64 (zl T)) := cell_of_row _ _ _ _ _ _ Q1.out
      have zQ1 := lt_of_heap Q1.out
      go_wp2
      refine shut_ret (v := .tuple #[.agg #[.int .u64 (zh T), .int .u64 (zl T)], .int .i64 0]) (by simp [results, Try.results38, go_sem, zZ1, Z1_0, Z1_1]) rfl ⟨rfl, ?_⟩
      exact keep2 B2.out (by omega) _ _
  · rw [show nnD s n = 0 from if_neg hc, zh_zero, zl_zero]
    have H1 := Lib.hid X1
    clear X1
    generalize ckD s n = E at *
    have f1 : (E != 0) = true := by rw [bne_iff_ne]; exact hc
    go_enter Try.func38, Try.ntmps38
    refine wp_shut ?_
    go_wp2_with fail
    
    refine (H1.out _).mono ?_
    rintro e V1 ⟨rfl, hb1⟩
    have B1 := Lib.hid ((((Below.refl w.heap.size w).alloc (Nat.le_refl _) _).alloc (by simp <;> omega) _).trans (hb1.mono (by first | assumption | (simp <;> omega) | (simp; done))))
    have A1 := Lib.hid (row_call hb1 (row_alloc (heap_alloc_new _ _) _))
    have Z1 := Lib.hid (row_at (k' := w.heap.size + 1) (by simp) (row_call hb1 (heap_alloc_new _ _)))
    clear hb1
    have A1_0 : V1.cell? ⟨w.heap.size, 0, none⟩ = some (.int .i64 s) := cell_of_row _ _ _ _ _ _ A1.out
    have A1_1 : V1.cell? ⟨w.heap.size, 1, none⟩ = some (.int .i64 n) := cell_of_row _ _ _ _ _ _ A1.out
    have Z1_0 : V1.cell? ⟨w.heap.size + 1, 0, none⟩ = some (.int .u64 0) := cell_of_row _ _ _ _ _ _ Z1.out
    have Z1_1 : V1.cell? ⟨w.heap.size + 1, 1, none⟩ = some (.int .u64 0) := cell_of_row _ _ _ _ _ _ Z1.out
    have Z1_f0 : V1.frozen? ⟨w.heap.size + 1, 0, none⟩ = false := by simp [World.frozen?, Z1.out]
    have Z1_f1 : V1.frozen? ⟨w.heap.size + 1, 1, none⟩ = false := by simp [World.frozen?, Z1.out]
    have zA1 := lt_of_heap A1.out
    have zZ1 := lt_of_heap Z1.out
    go_simp
    go_wp2
    refine shut_ret (v := .tuple #[.agg #[.int .u64 0, .int .u64 0], .int .i64 E]) (by simp [results, Try.results38, go_sem, zZ1, Z1_0, Z1_1]) rfl ⟨rfl, ?_⟩
    exact keep2 B1.out (by omega) _ _
end Go.Proofs.Ytlfbiidnfheelaa
