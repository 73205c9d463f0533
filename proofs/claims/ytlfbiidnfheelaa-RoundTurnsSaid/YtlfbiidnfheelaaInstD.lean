/- Contracts of package instant: numbers as instants and back. -/
import Derived.Test.YtlfbiidnfheelaaInstC
import Derived.Test.YtlfbiidnfheelaaRFloorA
import Derived.Test.YtlfbiidnfheelaaRFloorB
import Derived.Test.YtlfbiidnfheelaaRFloorC
import Derived.Test.YtlfbiidnfheelaaLotP
namespace Go.Proofs.Ytlfbiidnfheelaa
set_option linter.unusedVariables false
set_option linter.unusedSimpArgs false
open Go.ChangeShapes Go.WideShapes Go.ChangeAt Go.RowKit

set_option maxHeartbeats 1600000 in
set_option maxRecDepth 100000 in
theorem ofNanos_any (x : Int) (b : in128 x) (w : World) :
    Calls Try.prog 32 #[.agg #[.int .u64 (zh x), .int .u64 (zl x)]] w fun e w' => e = .returned (.tuple #[.agg #[.int .i64 (tkS (-377705116800) 253402300799 x), .int .i64 (tkN (-377705116800) 253402300799 x)], .int .i64 (tkE (-377705116800) 253402300799 x)]) ∧ Below w.heap.size w w' := by
  have HT := Lib.hid (taker_any (-377705116800) 253402300799 (by unfold in64; omega) (by unfold in64; omega))
  have HC := Lib.hid (fun p q r => clos_any (-377705116800) 253402300799 x p q r b (by omega) (by omega) (by omega) (by omega))
  clear b
  generalize tkS (-377705116800) 253402300799 x = S at *
  generalize tkN (-377705116800) 253402300799 x = N at *
  generalize tkE (-377705116800) 253402300799 x = E at *
  go_enter Try.func32, Try.ntmps32
  refine wp_shut ?_
  go_wp2_with fail
  
  obtain ⟨W0, hW0⟩ : ∃ W0, W0 = ((w.alloc (Obj.cells #[Value.int .u64 (zh x), Value.int .u64 (zl x)] 24)).alloc (Obj.cells #[Value.int .i64 0, Value.int .i64 0] 33)) := ⟨_, rfl⟩
  have A1 := Lib.hid (row_at (k' := w.heap.size) (by simp) (row_by hW0 (row_alloc (heap_alloc_new _ _) _)))
  have Z1 := Lib.hid (row_at (k' := w.heap.size + 1) (by simp) (row_by hW0 (heap_alloc_new _ _)))
  have HB0 := Lib.hid (below_by hW0 (((Below.refl w.heap.size w).alloc (by simp <;> omega) _).alloc (by simp <;> omega) _))
  have HW0 := Lib.hid hW0
  clear hW0
  have A1_0 : W0.cell? ⟨w.heap.size, 0, none⟩ = some (.int .u64 (zh x)) := cell_of_row _ _ _ _ _ _ A1.out
  have A1_1 : W0.cell? ⟨w.heap.size, 1, none⟩ = some (.int .u64 (zl x)) := cell_of_row _ _ _ _ _ _ A1.out
  have zA1 := lt_of_heap A1.out
  have Z1_0 : W0.cell? ⟨w.heap.size + 1, 0, none⟩ = some (.int .i64 0) := cell_of_row _ _ _ _ _ _ Z1.out
  have Z1_1 : W0.cell? ⟨w.heap.size + 1, 1, none⟩ = some (.int .i64 0) := cell_of_row _ _ _ _ _ _ Z1.out
  have Z1_f0 : W0.frozen? ⟨w.heap.size + 1, 0, none⟩ = false := (by simp [World.frozen?, Z1.out])
  have Z1_f1 : W0.frozen? ⟨w.heap.size + 1, 1, none⟩ = false := (by simp [World.frozen?, Z1.out])
  have zZ1 := lt_of_heap Z1.out
  try rw [← HW0.out]
  go_cut [4, 5, 6] (fun s4 s5 s6 wx => s4 = .int .i64 S ∧ s5 = .int .i64 N ∧ s6 = .int .i64 E ∧ Below W0.heap.size W0 wx)
  case first =>
    go_region_held3 (fun w' => Below W0.heap.size W0 w' ∧ w'.cell? ⟨w.heap.size, 0, none⟩ = some (.int .u64 (zh x)) ∧ w'.cell? ⟨w.heap.size, 1, none⟩ = some (.int .u64 (zl x)))
    (first
      | ((try go_split_ands); refine ⟨(Below.refl _ _).drew, ?_, ?_⟩ <;> first | assumption | (rw [World.cell?_drew]; assumption))
      | ((try go_split_ands); refine ⟨keepS (W0 := W0) ?_ hb1, cellS (W0 := W0) ?_ hb1 ?_ ?_, cellS (W0 := W0) ?_ hb1 ?_ ?_⟩ <;> first | assumption | omega)
      | ((try go_split_ands); refine ⟨keepA (W0 := W0) ?_ _, cellA (W0 := W0) ?_ _ ?_ ?_, cellA (W0 := W0) ?_ _ ?_ ?_⟩ <;> first | assumption | omega)
      | ((try go_split_ands); refine ⟨keepAd (W0 := W0) ?_ _, cellAd (W0 := W0) ?_ _ ?_ ?_, cellAd (W0 := W0) ?_ _ ?_ ?_⟩ <;> first | assumption | omega | exact Below.refl _ _)
      | ((try go_split_ands); refine ⟨keep2 (W0 := W0) ?_ ?_ _ _, cell2 (W0 := W0) ?_ _ _ ?_ ?_, cell2 (W0 := W0) ?_ _ _ ?_ ?_⟩ <;> first | assumption | omega | exact Nat.le_refl _)
      | ((try go_split_ands); refine ⟨keepZ (W0 := W0) ?_ ?_ _, cellZ (W0 := W0) ?_ _ ?_ ?_, cellZ (W0 := W0) ?_ _ ?_ ?_⟩ <;> first | assumption | omega | exact Nat.le_refl _ | exact ⟨_, by assumption⟩))
    (first | (go_at_call 52; refine (HT.out _).mono ?_; rintro e w1 ⟨p, q, r, rfl, hp, hq, hr, cp0, cp1, cq, cr, hb1⟩) | (go_at_call 74; refine (HC.out _ _ _ _ (by assumption) (by assumption) (by assumption) (by assumption) (by assumption) (by assumption) (by assumption)).mono ?_; rintro e w1 ⟨rfl, hb1⟩; (try go_split_ands); have hge : W0.heap.size ≤ w1.heap.size := (by first | (refine (keepS (W0 := W0) ?_ hb1).size; assumption) | exact (hb1.size : W0.heap.size ≤ w1.heap.size)); (try have hrow := row_call hb1 hrow); (try have hrow := row_new hb1); (try have hrow := row_newd hb1); have hl1 := lt_below hb1; obtain ⟨hc1, hf1⟩ := bcell hb1; (try (have hrc := row_cellA hrow; clear hc1 hf1)); (try have hrf := row_frozA hrow)))
    all_goals (try go_split_ands)
    all_goals (go_wp2_with fail; go_meet; refine ⟨rfl, rfl, rfl, ?_⟩)
    all_goals first | assumption | trace_state
  case rest =>
    obtain ⟨rfl, rfl, rfl, hB⟩ := hcut
    obtain ⟨V1, rfl⟩ : ∃ V, V = wc := ⟨_, rfl⟩
    clear A1_0 A1_1 zA1 Z1_0 Z1_1 Z1_f0 Z1_f1 zZ1
    replace A1 := Lib.hid (row_call hB A1.out)
    replace Z1 := Lib.hid (row_call hB Z1.out)
    have B1 := Lib.hid (HB0.out.trans (hB.mono HB0.out.size))
    clear hB
    have A1_0 : V1.cell? ⟨w.heap.size, 0, none⟩ = some (.int .u64 (zh x)) := cell_of_row _ _ _ _ _ _ A1.out
    have A1_1 : V1.cell? ⟨w.heap.size, 1, none⟩ = some (.int .u64 (zl x)) := cell_of_row _ _ _ _ _ _ A1.out
    have zA1 := lt_of_heap A1.out
    have Z1_0 : V1.cell? ⟨w.heap.size + 1, 0, none⟩ = some (.int .i64 0) := cell_of_row _ _ _ _ _ _ Z1.out
    have Z1_1 : V1.cell? ⟨w.heap.size + 1, 1, none⟩ = some (.int .i64 0) := cell_of_row _ _ _ _ _ _ Z1.out
    have Z1_f0 : V1.frozen? ⟨w.heap.size + 1, 0, none⟩ = false := (by simp [World.frozen?, Z1.out])
    have Z1_f1 : V1.frozen? ⟨w.heap.size + 1, 1, none⟩ = false := (by simp [World.frozen?, Z1.out])
    have zZ1 := lt_of_heap Z1.out
    go_wp2
    refine shut_ret (v := .tuple #[.agg #[.int .i64 S, .int .i64 N], .int .i64 E]) (by simp [results, Try.results32, go_sem, zZ1, Z1_0, Z1_1]) rfl ⟨rfl, ?_⟩
    exact keep2 B1.out (by omega) _ _
set_option maxHeartbeats 1600000 in
set_option maxRecDepth 100000 in
theorem rWide_neg (s n : Int) (bs : in64 s) (bn : in64 n) (hs : s < 0) (w : World) :
    Calls Try.prog 36 #[.int .i64 s, .int .i64 n] w fun e w' => e = .returned (.agg #[.int .u64 (zh (nanos s n)), .int .u64 (zl (nanos s n))]) ∧ Below w.heap.size w w' := by
  have H1 := Lib.hid (rAmt_any s bs)
  have X2 := rMul_any s.natAbs 1000000000 (natAbs_U bs) (by unfold U; omega)
  rw [show ((1000000000 : Nat) : Int) = 1000000000 from rfl] at X2
  have X3 := rNeg_any ((s.natAbs * 1000000000 : Nat) : Int)
  rw [show -((s.natAbs * 1000000000 : Nat) : Int) = s * 1000000000 by omega] at X3
  have H4 := Lib.hid (rOf_any n bn)
  have H5 := Lib.hid (rAdd_any (s * 1000000000) n)
  rw [show s * 1000000000 + n = nanos s n from rfl] at H5
  have H2 := Lib.hid X2
  have H3 := Lib.hid X3
  clear X2 X3 bs bn
  generalize nanos s n = T at *
  generalize cb (s * 1000000000) n = c at *
  generalize s * 1000000000 = M at *
  generalize ((s.natAbs * 1000000000 : Nat) : Int) = P at *
  generalize s.natAbs = m at *
  go_enter Try.func36, Try.ntmps36
  refine wp_shut ?_
  go_wp2_with fail
  
  refine (H1.out _).mono ?_
  rintro e V1 ⟨rfl, hb1⟩
  have B1 := Lib.hid (((Below.refl w.heap.size w).alloc (Nat.le_refl _) _).trans (hb1.mono (by first | assumption | (simp <;> omega) | (simp; done))))
  have Z1 := Lib.hid (row_call hb1 (heap_alloc_new _ _))
  clear hb1
  have Z1_0 : V1.cell? ⟨w.heap.size, 0, none⟩ = some (.int .u64 0) := cell_of_row _ _ _ _ _ _ Z1.out
  have Z1_1 : V1.cell? ⟨w.heap.size, 1, none⟩ = some (.int .u64 0) := cell_of_row _ _ _ _ _ _ Z1.out
  have Z1_f0 : V1.frozen? ⟨w.heap.size, 0, none⟩ = false := by simp [World.frozen?, Z1.out]
  have Z1_f1 : V1.frozen? ⟨w.heap.size, 1, none⟩ = false := by simp [World.frozen?, Z1.out]
  have zZ1 := lt_of_heap Z1.out
  go_simp
  go_wp2_with fail
  refine (H2.out _).mono ?_
  rintro e V2 ⟨rfl, hb2⟩
  clear Z1_0 Z1_1 Z1_f0 Z1_f1 zZ1
  have B2 : Hid (Below w.heap.size w V2) := by first | exact Lib.hid ((B1.out).trans (hb2.mono (by have := B1.out.size; first | assumption | (simp <;> omega) | (simp; done)))) | exact Lib.hid (((B1.out).alloc (B1.out.size) _).trans (hb2.mono (by have := B1.out.size; first | assumption | (simp <;> omega) | (simp; done)))) | exact Lib.hid ((((B1.out).alloc (B1.out.size) _).alloc (by have := B1.out.size; simp <;> omega) _).trans (hb2.mono (by have := B1.out.size; first | assumption | (simp <;> omega) | (simp; done)))) | exact Lib.hid (((((B1.out).alloc (B1.out.size) _).alloc (by have := B1.out.size; simp <;> omega) _).alloc (by have := B1.out.size; simp <;> omega) _).trans (hb2.mono (by have := B1.out.size; first | assumption | (simp <;> omega) | (simp; done))))
  first | replace Z1 := Lib.hid (row_call hb2 Z1.out) | replace Z1 := Lib.hid (row_call hb2 (row_alloc Z1.out _)) | replace Z1 := Lib.hid (row_call hb2 (row_alloc (row_alloc Z1.out _) _)) | replace Z1 := Lib.hid (row_call hb2 (row_alloc (row_alloc (row_alloc Z1.out _) _) _))
  clear hb2
  have Z1_0 : V2.cell? ⟨w.heap.size, 0, none⟩ = some (.int .u64 0) := cell_of_row _ _ _ _ _ _ Z1.out
  have Z1_1 : V2.cell? ⟨w.heap.size, 1, none⟩ = some (.int .u64 0) := cell_of_row _ _ _ _ _ _ Z1.out
  have Z1_f0 : V2.frozen? ⟨w.heap.size, 0, none⟩ = false := by simp [World.frozen?, Z1.out]
  have Z1_f1 : V2.frozen? ⟨w.heap.size, 1, none⟩ = false := by simp [World.frozen?, Z1.out]
  have zZ1 := lt_of_heap Z1.out
  go_simp
  go_wp2_with fail
  refine (H3.out _).mono ?_
  rintro e V3 ⟨rfl, hb3⟩
  clear Z1_0 Z1_1 Z1_f0 Z1_f1 zZ1
  have nZ1P1 := Lib.hid (lt_of_heap Z1.out)
  have nlZ1P1 : ¬ (w.heap.size = V2.heap.size) := Nat.ne_of_lt (lt_of_heap Z1.out)
  have nrZ1P1 : ¬ (V2.heap.size = w.heap.size) := Ne.symm (Nat.ne_of_lt (lt_of_heap Z1.out))
  have B3 := Lib.hid (((B2.out).alloc (B2.out.size) _).trans (hb3.mono (by have := B2.out.size; first | assumption | (simp <;> omega) | (simp; done))))
  replace Z1 := Lib.hid (row_call hb3 (row_alloc Z1.out _))
  have P1 := Lib.hid (row_call hb3 (heap_alloc_new _ _))
  clear hb3
  have Z1_0 : V3.cell? ⟨w.heap.size, 0, none⟩ = some (.int .u64 0) := cell_of_row _ _ _ _ _ _ Z1.out
  have Z1_1 : V3.cell? ⟨w.heap.size, 1, none⟩ = some (.int .u64 0) := cell_of_row _ _ _ _ _ _ Z1.out
  have Z1_f0 : V3.frozen? ⟨w.heap.size, 0, none⟩ = false := by simp [World.frozen?, Z1.out]
  have Z1_f1 : V3.frozen? ⟨w.heap.size, 1, none⟩ = false := by simp [World.frozen?, Z1.out]
  have P1_0 : V3.cell? ⟨V2.heap.size, 0, none⟩ = some (.int .u64 (zh P)) := cell_of_row _ _ _ _ _ _ P1.out
  have P1_1 : V3.cell? ⟨V2.heap.size, 1, none⟩ = some (.int .u64 (zl P)) := cell_of_row _ _ _ _ _ _ P1.out
  have P1_f0 : V3.frozen? ⟨V2.heap.size, 0, none⟩ = false := by simp [World.frozen?, P1.out]
  have P1_f1 : V3.frozen? ⟨V2.heap.size, 1, none⟩ = false := by simp [World.frozen?, P1.out]
  have zZ1 := lt_of_heap Z1.out
  have zP1 := lt_of_heap P1.out
  go_simp
  go_wp2_with fail
  clear Z1_0 Z1_1 Z1_f0 Z1_f1 zZ1 P1_0 P1_1 P1_f0 P1_f1 zP1
  obtain ⟨W0, hW0⟩ : ∃ W0, W0 = ((V3.setCell ⟨V2.heap.size, 0, none⟩ (Value.int .u64 (zh M))).setCell ⟨V2.heap.size, 1, none⟩ (Value.int .u64 (zl M))) := ⟨_, rfl⟩
  replace Z1 := Lib.hid (row_by hW0 (row_other (by have := nZ1P1.out; omega) Z1.out _ _))
  replace P1 := Lib.hid (row_by hW0 (row_set P1.out _ _))
  have HB0 := Lib.hid (below_by hW0 (keep2 (B3.out) (by have := B2.out.size; omega) _ _))
  have HW0 := Lib.hid hW0
  clear hW0
  have Z1_0 : W0.cell? ⟨w.heap.size, 0, none⟩ = some (.int .u64 0) := cell_of_row _ _ _ _ _ _ Z1.out
  have Z1_1 : W0.cell? ⟨w.heap.size, 1, none⟩ = some (.int .u64 0) := cell_of_row _ _ _ _ _ _ Z1.out
  have Z1_f0 : W0.frozen? ⟨w.heap.size, 0, none⟩ = false := (by simp [World.frozen?, Z1.out])
  have Z1_f1 : W0.frozen? ⟨w.heap.size, 1, none⟩ = false := (by simp [World.frozen?, Z1.out])
  have zZ1 := lt_of_heap Z1.out
  have P1_0 : W0.cell? ⟨V2.heap.size, 0, none⟩ = some (.int .u64 (zh M)) := cell_of_row _ _ _ _ _ _ P1.out
  have P1_1 : W0.cell? ⟨V2.heap.size, 1, none⟩ = some (.int .u64 (zl M)) := cell_of_row _ _ _ _ _ _ P1.out
  have P1_f0 : W0.frozen? ⟨V2.heap.size, 0, none⟩ = false := (by simp [World.frozen?, P1.out])
  have P1_f1 : W0.frozen? ⟨V2.heap.size, 1, none⟩ = false := (by simp [World.frozen?, P1.out])
  have zP1 := lt_of_heap P1.out
  try rw [← HW0.out]
  go_cut [6, 7] (fun s6 s7 wx => ∃ gQ1 : Nat, s6 = .pointer (some ⟨gQ1, 0, none⟩) ∧ s7 = .bool c ∧ wx.heap[gQ1]? = some (.cells #[.int .u64 (zh T), .int .u64 (zl T)] 24 (0, 0)) ∧ Below W0.heap.size W0 wx)
  case first =>
    go_region_held3 (fun w' => Below W0.heap.size W0 w' ∧ w'.cell? ⟨V2.heap.size, 0, none⟩ = some (.int .u64 (zh M)) ∧ w'.cell? ⟨V2.heap.size, 1, none⟩ = some (.int .u64 (zl M)))
    (first
      | ((try go_split_ands); refine ⟨(Below.refl _ _).drew, ?_, ?_⟩ <;> first | assumption | (rw [World.cell?_drew]; assumption))
      | ((try go_split_ands); refine ⟨keepS (W0 := W0) ?_ hb1, cellS (W0 := W0) ?_ hb1 ?_ ?_, cellS (W0 := W0) ?_ hb1 ?_ ?_⟩ <;> first | assumption | omega)
      | ((try go_split_ands); refine ⟨keepA (W0 := W0) ?_ _, cellA (W0 := W0) ?_ _ ?_ ?_, cellA (W0 := W0) ?_ _ ?_ ?_⟩ <;> first | assumption | omega)
      | ((try go_split_ands); refine ⟨keepAd (W0 := W0) ?_ _, cellAd (W0 := W0) ?_ _ ?_ ?_, cellAd (W0 := W0) ?_ _ ?_ ?_⟩ <;> first | assumption | omega | exact Below.refl _ _)
      | ((try go_split_ands); refine ⟨keep2 (W0 := W0) ?_ ?_ _ _, cell2 (W0 := W0) ?_ _ _ ?_ ?_, cell2 (W0 := W0) ?_ _ _ ?_ ?_⟩ <;> first | assumption | omega | exact Nat.le_refl _)
      | ((try go_split_ands); refine ⟨keepZ (W0 := W0) ?_ ?_ _, cellZ (W0 := W0) ?_ _ ?_ ?_, cellZ (W0 := W0) ?_ _ ?_ ?_⟩ <;> first | assumption | omega | exact Nat.le_refl _ | exact ⟨_, by assumption⟩))
    (first | (go_at_call 29; (with_reducible refine (H4.out _).mono ?_); rintro e w1 ⟨rfl, hb1⟩; (try go_split_ands); have hge : W0.heap.size ≤ w1.heap.size := (by first | (refine (keepS (W0 := W0) ?_ hb1).size; assumption) | exact (hb1.size : W0.heap.size ≤ w1.heap.size)); (try have hrow := row_call hb1 hrow); (try have hrow := row_new hb1); (try have hrow := row_newd hb1); have hl1 := lt_below hb1; obtain ⟨hc1, hf1⟩ := bcell hb1; (try (have hrc := row_cellA hrow; clear hc1 hf1)); (try have hrf := row_frozA hrow)) | (go_at_call 55; (with_reducible refine (H5.out _).mono ?_); rintro e w1 ⟨rfl, hb1⟩; (try go_split_ands); have hge : W0.heap.size ≤ w1.heap.size := (by first | (refine (keepS (W0 := W0) ?_ hb1).size; assumption) | exact (hb1.size : W0.heap.size ≤ w1.heap.size)); (try have hrow := row_call hb1 hrow); (try have hrow := row_new hb1); (try have hrow := row_newd hb1); have hl1 := lt_below hb1; obtain ⟨hc1, hf1⟩ := bcell hb1; (try (have hrc := row_cellA hrow; clear hc1 hf1)); (try have hrf := row_frozA hrow)))
    all_goals (try go_split_ands)
    all_goals (go_wp2_with fail; go_meet; refine ⟨_, rfl, rfl, ?_, ?_⟩)
    all_goals first | assumption | exact heap_alloc_new _ _ | exact row_set (by assumption) _ _
  case rest =>
    obtain ⟨gQ1, rfl, rfl, hQ1, hB⟩ := hcut
    obtain ⟨V4, rfl⟩ : ∃ V, V = wc := ⟨_, rfl⟩
    have Q1 := Lib.hid hQ1
    clear hQ1
    clear Z1_0 Z1_1 Z1_f0 Z1_f1 zZ1 P1_0 P1_1 P1_f0 P1_f1 zP1
    replace Z1 := Lib.hid (row_call hB Z1.out)
    replace P1 := Lib.hid (row_call hB P1.out)
    have B4 := Lib.hid (HB0.out.trans (hB.mono HB0.out.size))
    clear hB
    have Z1_0 : V4.cell? ⟨w.heap.size, 0, none⟩ = some (.int .u64 0) := cell_of_row _ _ _ _ _ _ Z1.out
    have Z1_1 : V4.cell? ⟨w.heap.size, 1, none⟩ = some (.int .u64 0) := cell_of_row _ _ _ _ _ _ Z1.out
    have Z1_f0 : V4.frozen? ⟨w.heap.size, 0, none⟩ = false := (by simp [World.frozen?, Z1.out])
    have Z1_f1 : V4.frozen? ⟨w.heap.size, 1, none⟩ = false := (by simp [World.frozen?, Z1.out])
    have zZ1 := lt_of_heap Z1.out
    have P1_0 : V4.cell? ⟨V2.heap.size, 0, none⟩ = some (.int .u64 (zh M)) := cell_of_row _ _ _ _ _ _ P1.out
    have P1_1 : V4.cell? ⟨V2.heap.size, 1, none⟩ = some (.int .u64 (zl M)) := cell_of_row _ _ _ _ _ _ P1.out
    have P1_f0 : V4.frozen? ⟨V2.heap.size, 0, none⟩ = false := (by simp [World.frozen?, P1.out])
    have P1_f1 : V4.frozen? ⟨V2.heap.size, 1, none⟩ = false := (by simp [World.frozen?, P1.out])
    have zP1 := lt_of_heap P1.out
    have Q1_0 : V4.cell? ⟨gQ1, 0, none⟩ = some (.int .u64 (zh T)) := cell_of_row _ _ _ _ _ _ Q1.out
    have Q1_1 : V4.cell? ⟨gQ1, 1, none⟩ = some (.int .u64 (zl T)) := cell_of_row _ _ _ _ _ _ Q1.out
    have zQ1 := lt_of_heap Q1.out
    go_wp2
    refine shut_ret (v := .agg #[.int .u64 (zh T), .int .u64 (zl T)]) (by simp [results, Try.results36, go_sem, zZ1, Z1_0, Z1_1]) rfl ⟨rfl, ?_⟩
    exact keep2 B4.out (Nat.le_refl _) _ _
set_option maxHeartbeats 1600000 in
set_option maxRecDepth 100000 in
theorem rWide_pos (s n : Int) (bs : in64 s) (bn : in64 n) (hs : ¬ s < 0) (w : World) :
    Calls Try.prog 36 #[.int .i64 s, .int .i64 n] w fun e w' => e = .returned (.agg #[.int .u64 (zh (nanos s n)), .int .u64 (zl (nanos s n))]) ∧ Below w.heap.size w w' := by
  have H1 := Lib.hid (rAmt_any s bs)
  have X2 := rMul_any s.natAbs 1000000000 (natAbs_U bs) (by unfold U; omega)
  rw [show ((1000000000 : Nat) : Int) = 1000000000 from rfl, show ((s.natAbs * 1000000000 : Nat) : Int) = s * 1000000000 by omega] at X2
  have H4 := Lib.hid (rOf_any n bn)
  have H5 := Lib.hid (rAdd_any (s * 1000000000) n)
  rw [show s * 1000000000 + n = nanos s n from rfl] at H5
  have H2 := Lib.hid X2
  clear X2 bs bn
  generalize nanos s n = T at *
  generalize cb (s * 1000000000) n = c at *
  generalize s * 1000000000 = M at *
  generalize s.natAbs = m at *
  go_enter Try.func36, Try.ntmps36
  refine wp_shut ?_
  go_wp2_with fail
  
  refine (H1.out _).mono ?_
  rintro e V1 ⟨rfl, hb1⟩
  have B1 := Lib.hid (((Below.refl w.heap.size w).alloc (Nat.le_refl _) _).trans (hb1.mono (by first | assumption | (simp <;> omega) | (simp; done))))
  have Z1 := Lib.hid (row_call hb1 (heap_alloc_new _ _))
  clear hb1
  have Z1_0 : V1.cell? ⟨w.heap.size, 0, none⟩ = some (.int .u64 0) := cell_of_row _ _ _ _ _ _ Z1.out
  have Z1_1 : V1.cell? ⟨w.heap.size, 1, none⟩ = some (.int .u64 0) := cell_of_row _ _ _ _ _ _ Z1.out
  have Z1_f0 : V1.frozen? ⟨w.heap.size, 0, none⟩ = false := by simp [World.frozen?, Z1.out]
  have Z1_f1 : V1.frozen? ⟨w.heap.size, 1, none⟩ = false := by simp [World.frozen?, Z1.out]
  have zZ1 := lt_of_heap Z1.out
  go_simp
  go_wp2_with fail
  refine (H2.out _).mono ?_
  rintro e V2 ⟨rfl, hb2⟩
  clear Z1_0 Z1_1 Z1_f0 Z1_f1 zZ1
  have B2 : Hid (Below w.heap.size w V2) := by first | exact Lib.hid ((B1.out).trans (hb2.mono (by have := B1.out.size; first | assumption | (simp <;> omega) | (simp; done)))) | exact Lib.hid (((B1.out).alloc (B1.out.size) _).trans (hb2.mono (by have := B1.out.size; first | assumption | (simp <;> omega) | (simp; done)))) | exact Lib.hid ((((B1.out).alloc (B1.out.size) _).alloc (by have := B1.out.size; simp <;> omega) _).trans (hb2.mono (by have := B1.out.size; first | assumption | (simp <;> omega) | (simp; done)))) | exact Lib.hid (((((B1.out).alloc (B1.out.size) _).alloc (by have := B1.out.size; simp <;> omega) _).alloc (by have := B1.out.size; simp <;> omega) _).trans (hb2.mono (by have := B1.out.size; first | assumption | (simp <;> omega) | (simp; done))))
  first | replace Z1 := Lib.hid (row_call hb2 Z1.out) | replace Z1 := Lib.hid (row_call hb2 (row_alloc Z1.out _)) | replace Z1 := Lib.hid (row_call hb2 (row_alloc (row_alloc Z1.out _) _)) | replace Z1 := Lib.hid (row_call hb2 (row_alloc (row_alloc (row_alloc Z1.out _) _) _))
  clear hb2
  have Z1_0 : V2.cell? ⟨w.heap.size, 0, none⟩ = some (.int .u64 0) := cell_of_row _ _ _ _ _ _ Z1.out
  have Z1_1 : V2.cell? ⟨w.heap.size, 1, none⟩ = some (.int .u64 0) := cell_of_row _ _ _ _ _ _ Z1.out
  have Z1_f0 : V2.frozen? ⟨w.heap.size, 0, none⟩ = false := by simp [World.frozen?, Z1.out]
  have Z1_f1 : V2.frozen? ⟨w.heap.size, 1, none⟩ = false := by simp [World.frozen?, Z1.out]
  have zZ1 := lt_of_heap Z1.out
  go_simp
  go_wp2_with fail
  have nZ1P1 := Lib.hid (lt_of_heap Z1.out)
  have nlZ1P1 : ¬ (w.heap.size = V2.heap.size) := Nat.ne_of_lt (lt_of_heap Z1.out)
  have nrZ1P1 : ¬ (V2.heap.size = w.heap.size) := Ne.symm (Nat.ne_of_lt (lt_of_heap Z1.out))
  clear Z1_0 Z1_1 Z1_f0 Z1_f1 zZ1
  obtain ⟨W0, hW0⟩ : ∃ W0, W0 = (V2.alloc (Obj.cells #[Value.int .u64 (zh M), Value.int .u64 (zl M)] 24)) := ⟨_, rfl⟩
  replace Z1 := Lib.hid (row_by hW0 (row_alloc Z1.out _))
  have P1 := Lib.hid (row_at (k' := V2.heap.size) (by simp) (row_by hW0 (heap_alloc_new _ _)))
  have HB0 := Lib.hid (below_by hW0 ((B2.out).alloc (by have := B2.out.size; simp <;> omega) _))
  have HW0 := Lib.hid hW0
  clear hW0
  have Z1_0 : W0.cell? ⟨w.heap.size, 0, none⟩ = some (.int .u64 0) := cell_of_row _ _ _ _ _ _ Z1.out
  have Z1_1 : W0.cell? ⟨w.heap.size, 1, none⟩ = some (.int .u64 0) := cell_of_row _ _ _ _ _ _ Z1.out
  have Z1_f0 : W0.frozen? ⟨w.heap.size, 0, none⟩ = false := (by simp [World.frozen?, Z1.out])
  have Z1_f1 : W0.frozen? ⟨w.heap.size, 1, none⟩ = false := (by simp [World.frozen?, Z1.out])
  have zZ1 := lt_of_heap Z1.out
  have P1_0 : W0.cell? ⟨V2.heap.size, 0, none⟩ = some (.int .u64 (zh M)) := cell_of_row _ _ _ _ _ _ P1.out
  have P1_1 : W0.cell? ⟨V2.heap.size, 1, none⟩ = some (.int .u64 (zl M)) := cell_of_row _ _ _ _ _ _ P1.out
  have P1_f0 : W0.frozen? ⟨V2.heap.size, 0, none⟩ = false := (by simp [World.frozen?, P1.out])
  have P1_f1 : W0.frozen? ⟨V2.heap.size, 1, none⟩ = false := (by simp [World.frozen?, P1.out])
  have zP1 := lt_of_heap P1.out
  go_upto_region 4 with fail
  try rw [← HW0.out]
  go_cut [6, 7] (fun s6 s7 wx => ∃ gQ1 : Nat, s6 = .pointer (some ⟨gQ1, 0, none⟩) ∧ s7 = .bool c ∧ wx.heap[gQ1]? = some (.cells #[.int .u64 (zh T), .int .u64 (zl T)] 24 (0, 0)) ∧ Below W0.heap.size W0 wx)
  case first =>
    go_region_held3 (fun w' => Below W0.heap.size W0 w' ∧ w'.cell? ⟨V2.heap.size, 0, none⟩ = some (.int .u64 (zh M)) ∧ w'.cell? ⟨V2.heap.size, 1, none⟩ = some (.int .u64 (zl M)))
    (first
      | ((try go_split_ands); refine ⟨(Below.refl _ _).drew, ?_, ?_⟩ <;> first | assumption | (rw [World.cell?_drew]; assumption))
      | ((try go_split_ands); refine ⟨keepS (W0 := W0) ?_ hb1, cellS (W0 := W0) ?_ hb1 ?_ ?_, cellS (W0 := W0) ?_ hb1 ?_ ?_⟩ <;> first | assumption | omega)
      | ((try go_split_ands); refine ⟨keepA (W0 := W0) ?_ _, cellA (W0 := W0) ?_ _ ?_ ?_, cellA (W0 := W0) ?_ _ ?_ ?_⟩ <;> first | assumption | omega)
      | ((try go_split_ands); refine ⟨keepAd (W0 := W0) ?_ _, cellAd (W0 := W0) ?_ _ ?_ ?_, cellAd (W0 := W0) ?_ _ ?_ ?_⟩ <;> first | assumption | omega | exact Below.refl _ _)
      | ((try go_split_ands); refine ⟨keep2 (W0 := W0) ?_ ?_ _ _, cell2 (W0 := W0) ?_ _ _ ?_ ?_, cell2 (W0 := W0) ?_ _ _ ?_ ?_⟩ <;> first | assumption | omega | exact Nat.le_refl _)
      | ((try go_split_ands); refine ⟨keepZ (W0 := W0) ?_ ?_ _, cellZ (W0 := W0) ?_ _ ?_ ?_, cellZ (W0 := W0) ?_ _ ?_ ?_⟩ <;> first | assumption | omega | exact Nat.le_refl _ | exact ⟨_, by assumption⟩))
    (first | (go_at_call 29; (with_reducible refine (H4.out _).mono ?_); rintro e w1 ⟨rfl, hb1⟩; (try go_split_ands); have hge : W0.heap.size ≤ w1.heap.size := (by first | (refine (keepS (W0 := W0) ?_ hb1).size; assumption) | exact (hb1.size : W0.heap.size ≤ w1.heap.size)); (try have hrow := row_call hb1 hrow); (try have hrow := row_new hb1); (try have hrow := row_newd hb1); have hl1 := lt_below hb1; obtain ⟨hc1, hf1⟩ := bcell hb1; (try (have hrc := row_cellA hrow; clear hc1 hf1)); (try have hrf := row_frozA hrow)) | (go_at_call 55; (with_reducible refine (H5.out _).mono ?_); rintro e w1 ⟨rfl, hb1⟩; (try go_split_ands); have hge : W0.heap.size ≤ w1.heap.size := (by first | (refine (keepS (W0 := W0) ?_ hb1).size; assumption) | exact (hb1.size : W0.heap.size ≤ w1.heap.size)); (try have hrow := row_call hb1 hrow); (try have hrow := row_new hb1); (try have hrow := row_newd hb1); have hl1 := lt_below hb1; obtain ⟨hc1, hf1⟩ := bcell hb1; (try (have hrc := row_cellA hrow; clear hc1 hf1)); (try have hrf := row_frozA hrow)))
    all_goals (try go_split_ands)
    all_goals (go_wp2_with fail; go_meet; refine ⟨_, rfl, rfl, ?_, ?_⟩)
    all_goals first | assumption | exact heap_alloc_new _ _ | exact row_set (by assumption) _ _
  case rest =>
    obtain ⟨gQ1, rfl, rfl, hQ1, hB⟩ := hcut
    obtain ⟨V3, rfl⟩ : ∃ V, V = wc := ⟨_, rfl⟩
    have Q1 := Lib.hid hQ1
    clear hQ1
    clear Z1_0 Z1_1 Z1_f0 Z1_f1 zZ1 P1_0 P1_1 P1_f0 P1_f1 zP1
    replace Z1 := Lib.hid (row_call hB Z1.out)
    replace P1 := Lib.hid (row_call hB P1.out)
    have B3 := Lib.hid (HB0.out.trans (hB.mono HB0.out.size))
    clear hB
    have Z1_0 : V3.cell? ⟨w.heap.size, 0, none⟩ = some (.int .u64 0) := cell_of_row _ _ _ _ _ _ Z1.out
    have Z1_1 : V3.cell? ⟨w.heap.size, 1, none⟩ = some (.int .u64 0) := cell_of_row _ _ _ _ _ _ Z1.out
    have Z1_f0 : V3.frozen? ⟨w.heap.size, 0, none⟩ = false := (by simp [World.frozen?, Z1.out])
    have Z1_f1 : V3.frozen? ⟨w.heap.size, 1, none⟩ = false := (by simp [World.frozen?, Z1.out])
    have zZ1 := lt_of_heap Z1.out
    have P1_0 : V3.cell? ⟨V2.heap.size, 0, none⟩ = some (.int .u64 (zh M)) := cell_of_row _ _ _ _ _ _ P1.out
    have P1_1 : V3.cell? ⟨V2.heap.size, 1, none⟩ = some (.int .u64 (zl M)) := cell_of_row _ _ _ _ _ _ P1.out
    have P1_f0 : V3.frozen? ⟨V2.heap.size, 0, none⟩ = false := (by simp [World.frozen?, P1.out])
    have P1_f1 : V3.frozen? ⟨V2.heap.size, 1, none⟩ = false := (by simp [World.frozen?, P1.out])
    have zP1 := lt_of_heap P1.out
    have Q1_0 : V3.cell? ⟨gQ1, 0, none⟩ = some (.int .u64 (zh T)) := cell_of_row _ _ _ _ _ _ Q1.out
    have Q1_1 : V3.cell? ⟨gQ1, 1, none⟩ = some (.int .u64 (zl T)) := cell_of_row _ _ _ _ _ _ Q1.out
    have zQ1 := lt_of_heap Q1.out
    go_wp2
    refine shut_ret (v := .agg #[.int .u64 (zh T), .int .u64 (zl T)]) (by simp [results, Try.results36, go_sem, zZ1, Z1_0, Z1_1]) rfl ⟨rfl, ?_⟩
    exact keep2 B3.out (Nat.le_refl _) _ _
theorem rWide_any (s n : Int) (bs : in64 s) (bn : in64 n) (w : World) :
    Calls Try.prog 36 #[.int .i64 s, .int .i64 n] w fun e w' => e = .returned (.agg #[.int .u64 (zh (nanos s n)), .int .u64 (zl (nanos s n))]) ∧ Below w.heap.size w w' := by
  by_cases hs : s < 0
  · exact rWide_neg s n bs bn hs w
  · exact rWide_pos s n bs bn hs w
theorem giga_in (x : Int) (b : in128 x) : in128 (x / 1000000000) := by unfold in128 at *; omega
set_option maxHeartbeats 1600000 in
set_option maxRecDepth 100000 in
theorem rParts_any (x : Int) (b : in128 x) (w : World) :
    Calls Try.prog 60 #[.agg #[.int .u64 (zh x), .int .u64 (zl x)]] w fun e w' => e = .returned (.tuple #[.int .i64 (iV (x / 1000000000)), .int .i64 (x % 1000000000), .bool (iE (x / 1000000000) == 0)]) ∧ Below w.heap.size w w' := by
  have X1 := rFloor_all x 1000000000 b (by unfold in64; omega) (by omega)
  have e1 : fq x 1000000000 = x / 1000000000 := by unfold fq; rw [if_pos (by omega)]
  have e2 : fr x 1000000000 = x % 1000000000 := by unfold fr; rw [e1]; omega
  rw [e1, e2] at X1
  have H1 := Lib.hid X1
  have H2 := Lib.hid (rInt_any (x / 1000000000) (giga_in x b))
  clear X1 e1 e2 b
  generalize x % 1000000000 = R at *
  generalize x / 1000000000 = Q at *
  generalize iV Q = S at *
  generalize iE Q = E at *
  go_enter Try.func60, Try.ntmps60
  go_wp2_with fail
  
  refine (H1.out _).mono ?_
  rintro e V1 ⟨rfl, hb1⟩
  have B1 : Hid (Below w.heap.size w V1) := by first | exact Lib.hid ((Below.refl w.heap.size w).trans (hb1.mono (by first | assumption | (simp <;> omega) | (simp; done)))) | exact Lib.hid (((Below.refl w.heap.size w).alloc (Nat.le_refl _) _).trans (hb1.mono (by first | assumption | (simp <;> omega) | (simp; done)))) | exact Lib.hid ((((Below.refl w.heap.size w).alloc (Nat.le_refl _) _).alloc (by simp <;> omega) _).trans (hb1.mono (by first | assumption | (simp <;> omega) | (simp; done)))) | exact Lib.hid (((((Below.refl w.heap.size w).alloc (Nat.le_refl _) _).alloc (by simp <;> omega) _).alloc (by simp <;> omega) _).trans (hb1.mono (by first | assumption | (simp <;> omega) | (simp; done))))
  clear hb1
  go_simp
  go_wp2_with fail
  refine (H2.out _).mono ?_
  rintro e V2 ⟨rfl, hb2⟩
  have B2 : Hid (Below w.heap.size w V2) := by first | exact Lib.hid ((B1.out).trans (hb2.mono (by have := B1.out.size; first | assumption | (simp <;> omega) | (simp; done)))) | exact Lib.hid (((B1.out).alloc (B1.out.size) _).trans (hb2.mono (by have := B1.out.size; first | assumption | (simp <;> omega) | (simp; done)))) | exact Lib.hid ((((B1.out).alloc (B1.out.size) _).alloc (by have := B1.out.size; simp <;> omega) _).trans (hb2.mono (by have := B1.out.size; first | assumption | (simp <;> omega) | (simp; done)))) | exact Lib.hid (((((B1.out).alloc (B1.out.size) _).alloc (by have := B1.out.size; simp <;> omega) _).alloc (by have := B1.out.size; simp <;> omega) _).trans (hb2.mono (by have := B1.out.size; first | assumption | (simp <;> omega) | (simp; done))))
  clear hb2
  go_simp
  go_wp2
  go_ret3
  exact ⟨rfl, B2.out⟩
set_option maxHeartbeats 1600000 in
set_option maxRecDepth 100000 in
theorem rInstant_any (x : Int) (b : in128 x) (w : World) :
    Calls Try.prog 56 #[.agg #[.int .u64 (zh x), .int .u64 (zl x)]] w fun e w' => e = .returned (.tuple #[.agg #[.int .i64 (tkS (-377705116800) 253402300799 x), .int .i64 (tkN (-377705116800) 253402300799 x)], .int .i64 (tkE (-377705116800) 253402300799 x)]) ∧ Below w.heap.size w w' := by
  have X1 := rParts_any x b
  by_cases hq : in64 (x / 1000000000)
  · rw [iV_of hq, iE_of hq, show ((0 : Int) == 0) = true from rfl] at X1
    have H1 := Lib.hid X1
    have YT := @tk_yes (-377705116800) 253402300799 x
    have YN := @tk_no (-377705116800) 253402300799 x
    clear X1 hq b
    generalize x % 1000000000 = R at *
    generalize x / 1000000000 = Q at *
    by_cases h1 : Q < -377705116800
    · obtain ⟨t1, t2, t3⟩ := YN (by omega)
      rw [t1, t2, t3]
      clear YT YN t1 t2 t3
      go_enter Try.func56, Try.ntmps56
      refine wp_shut ?_
      go_wp2_with fail
      
      refine (H1.out _).mono ?_
      rintro e V1 ⟨rfl, hb1⟩
      have B1 := Lib.hid ((((Below.refl w.heap.size w).alloc (Nat.le_refl _) _).alloc (by simp <;> omega) _).trans (hb1.mono (by first | assumption | (simp <;> omega) | (simp; done))))
      have A1 := Lib.hid (row_call hb1 (row_alloc (heap_alloc_new _ _) _))
      have Z1 := Lib.hid (row_at (k' := w.heap.size + 1) (by simp) (row_call hb1 (heap_alloc_new _ _)))
      clear hb1
      have A1_0 : V1.cell? ⟨w.heap.size, 0, none⟩ = some (.int .u64 (zh x)) := cell_of_row _ _ _ _ _ _ A1.out
      have A1_1 : V1.cell? ⟨w.heap.size, 1, none⟩ = some (.int .u64 (zl x)) := cell_of_row _ _ _ _ _ _ A1.out
      have Z1_0 : V1.cell? ⟨w.heap.size + 1, 0, none⟩ = some (.int .i64 0) := cell_of_row _ _ _ _ _ _ Z1.out
      have Z1_1 : V1.cell? ⟨w.heap.size + 1, 1, none⟩ = some (.int .i64 0) := cell_of_row _ _ _ _ _ _ Z1.out
      have Z1_f0 : V1.frozen? ⟨w.heap.size + 1, 0, none⟩ = false := by simp [World.frozen?, Z1.out]
      have Z1_f1 : V1.frozen? ⟨w.heap.size + 1, 1, none⟩ = false := by simp [World.frozen?, Z1.out]
      have zA1 := lt_of_heap A1.out
      have zZ1 := lt_of_heap Z1.out
      go_simp
      go_wp2
      refine shut_ret (v := .tuple #[.agg #[.int .i64 0, .int .i64 0], .int .i64 8]) (by simp [results, Try.results56, go_sem, zZ1, Z1_0, Z1_1]) rfl ⟨rfl, ?_⟩
      exact keep2 B1.out (by omega) _ _
    · by_cases h2 : (253402300799 : Int) < Q
      · obtain ⟨t1, t2, t3⟩ := YN (by omega)
        rw [t1, t2, t3]
        clear YT YN t1 t2 t3
        go_enter Try.func56, Try.ntmps56
        refine wp_shut ?_
        go_wp2_with fail
        
        refine (H1.out _).mono ?_
        rintro e V1 ⟨rfl, hb1⟩
        have B1 := Lib.hid ((((Below.refl w.heap.size w).alloc (Nat.le_refl _) _).alloc (by simp <;> omega) _).trans (hb1.mono (by first | assumption | (simp <;> omega) | (simp; done))))
        have A1 := Lib.hid (row_call hb1 (row_alloc (heap_alloc_new _ _) _))
        have Z1 := Lib.hid (row_at (k' := w.heap.size + 1) (by simp) (row_call hb1 (heap_alloc_new _ _)))
        clear hb1
        have A1_0 : V1.cell? ⟨w.heap.size, 0, none⟩ = some (.int .u64 (zh x)) := cell_of_row _ _ _ _ _ _ A1.out
        have A1_1 : V1.cell? ⟨w.heap.size, 1, none⟩ = some (.int .u64 (zl x)) := cell_of_row _ _ _ _ _ _ A1.out
        have Z1_0 : V1.cell? ⟨w.heap.size + 1, 0, none⟩ = some (.int .i64 0) := cell_of_row _ _ _ _ _ _ Z1.out
        have Z1_1 : V1.cell? ⟨w.heap.size + 1, 1, none⟩ = some (.int .i64 0) := cell_of_row _ _ _ _ _ _ Z1.out
        have Z1_f0 : V1.frozen? ⟨w.heap.size + 1, 0, none⟩ = false := by simp [World.frozen?, Z1.out]
        have Z1_f1 : V1.frozen? ⟨w.heap.size + 1, 1, none⟩ = false := by simp [World.frozen?, Z1.out]
        have zA1 := lt_of_heap A1.out
        have zZ1 := lt_of_heap Z1.out
        go_simp
        go_wp2
        refine shut_ret (v := .tuple #[.agg #[.int .i64 0, .int .i64 0], .int .i64 8]) (by simp [results, Try.results56, go_sem, zZ1, Z1_0, Z1_1]) rfl ⟨rfl, ?_⟩
        exact keep2 B1.out (by omega) _ _
      · obtain ⟨t1, t2, t3⟩ := YT (by omega) (by omega)
        rw [t1, t2, t3]
        clear YT YN t1 t2 t3
        go_enter Try.func56, Try.ntmps56
        refine wp_shut ?_
        go_wp2_with fail
        
        refine (H1.out _).mono ?_
        rintro e V1 ⟨rfl, hb1⟩
        have B1 := Lib.hid ((((Below.refl w.heap.size w).alloc (Nat.le_refl _) _).alloc (by simp <;> omega) _).trans (hb1.mono (by first | assumption | (simp <;> omega) | (simp; done))))
        have A1 := Lib.hid (row_call hb1 (row_alloc (heap_alloc_new _ _) _))
        have Z1 := Lib.hid (row_at (k' := w.heap.size + 1) (by simp) (row_call hb1 (heap_alloc_new _ _)))
        clear hb1
        have A1_0 : V1.cell? ⟨w.heap.size, 0, none⟩ = some (.int .u64 (zh x)) := cell_of_row _ _ _ _ _ _ A1.out
        have A1_1 : V1.cell? ⟨w.heap.size, 1, none⟩ = some (.int .u64 (zl x)) := cell_of_row _ _ _ _ _ _ A1.out
        have Z1_0 : V1.cell? ⟨w.heap.size + 1, 0, none⟩ = some (.int .i64 0) := cell_of_row _ _ _ _ _ _ Z1.out
        have Z1_1 : V1.cell? ⟨w.heap.size + 1, 1, none⟩ = some (.int .i64 0) := cell_of_row _ _ _ _ _ _ Z1.out
        have Z1_f0 : V1.frozen? ⟨w.heap.size + 1, 0, none⟩ = false := by simp [World.frozen?, Z1.out]
        have Z1_f1 : V1.frozen? ⟨w.heap.size + 1, 1, none⟩ = false := by simp [World.frozen?, Z1.out]
        have zA1 := lt_of_heap A1.out
        have zZ1 := lt_of_heap Z1.out
        go_simp
        go_wp2
        refine shut_ret (v := .tuple #[.agg #[.int .i64 Q, .int .i64 R], .int .i64 0]) (by simp [results, Try.results56, go_sem, zZ1, Z1_0, Z1_1]) rfl ⟨rfl, ?_⟩
        exact keep2 B1.out (by omega) _ _
  · rw [iV_not hq, iE_not hq, show ((8 : Int) == 0) = false from rfl] at X1
    obtain ⟨t1, t2, t3⟩ := @tk_no (-377705116800) 253402300799 x (by unfold in64 at hq; omega)
    rw [t1, t2, t3]
    have H1 := Lib.hid X1
    clear X1 t1 t2 t3 hq b
    generalize x % 1000000000 = R at *
    go_enter Try.func56, Try.ntmps56
    refine wp_shut ?_
    go_wp2_with fail
    
    refine (H1.out _).mono ?_
    rintro e V1 ⟨rfl, hb1⟩
    have B1 := Lib.hid ((((Below.refl w.heap.size w).alloc (Nat.le_refl _) _).alloc (by simp <;> omega) _).trans (hb1.mono (by first | assumption | (simp <;> omega) | (simp; done))))
    have A1 := Lib.hid (row_call hb1 (row_alloc (heap_alloc_new _ _) _))
    have Z1 := Lib.hid (row_at (k' := w.heap.size + 1) (by simp) (row_call hb1 (heap_alloc_new _ _)))
    clear hb1
    have A1_0 : V1.cell? ⟨w.heap.size, 0, none⟩ = some (.int .u64 (zh x)) := cell_of_row _ _ _ _ _ _ A1.out
    have A1_1 : V1.cell? ⟨w.heap.size, 1, none⟩ = some (.int .u64 (zl x)) := cell_of_row _ _ _ _ _ _ A1.out
    have Z1_0 : V1.cell? ⟨w.heap.size + 1, 0, none⟩ = some (.int .i64 0) := cell_of_row _ _ _ _ _ _ Z1.out
    have Z1_1 : V1.cell? ⟨w.heap.size + 1, 1, none⟩ = some (.int .i64 0) := cell_of_row _ _ _ _ _ _ Z1.out
    have Z1_f0 : V1.frozen? ⟨w.heap.size + 1, 0, none⟩ = false := by simp [World.frozen?, Z1.out]
    have Z1_f1 : V1.frozen? ⟨w.heap.size + 1, 1, none⟩ = false := by simp [World.frozen?, Z1.out]
    have zA1 := lt_of_heap A1.out
    have zZ1 := lt_of_heap Z1.out
    go_simp
    go_wp2
    refine shut_ret (v := .tuple #[.agg #[.int .i64 0, .int .i64 0], .int .i64 8]) (by simp [results, Try.results56, go_sem, zZ1, Z1_0, Z1_1]) rfl ⟨rfl, ?_⟩
    exact keep2 B1.out (by omega) _ _
theorem nanos_in {s n : Int} (bs : in64 s) (bn : in64 n) : in128 (nanos s n) := by unfold in64 at *; unfold in128 nanos; omega
theorem rOfNanos_any (x : Int) (b : in128 x) (w : World) :
    Calls Try.prog 37 #[.agg #[.int .u64 (zh x), .int .u64 (zl x)]] w fun e w' => e = .returned (.tuple #[.agg #[.int .i64 (tkS (-377705116800) 253402300799 x), .int .i64 (tkN (-377705116800) 253402300799 x)], .int .i64 (tkE (-377705116800) 253402300799 x)]) ∧ Below w.heap.size w w' := by
  have H2 := Lib.hid (rInstant_any x b)
  clear b
  generalize tkS (-377705116800) 253402300799 x = S at *
  generalize tkN (-377705116800) 253402300799 x = N at *
  generalize tkE (-377705116800) 253402300799 x = E at *
  go_enter Try.func37, Try.ntmps37
  refine wp_shut ?_
  go_wp2_with fail
  
  refine (H2.out _).mono ?_
  rintro e V1 ⟨rfl, hb1⟩
  have B1 := Lib.hid ((((Below.refl w.heap.size w).alloc (Nat.le_refl _) _).alloc (by simp <;> omega) _).trans (hb1.mono (by first | assumption | (simp <;> omega) | (simp; done))))
  have A1 := Lib.hid (row_call hb1 (row_alloc (heap_alloc_new _ _) _))
  have Z1 := Lib.hid (row_at (k' := w.heap.size + 1) (by simp) (row_call hb1 (heap_alloc_new _ _)))
  clear hb1
  have A1_0 : V1.cell? ⟨w.heap.size, 0, none⟩ = some (.int .u64 (zh x)) := cell_of_row _ _ _ _ _ _ A1.out
  have A1_1 : V1.cell? ⟨w.heap.size, 1, none⟩ = some (.int .u64 (zl x)) := cell_of_row _ _ _ _ _ _ A1.out
  have Z1_0 : V1.cell? ⟨w.heap.size + 1, 0, none⟩ = some (.int .i64 0) := cell_of_row _ _ _ _ _ _ Z1.out
  have Z1_1 : V1.cell? ⟨w.heap.size + 1, 1, none⟩ = some (.int .i64 0) := cell_of_row _ _ _ _ _ _ Z1.out
  have Z1_f0 : V1.frozen? ⟨w.heap.size + 1, 0, none⟩ = false := by simp [World.frozen?, Z1.out]
  have Z1_f1 : V1.frozen? ⟨w.heap.size + 1, 1, none⟩ = false := by simp [World.frozen?, Z1.out]
  have zA1 := lt_of_heap A1.out
  have zZ1 := lt_of_heap Z1.out
  go_simp
  go_wp2
  refine shut_ret (v := .tuple #[.agg #[.int .i64 S, .int .i64 N], .int .i64 E]) (by simp [results, Try.results37, go_sem, zZ1, Z1_0, Z1_1]) rfl ⟨rfl, ?_⟩
  exact keep2 B1.out (by omega) _ _
/-- an instant's number: 0 beside an error. -/
def nnI (s n : Int) : Int := if ckI s n = 0 then nanos s n else 0
theorem zh_zero : zh 0 = 0 := by unfold zh hi zw; rfl
theorem zl_zero : zl 0 = 0 := by unfold zl lo zw; rfl
set_option maxHeartbeats 1600000 in
set_option maxRecDepth 100000 in
theorem nanos_any (s n : Int) (bs : in64 s) (bn : in64 n) (w : World) :
    Calls Try.prog 30 #[.agg #[.int .i64 s, .int .i64 n]] w fun e w' => e = .returned (.tuple #[.agg #[.int .u64 (zh (nnI s n)), .int .u64 (zl (nnI s n))], .int .i64 (ckI s n)]) ∧ Below w.heap.size w w' := by
  have X1 := check_any s n
  by_cases hc : ckI s n = 0
  · rw [show nnI s n = nanos s n from if_pos hc, hc]
    rw [hc] at X1
    have H1 := Lib.hid X1
    have H2 := Lib.hid (total_any s n bs bn)
    clear X1 bs bn hc
    generalize nanos s n = T at *
    go_enter Try.func30, Try.ntmps30
    refine wp_shut ?_
    go_wp2_with fail
    
    refine (H1.out _).mono ?_
    rintro e V1 ⟨rfl, hb1⟩
    have B1 := Lib.hid ((((Below.refl w.heap.size w).alloc (Nat.le_refl _) _).alloc (by simp <;> omega) _).trans (hb1.mono (by first | assumption | (simp <;> omega) | (simp; done))))
    have A1 := Lib.hid (row_call hb1 (row_alloc (heap_alloc_new _ _) _))
    have Z1 := Lib.hid (row_at (k' := w.heap.size + 1) (by simp) (row_call hb1 (heap_alloc_new _ _)))
    clear hb1
    have A1_0 : V1.cell? ⟨w.heap.size, 0, none⟩ = some (.int .i64 s) := cell_of_row _ _ _ _ _ _ A1.out
    have A1_1 : V1.cell? ⟨w.heap.size, 1, none⟩ = some (.int .i64 n) := cell_of_row _ _ _ _ _ _ A1.out
    have Z1_0 : V1.cell? ⟨w.heap.size + 1, 0, none⟩ = some (.int .u64 0) := cell_of_row _ _ _ _ _ _ Z1.out
    have Z1_1 : V1.cell? ⟨w.heap.size + 1, 1, none⟩ = some (.int .u64 0) := cell_of_row _ _ _ _ _ _ Z1.out
    have Z1_f0 : V1.frozen? ⟨w.heap.size + 1, 0, none⟩ = false := by simp [World.frozen?, Z1.out]
    have Z1_f1 : V1.frozen? ⟨w.heap.size + 1, 1, none⟩ = false := by simp [World.frozen?, Z1.out]
    have zA1 := lt_of_heap A1.out
    have zZ1 := lt_of_heap Z1.out
    go_simp
    go_wp2_with fail
    refine (H2.out _).mono ?_
    rintro e V2 ⟨rfl, hb2⟩
    clear A1_0 A1_1 zA1 Z1_0 Z1_1 Z1_f0 Z1_f1 zZ1
    have B2 : Hid (Below w.heap.size w V2) := by first | exact Lib.hid ((B1.out).trans (hb2.mono (by have := B1.out.size; first | assumption | (simp <;> omega) | (simp; done)))) | exact Lib.hid (((B1.out).alloc (B1.out.size) _).trans (hb2.mono (by have := B1.out.size; first | assumption | (simp <;> omega) | (simp; done)))) | exact Lib.hid ((((B1.out).alloc (B1.out.size) _).alloc (by have := B1.out.size; simp <;> omega) _).trans (hb2.mono (by have := B1.out.size; first | assumption | (simp <;> omega) | (simp; done)))) | exact Lib.hid (((((B1.out).alloc (B1.out.size) _).alloc (by have := B1.out.size; simp <;> omega) _).alloc (by have := B1.out.size; simp <;> omega) _).trans (hb2.mono (by have := B1.out.size; first | assumption | (simp <;> omega) | (simp; done))))
    first | replace A1 := Lib.hid (row_call hb2 A1.out) | replace A1 := Lib.hid (row_call hb2 (row_alloc A1.out _)) | replace A1 := Lib.hid (row_call hb2 (row_alloc (row_alloc A1.out _) _)) | replace A1 := Lib.hid (row_call hb2 (row_alloc (row_alloc (row_alloc A1.out _) _) _))
    first | replace Z1 := Lib.hid (row_call hb2 Z1.out) | replace Z1 := Lib.hid (row_call hb2 (row_alloc Z1.out _)) | replace Z1 := Lib.hid (row_call hb2 (row_alloc (row_alloc Z1.out _) _)) | replace Z1 := Lib.hid (row_call hb2 (row_alloc (row_alloc (row_alloc Z1.out _) _) _))
    clear hb2
    have A1_0 : V2.cell? ⟨w.heap.size, 0, none⟩ = some (.int .i64 s) := cell_of_row _ _ _ _ _ _ A1.out
    have A1_1 : V2.cell? ⟨w.heap.size, 1, none⟩ = some (.int .i64 n) := cell_of_row _ _ _ _ _ _ A1.out
    have Z1_0 : V2.cell? ⟨w.heap.size + 1, 0, none⟩ = some (.int .u64 0) := cell_of_row _ _ _ _ _ _ Z1.out
    have Z1_1 : V2.cell? ⟨w.heap.size + 1, 1, none⟩ = some (.int .u64 0) := cell_of_row _ _ _ _ _ _ Z1.out
    have Z1_f0 : V2.frozen? ⟨w.heap.size + 1, 0, none⟩ = false := by simp [World.frozen?, Z1.out]
    have Z1_f1 : V2.frozen? ⟨w.heap.size + 1, 1, none⟩ = false := by simp [World.frozen?, Z1.out]
    have zA1 := lt_of_heap A1.out
    have zZ1 := lt_of_heap Z1.out
    go_simp
    go_wp2
    refine shut_ret (v := .tuple #[.agg #[.int .u64 (zh T), .int .u64 (zl T)], .int .i64 0]) (by simp [results, Try.results30, go_sem, zZ1, Z1_0, Z1_1]) rfl ⟨rfl, ?_⟩
    exact keep2 B2.out (by omega) _ _
  · rw [show nnI s n = 0 from if_neg hc, zh_zero, zl_zero]
    have H1 := Lib.hid X1
    clear X1 bs bn
    generalize ckI s n = E at *
    have f1 : (E != 0) = true := by rw [bne_iff_ne]; exact hc
    go_enter Try.func30, Try.ntmps30
    refine wp_shut ?_
    go_wp2_with fail
    
    refine (H1.out _).mono ?_
    rintro e V1 ⟨rfl, hb1⟩
    have B1 := Lib.hid ((((Below.refl w.heap.size w).alloc (Nat.le_refl _) _).alloc (by simp <;> omega) _).trans (hb1.mono (by first | assumption | (simp <;> omega) | (simp; done))))
    have A1 := Lib.hid (row_call hb1 (row_alloc (heap_alloc_new _ _) _))
    have Z1 := Lib.hid (row_at (k' := w.heap.size + 1) (by simp) (row_call hb1 (heap_alloc_new _ _)))
    clear hb1
    have A1_0 : V1.cell? ⟨w.heap.size, 0, none⟩ = some (.int .i64 s) := cell_of_row _ _ _ _ _ _ A1.out
    have A1_1 : V1.cell? ⟨w.heap.size, 1, none⟩ = some (.int .i64 n) := cell_of_row _ _ _ _ _ _ A1.out
    have Z1_0 : V1.cell? ⟨w.heap.size + 1, 0, none⟩ = some (.int .u64 0) := cell_of_row _ _ _ _ _ _ Z1.out
    have Z1_1 : V1.cell? ⟨w.heap.size + 1, 1, none⟩ = some (.int .u64 0) := cell_of_row _ _ _ _ _ _ Z1.out
    have Z1_f0 : V1.frozen? ⟨w.heap.size + 1, 0, none⟩ = false := by simp [World.frozen?, Z1.out]
    have Z1_f1 : V1.frozen? ⟨w.heap.size + 1, 1, none⟩ = false := by simp [World.frozen?, Z1.out]
    have zA1 := lt_of_heap A1.out
    have zZ1 := lt_of_heap Z1.out
    go_simp
    go_wp2
    refine shut_ret (v := .tuple #[.agg #[.int .u64 0, .int .u64 0], .int .i64 E]) (by simp [results, Try.results30, go_sem, zZ1, Z1_0, Z1_1]) rfl ⟨rfl, ?_⟩
    exact keep2 B1.out (by omega) _ _
end Go.Proofs.Ytlfbiidnfheelaa
