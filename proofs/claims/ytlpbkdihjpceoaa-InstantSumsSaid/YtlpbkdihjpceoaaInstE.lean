/- Contracts of package instant: sums, differences, the order. -/
import Derived.Test.YtlpbkdihjpceoaaInstD
import Derived.Test.YtlpbkdihjpceoaaShelf
namespace Go.Proofs.Ytlpbkdihjpceoaa
set_option linter.unusedVariables false
set_option linter.unusedSimpArgs false
open Go.ChangeShapes Go.WideShapes Go.ChangeAt Go.RowKit

/-- an instant's and a duration's sum. -/
@[irreducible] def adE (s n d m : Int) : Int := if wmB m = false then 5 else if ckI s n = 0 then tkE (-377705116800) 253402300799 (nanos s n + nanos d m) else ckI s n
@[irreducible] def adS (s n d m : Int) : Int := if wmB m = false then 0 else if ckI s n = 0 then tkS (-377705116800) 253402300799 (nanos s n + nanos d m) else 0
@[irreducible] def adN (s n d m : Int) : Int := if wmB m = false then 0 else if ckI s n = 0 then tkN (-377705116800) 253402300799 (nanos s n + nanos d m) else 0
theorem ad_form {s n d m : Int} (h : wmB m = false) : adE s n d m = 5 ∧ adS s n d m = 0 ∧ adN s n d m = 0 := by
  unfold adE adS adN; exact ⟨if_pos h, if_pos h, if_pos h⟩
theorem ad_err {s n d m : Int} (h : wmB m = true) (hc : ckI s n ≠ 0) : adE s n d m = ckI s n ∧ adS s n d m = 0 ∧ adN s n d m = 0 := by
  have h2 : ¬ wmB m = false := by rw [h]; decide
  unfold adE adS adN; rw [if_neg h2, if_neg h2, if_neg h2]; exact ⟨if_neg hc, if_neg hc, if_neg hc⟩
theorem ad_sum {s n d m : Int} (h : wmB m = true) (hc : ckI s n = 0) : adE s n d m = tkE (-377705116800) 253402300799 (nanos s n + nanos d m) ∧ adS s n d m = tkS (-377705116800) 253402300799 (nanos s n + nanos d m) ∧ adN s n d m = tkN (-377705116800) 253402300799 (nanos s n + nanos d m) := by
  have h2 : ¬ wmB m = false := by rw [h]; decide
  unfold adE adS adN; rw [if_neg h2, if_neg h2, if_neg h2]; exact ⟨if_pos hc, if_pos hc, if_pos hc⟩
theorem sum_in {s n d m : Int} (bs : in64 s) (bn : in64 n) (bd : in64 d) (bm : in64 m) : in128 (nanos s n + nanos d m) ∧ in128 (nanos s n - nanos d m) := by unfold in64 at *; unfold in128 nanos; omega
set_option maxHeartbeats 1600000 in
set_option maxRecDepth 100000 in
theorem iAdd_any (s n d m : Int) (bs : in64 s) (bn : in64 n) (bd : in64 d) (bm : in64 m) (w : World) :
    Calls Try.prog 19 #[.agg #[.int .i64 s, .int .i64 n], .agg #[.int .i64 d, .int .i64 m]] w fun e w' => e = .returned (.tuple #[.agg #[.int .i64 (adS s n d m), .int .i64 (adN s n d m)], .int .i64 (adE s n d m)]) ∧ Below w.heap.size w w' := by
  have X1 := wm_any m
  cases hw : wmB m
  · obtain ⟨t1, t2, t3⟩ := ad_form (s := s) (n := n) (d := d) hw
    rw [t1, t2, t3]
    rw [hw] at X1
    have H1 := Lib.hid X1
    clear X1 t1 t2 t3 hw bs bn bd bm
    go_enter Try.func19, Try.ntmps19
    go_wp2_with fail
    
    refine (H1.out _).mono ?_
    rintro e V1 ⟨rfl, hb1⟩
    have B1 := Lib.hid (((((Below.refl w.heap.size w).alloc (Nat.le_refl _) _).alloc (by simp <;> omega) _).alloc (by simp <;> omega) _).trans (hb1.mono (by first | assumption | (simp <;> omega) | (simp; done))))
    have A1 := Lib.hid (row_call hb1 (row_alloc (row_alloc (heap_alloc_new _ _) _) _))
    have D1 := Lib.hid (row_at (k' := w.heap.size + 1) (by simp) (row_call hb1 (row_alloc (heap_alloc_new _ _) _)))
    have Z1 := Lib.hid (row_at (k' := w.heap.size + 1 + 1) (by simp) (row_call hb1 (heap_alloc_new _ _)))
    clear hb1
    have A1_0 : V1.cell? ⟨w.heap.size, 0, none⟩ = some (.int .i64 s) := cell_of_row _ _ _ _ _ _ A1.out
    have A1_1 : V1.cell? ⟨w.heap.size, 1, none⟩ = some (.int .i64 n) := cell_of_row _ _ _ _ _ _ A1.out
    have D1_0 : V1.cell? ⟨w.heap.size + 1, 0, none⟩ = some (.int .i64 d) := cell_of_row _ _ _ _ _ _ D1.out
    have D1_1 : V1.cell? ⟨w.heap.size + 1, 1, none⟩ = some (.int .i64 m) := cell_of_row _ _ _ _ _ _ D1.out
    have Z1_0 : V1.cell? ⟨w.heap.size + 1 + 1, 0, none⟩ = some (.int .i64 0) := cell_of_row _ _ _ _ _ _ Z1.out
    have Z1_1 : V1.cell? ⟨w.heap.size + 1 + 1, 1, none⟩ = some (.int .i64 0) := cell_of_row _ _ _ _ _ _ Z1.out
    have Z1_f0 : V1.frozen? ⟨w.heap.size + 1 + 1, 0, none⟩ = false := by simp [World.frozen?, Z1.out]
    have Z1_f1 : V1.frozen? ⟨w.heap.size + 1 + 1, 1, none⟩ = false := by simp [World.frozen?, Z1.out]
    have zA1 := lt_of_heap A1.out
    have zD1 := lt_of_heap D1.out
    have zZ1 := lt_of_heap Z1.out
    go_simp
    go_wp2
    refine bodyPost_ret (v := .tuple #[.agg #[.int .i64 0, .int .i64 0], .int .i64 5]) (by simp [results, Try.results19, go_sem, zZ1, Z1_0, Z1_1]) rfl ⟨rfl, ?_⟩
    exact keep2 B1.out (by omega) _ _
  · rw [hw] at X1
    have H1 := Lib.hid X1
    have X2 := nanos_any s n bs bn
    by_cases hc : ckI s n = 0
    · obtain ⟨t1, t2, t3⟩ := ad_sum (d := d) hw hc
      rw [t1, t2, t3]
      rw [show nnI s n = nanos s n from if_pos hc, hc] at X2
      have H2 := Lib.hid X2
      have H3 := Lib.hid (total_any d m bd bm)
      have H4 := Lib.hid (zAdd_any (nanos s n) (nanos d m))
      have H5 := Lib.hid (ofNanos_any (nanos s n + nanos d m) (sum_in bs bn bd bm).1)
      clear X1 X2 t1 t2 t3 hw hc bs bn bd bm
      generalize cb (nanos s n) (nanos d m) = c at *
      generalize nanos s n + nanos d m = T at *
      generalize nanos s n = P at *
      generalize nanos d m = Q at *
      generalize tkS (-377705116800) 253402300799 T = S at *
      generalize tkN (-377705116800) 253402300799 T = N at *
      generalize tkE (-377705116800) 253402300799 T = E at *
      go_enter Try.func19, Try.ntmps19
      go_wp2_with fail
      
      refine (H1.out _).mono ?_
      rintro e V1 ⟨rfl, hb1⟩
      have B1 := Lib.hid (((((Below.refl w.heap.size w).alloc (Nat.le_refl _) _).alloc (by simp <;> omega) _).alloc (by simp <;> omega) _).trans (hb1.mono (by first | assumption | (simp <;> omega) | (simp; done))))
      have A1 := Lib.hid (row_call hb1 (row_alloc (row_alloc (heap_alloc_new _ _) _) _))
      have D1 := Lib.hid (row_at (k' := w.heap.size + 1) (by simp) (row_call hb1 (row_alloc (heap_alloc_new _ _) _)))
      have Z1 := Lib.hid (row_at (k' := w.heap.size + 1 + 1) (by simp) (row_call hb1 (heap_alloc_new _ _)))
      clear hb1
      have A1_0 : V1.cell? ⟨w.heap.size, 0, none⟩ = some (.int .i64 s) := cell_of_row _ _ _ _ _ _ A1.out
      have A1_1 : V1.cell? ⟨w.heap.size, 1, none⟩ = some (.int .i64 n) := cell_of_row _ _ _ _ _ _ A1.out
      have D1_0 : V1.cell? ⟨w.heap.size + 1, 0, none⟩ = some (.int .i64 d) := cell_of_row _ _ _ _ _ _ D1.out
      have D1_1 : V1.cell? ⟨w.heap.size + 1, 1, none⟩ = some (.int .i64 m) := cell_of_row _ _ _ _ _ _ D1.out
      have Z1_0 : V1.cell? ⟨w.heap.size + 1 + 1, 0, none⟩ = some (.int .i64 0) := cell_of_row _ _ _ _ _ _ Z1.out
      have Z1_1 : V1.cell? ⟨w.heap.size + 1 + 1, 1, none⟩ = some (.int .i64 0) := cell_of_row _ _ _ _ _ _ Z1.out
      have Z1_f0 : V1.frozen? ⟨w.heap.size + 1 + 1, 0, none⟩ = false := by simp [World.frozen?, Z1.out]
      have Z1_f1 : V1.frozen? ⟨w.heap.size + 1 + 1, 1, none⟩ = false := by simp [World.frozen?, Z1.out]
      have zA1 := lt_of_heap A1.out
      have zD1 := lt_of_heap D1.out
      have zZ1 := lt_of_heap Z1.out
      go_simp
      go_wp2_with fail
      refine (H2.out _).mono ?_
      rintro e V2 ⟨rfl, hb2⟩
      clear A1_0 A1_1 zA1 D1_0 D1_1 zD1 Z1_0 Z1_1 Z1_f0 Z1_f1 zZ1
      have B2 : Hid (Below w.heap.size w V2) := by first | exact Lib.hid ((B1.out).trans (hb2.mono (by have := B1.out.size; first | assumption | (simp <;> omega) | (simp; done)))) | exact Lib.hid (((B1.out).alloc (B1.out.size) _).trans (hb2.mono (by have := B1.out.size; first | assumption | (simp <;> omega) | (simp; done)))) | exact Lib.hid ((((B1.out).alloc (B1.out.size) _).alloc (by have := B1.out.size; simp <;> omega) _).trans (hb2.mono (by have := B1.out.size; first | assumption | (simp <;> omega) | (simp; done)))) | exact Lib.hid (((((B1.out).alloc (B1.out.size) _).alloc (by have := B1.out.size; simp <;> omega) _).alloc (by have := B1.out.size; simp <;> omega) _).trans (hb2.mono (by have := B1.out.size; first | assumption | (simp <;> omega) | (simp; done))))
      first | replace A1 := Lib.hid (row_call hb2 A1.out) | replace A1 := Lib.hid (row_call hb2 (row_alloc A1.out _)) | replace A1 := Lib.hid (row_call hb2 (row_alloc (row_alloc A1.out _) _)) | replace A1 := Lib.hid (row_call hb2 (row_alloc (row_alloc (row_alloc A1.out _) _) _))
      first | replace D1 := Lib.hid (row_call hb2 D1.out) | replace D1 := Lib.hid (row_call hb2 (row_alloc D1.out _)) | replace D1 := Lib.hid (row_call hb2 (row_alloc (row_alloc D1.out _) _)) | replace D1 := Lib.hid (row_call hb2 (row_alloc (row_alloc (row_alloc D1.out _) _) _))
      first | replace Z1 := Lib.hid (row_call hb2 Z1.out) | replace Z1 := Lib.hid (row_call hb2 (row_alloc Z1.out _)) | replace Z1 := Lib.hid (row_call hb2 (row_alloc (row_alloc Z1.out _) _)) | replace Z1 := Lib.hid (row_call hb2 (row_alloc (row_alloc (row_alloc Z1.out _) _) _))
      clear hb2
      have A1_0 : V2.cell? ⟨w.heap.size, 0, none⟩ = some (.int .i64 s) := cell_of_row _ _ _ _ _ _ A1.out
      have A1_1 : V2.cell? ⟨w.heap.size, 1, none⟩ = some (.int .i64 n) := cell_of_row _ _ _ _ _ _ A1.out
      have D1_0 : V2.cell? ⟨w.heap.size + 1, 0, none⟩ = some (.int .i64 d) := cell_of_row _ _ _ _ _ _ D1.out
      have D1_1 : V2.cell? ⟨w.heap.size + 1, 1, none⟩ = some (.int .i64 m) := cell_of_row _ _ _ _ _ _ D1.out
      have Z1_0 : V2.cell? ⟨w.heap.size + 1 + 1, 0, none⟩ = some (.int .i64 0) := cell_of_row _ _ _ _ _ _ Z1.out
      have Z1_1 : V2.cell? ⟨w.heap.size + 1 + 1, 1, none⟩ = some (.int .i64 0) := cell_of_row _ _ _ _ _ _ Z1.out
      have Z1_f0 : V2.frozen? ⟨w.heap.size + 1 + 1, 0, none⟩ = false := by simp [World.frozen?, Z1.out]
      have Z1_f1 : V2.frozen? ⟨w.heap.size + 1 + 1, 1, none⟩ = false := by simp [World.frozen?, Z1.out]
      have zA1 := lt_of_heap A1.out
      have zD1 := lt_of_heap D1.out
      have zZ1 := lt_of_heap Z1.out
      go_simp
      go_wp2_with fail
      have nA1N1 := Lib.hid (lt_of_heap A1.out)
      have nD1N1 := Lib.hid (lt_of_heap D1.out)
      have nZ1N1 := Lib.hid (lt_of_heap Z1.out)
      clear A1_0 A1_1 zA1 D1_0 D1_1 zD1 Z1_0 Z1_1 Z1_f0 Z1_f1 zZ1
      obtain ⟨W0, hW0⟩ : ∃ W0, W0 = (V2.alloc (Obj.cells #[Value.int .u64 (zh P), Value.int .u64 (zl P)] 24)) := ⟨_, rfl⟩
      replace A1 := Lib.hid (row_by hW0 (row_alloc A1.out _))
      replace D1 := Lib.hid (row_by hW0 (row_alloc D1.out _))
      replace Z1 := Lib.hid (row_by hW0 (row_alloc Z1.out _))
      have N1 := Lib.hid (row_at (k' := V2.heap.size) (by simp) (row_by hW0 (heap_alloc_new _ _)))
      have HB0 := Lib.hid (below_by hW0 ((B2.out).alloc (by have := B2.out.size; simp <;> omega) _))
      have HW0 := Lib.hid hW0
      clear hW0
      have A1_0 : W0.cell? ⟨w.heap.size, 0, none⟩ = some (.int .i64 s) := cell_of_row _ _ _ _ _ _ A1.out
      have A1_1 : W0.cell? ⟨w.heap.size, 1, none⟩ = some (.int .i64 n) := cell_of_row _ _ _ _ _ _ A1.out
      have zA1 := lt_of_heap A1.out
      have D1_0 : W0.cell? ⟨w.heap.size + 1, 0, none⟩ = some (.int .i64 d) := cell_of_row _ _ _ _ _ _ D1.out
      have D1_1 : W0.cell? ⟨w.heap.size + 1, 1, none⟩ = some (.int .i64 m) := cell_of_row _ _ _ _ _ _ D1.out
      have zD1 := lt_of_heap D1.out
      have Z1_0 : W0.cell? ⟨w.heap.size + 1 + 1, 0, none⟩ = some (.int .i64 0) := cell_of_row _ _ _ _ _ _ Z1.out
      have Z1_1 : W0.cell? ⟨w.heap.size + 1 + 1, 1, none⟩ = some (.int .i64 0) := cell_of_row _ _ _ _ _ _ Z1.out
      have Z1_f0 : W0.frozen? ⟨w.heap.size + 1 + 1, 0, none⟩ = false := (by simp [World.frozen?, Z1.out])
      have Z1_f1 : W0.frozen? ⟨w.heap.size + 1 + 1, 1, none⟩ = false := (by simp [World.frozen?, Z1.out])
      have zZ1 := lt_of_heap Z1.out
      have N1_0 : W0.cell? ⟨V2.heap.size, 0, none⟩ = some (.int .u64 (zh P)) := cell_of_row _ _ _ _ _ _ N1.out
      have N1_1 : W0.cell? ⟨V2.heap.size, 1, none⟩ = some (.int .u64 (zl P)) := cell_of_row _ _ _ _ _ _ N1.out
      have zN1 := lt_of_heap N1.out
      try rw [← HW0.out]
      go_cut [8, 9] (fun s8 s9 wx => ∃ gS1 : Nat, s8 = .pointer (some ⟨gS1, 0, none⟩) ∧ s9 = .bool c ∧ wx.heap[gS1]? = some (.cells #[.int .u64 (zh T), .int .u64 (zl T)] 24 (0, 0)) ∧ Below W0.heap.size W0 wx)
      case first =>
        go_region_held3 (fun w' => Below W0.heap.size W0 w' ∧ w'.cell? ⟨V2.heap.size, 0, none⟩ = some (.int .u64 (zh P)) ∧ w'.cell? ⟨V2.heap.size, 1, none⟩ = some (.int .u64 (zl P)) ∧ w'.cell? ⟨w.heap.size + 1, 0, none⟩ = some (.int .i64 d) ∧ w'.cell? ⟨w.heap.size + 1, 1, none⟩ = some (.int .i64 m))
    (first
      | ((try go_split_ands); refine ⟨(Below.refl _ _).drew, ?_, ?_, ?_, ?_⟩ <;> first | assumption | (rw [World.cell?_drew]; assumption))
      | ((try go_split_ands); refine ⟨keepS (W0 := W0) ?_ hb1, cellS (W0 := W0) ?_ hb1 ?_ ?_, cellS (W0 := W0) ?_ hb1 ?_ ?_, cellS (W0 := W0) ?_ hb1 ?_ ?_, cellS (W0 := W0) ?_ hb1 ?_ ?_⟩ <;> first | assumption | omega)
      | ((try go_split_ands); refine ⟨keepA (W0 := W0) ?_ _, cellA (W0 := W0) ?_ _ ?_ ?_, cellA (W0 := W0) ?_ _ ?_ ?_, cellA (W0 := W0) ?_ _ ?_ ?_, cellA (W0 := W0) ?_ _ ?_ ?_⟩ <;> first | assumption | omega)
      | ((try go_split_ands); refine ⟨keepAd (W0 := W0) ?_ _, cellAd (W0 := W0) ?_ _ ?_ ?_, cellAd (W0 := W0) ?_ _ ?_ ?_, cellAd (W0 := W0) ?_ _ ?_ ?_, cellAd (W0 := W0) ?_ _ ?_ ?_⟩ <;> first | assumption | omega | exact Below.refl _ _)
      | ((try go_split_ands); refine ⟨keep2 (W0 := W0) ?_ ?_ _ _, cell2 (W0 := W0) ?_ _ _ ?_ ?_, cell2 (W0 := W0) ?_ _ _ ?_ ?_, cell2 (W0 := W0) ?_ _ _ ?_ ?_, cell2 (W0 := W0) ?_ _ _ ?_ ?_⟩ <;> first | assumption | omega | exact Nat.le_refl _)
      | ((try go_split_ands); refine ⟨keepZ (W0 := W0) ?_ ?_ _, cellZ (W0 := W0) ?_ _ ?_ ?_, cellZ (W0 := W0) ?_ _ ?_ ?_, cellZ (W0 := W0) ?_ _ ?_ ?_, cellZ (W0 := W0) ?_ _ ?_ ?_⟩ <;> first | assumption | omega | exact Nat.le_refl _ | exact ⟨_, by assumption⟩))
    (first | (go_at_call 44; (with_reducible refine (H3.out _).mono ?_); rintro e w1 ⟨rfl, hb1⟩; (try go_split_ands); have hge : W0.heap.size ≤ w1.heap.size := (by first | (refine (keepS (W0 := W0) ?_ hb1).size; assumption) | exact (hb1.size : W0.heap.size ≤ w1.heap.size)); (try have hrow := row_call hb1 hrow); (try have hrow := row_new hb1); (try have hrow := row_newd hb1); have hl1 := lt_below hb1; obtain ⟨hc1, hf1⟩ := bcell hb1; (try (have hrc := row_cellA hrow; clear hc1 hf1)); (try have hrf := row_frozA hrow)) | (go_at_call 48; (with_reducible refine (H4.out _).mono ?_); rintro e w1 ⟨rfl, hb1⟩; (try go_split_ands); have hge : W0.heap.size ≤ w1.heap.size := (by first | (refine (keepS (W0 := W0) ?_ hb1).size; assumption) | exact (hb1.size : W0.heap.size ≤ w1.heap.size)); (try have hrow := row_call hb1 hrow); (try have hrow := row_new hb1); (try have hrow := row_newd hb1); have hl1 := lt_below hb1; obtain ⟨hc1, hf1⟩ := bcell hb1; (try (have hrc := row_cellA hrow; clear hc1 hf1)); (try have hrf := row_frozA hrow)))
        all_goals (try go_split_ands)
        all_goals (go_wp2_with fail; go_meet; refine ⟨_, rfl, rfl, ?_, ?_⟩)
        all_goals first | assumption | exact heap_alloc_new _ _ | exact row_set (by assumption) _ _
      case rest =>
        obtain ⟨gS1, rfl, rfl, hS1, hB⟩ := hcut
        obtain ⟨V3, rfl⟩ : ∃ V, V = wc := ⟨_, rfl⟩
        have S1 := Lib.hid hS1
        clear hS1
        clear A1_0 A1_1 zA1 D1_0 D1_1 zD1 Z1_0 Z1_1 Z1_f0 Z1_f1 zZ1 N1_0 N1_1 zN1
        replace A1 := Lib.hid (row_call hB A1.out)
        replace D1 := Lib.hid (row_call hB D1.out)
        replace Z1 := Lib.hid (row_call hB Z1.out)
        replace N1 := Lib.hid (row_call hB N1.out)
        have B3 := Lib.hid (HB0.out.trans (hB.mono HB0.out.size))
        clear hB
        have A1_0 : V3.cell? ⟨w.heap.size, 0, none⟩ = some (.int .i64 s) := cell_of_row _ _ _ _ _ _ A1.out
        have A1_1 : V3.cell? ⟨w.heap.size, 1, none⟩ = some (.int .i64 n) := cell_of_row _ _ _ _ _ _ A1.out
        have zA1 := lt_of_heap A1.out
        have D1_0 : V3.cell? ⟨w.heap.size + 1, 0, none⟩ = some (.int .i64 d) := cell_of_row _ _ _ _ _ _ D1.out
        have D1_1 : V3.cell? ⟨w.heap.size + 1, 1, none⟩ = some (.int .i64 m) := cell_of_row _ _ _ _ _ _ D1.out
        have zD1 := lt_of_heap D1.out
        have Z1_0 : V3.cell? ⟨w.heap.size + 1 + 1, 0, none⟩ = some (.int .i64 0) := cell_of_row _ _ _ _ _ _ Z1.out
        have Z1_1 : V3.cell? ⟨w.heap.size + 1 + 1, 1, none⟩ = some (.int .i64 0) := cell_of_row _ _ _ _ _ _ Z1.out
        have Z1_f0 : V3.frozen? ⟨w.heap.size + 1 + 1, 0, none⟩ = false := (by simp [World.frozen?, Z1.out])
        have Z1_f1 : V3.frozen? ⟨w.heap.size + 1 + 1, 1, none⟩ = false := (by simp [World.frozen?, Z1.out])
        have zZ1 := lt_of_heap Z1.out
        have N1_0 : V3.cell? ⟨V2.heap.size, 0, none⟩ = some (.int .u64 (zh P)) := cell_of_row _ _ _ _ _ _ N1.out
        have N1_1 : V3.cell? ⟨V2.heap.size, 1, none⟩ = some (.int .u64 (zl P)) := cell_of_row _ _ _ _ _ _ N1.out
        have zN1 := lt_of_heap N1.out
        have S1_0 : V3.cell? ⟨gS1, 0, none⟩ = some (.int .u64 (zh T)) := cell_of_row _ _ _ _ _ _ S1.out
        have S1_1 : V3.cell? ⟨gS1, 1, none⟩ = some (.int .u64 (zl T)) := cell_of_row _ _ _ _ _ _ S1.out
        have zS1 := lt_of_heap S1.out
        go_wp2_with fail
        refine (H5.out _).mono ?_
        rintro e V4 ⟨rfl, hb4⟩
        clear A1_0 A1_1 zA1 D1_0 D1_1 zD1 Z1_0 Z1_1 Z1_f0 Z1_f1 zZ1 N1_0 N1_1 zN1 S1_0 S1_1 zS1
        have B4 : Hid (Below w.heap.size w V4) := by first | exact Lib.hid ((B3.out).trans (hb4.mono (by have := B3.out.size; first | assumption | (simp <;> omega) | (simp; done)))) | exact Lib.hid (((B3.out).alloc (B3.out.size) _).trans (hb4.mono (by have := B3.out.size; first | assumption | (simp <;> omega) | (simp; done)))) | exact Lib.hid ((((B3.out).alloc (B3.out.size) _).alloc (by have := B3.out.size; simp <;> omega) _).trans (hb4.mono (by have := B3.out.size; first | assumption | (simp <;> omega) | (simp; done)))) | exact Lib.hid (((((B3.out).alloc (B3.out.size) _).alloc (by have := B3.out.size; simp <;> omega) _).alloc (by have := B3.out.size; simp <;> omega) _).trans (hb4.mono (by have := B3.out.size; first | assumption | (simp <;> omega) | (simp; done))))
        first | replace A1 := Lib.hid (row_call hb4 A1.out) | replace A1 := Lib.hid (row_call hb4 (row_alloc A1.out _)) | replace A1 := Lib.hid (row_call hb4 (row_alloc (row_alloc A1.out _) _)) | replace A1 := Lib.hid (row_call hb4 (row_alloc (row_alloc (row_alloc A1.out _) _) _))
        first | replace D1 := Lib.hid (row_call hb4 D1.out) | replace D1 := Lib.hid (row_call hb4 (row_alloc D1.out _)) | replace D1 := Lib.hid (row_call hb4 (row_alloc (row_alloc D1.out _) _)) | replace D1 := Lib.hid (row_call hb4 (row_alloc (row_alloc (row_alloc D1.out _) _) _))
        first | replace Z1 := Lib.hid (row_call hb4 Z1.out) | replace Z1 := Lib.hid (row_call hb4 (row_alloc Z1.out _)) | replace Z1 := Lib.hid (row_call hb4 (row_alloc (row_alloc Z1.out _) _)) | replace Z1 := Lib.hid (row_call hb4 (row_alloc (row_alloc (row_alloc Z1.out _) _) _))
        first | replace N1 := Lib.hid (row_call hb4 N1.out) | replace N1 := Lib.hid (row_call hb4 (row_alloc N1.out _)) | replace N1 := Lib.hid (row_call hb4 (row_alloc (row_alloc N1.out _) _)) | replace N1 := Lib.hid (row_call hb4 (row_alloc (row_alloc (row_alloc N1.out _) _) _))
        first | replace S1 := Lib.hid (row_call hb4 S1.out) | replace S1 := Lib.hid (row_call hb4 (row_alloc S1.out _)) | replace S1 := Lib.hid (row_call hb4 (row_alloc (row_alloc S1.out _) _)) | replace S1 := Lib.hid (row_call hb4 (row_alloc (row_alloc (row_alloc S1.out _) _) _))
        clear hb4
        have A1_0 : V4.cell? ⟨w.heap.size, 0, none⟩ = some (.int .i64 s) := cell_of_row _ _ _ _ _ _ A1.out
        have A1_1 : V4.cell? ⟨w.heap.size, 1, none⟩ = some (.int .i64 n) := cell_of_row _ _ _ _ _ _ A1.out
        have D1_0 : V4.cell? ⟨w.heap.size + 1, 0, none⟩ = some (.int .i64 d) := cell_of_row _ _ _ _ _ _ D1.out
        have D1_1 : V4.cell? ⟨w.heap.size + 1, 1, none⟩ = some (.int .i64 m) := cell_of_row _ _ _ _ _ _ D1.out
        have Z1_0 : V4.cell? ⟨w.heap.size + 1 + 1, 0, none⟩ = some (.int .i64 0) := cell_of_row _ _ _ _ _ _ Z1.out
        have Z1_1 : V4.cell? ⟨w.heap.size + 1 + 1, 1, none⟩ = some (.int .i64 0) := cell_of_row _ _ _ _ _ _ Z1.out
        have Z1_f0 : V4.frozen? ⟨w.heap.size + 1 + 1, 0, none⟩ = false := by simp [World.frozen?, Z1.out]
        have Z1_f1 : V4.frozen? ⟨w.heap.size + 1 + 1, 1, none⟩ = false := by simp [World.frozen?, Z1.out]
        have N1_0 : V4.cell? ⟨V2.heap.size, 0, none⟩ = some (.int .u64 (zh P)) := cell_of_row _ _ _ _ _ _ N1.out
        have N1_1 : V4.cell? ⟨V2.heap.size, 1, none⟩ = some (.int .u64 (zl P)) := cell_of_row _ _ _ _ _ _ N1.out
        have S1_0 : V4.cell? ⟨gS1, 0, none⟩ = some (.int .u64 (zh T)) := cell_of_row _ _ _ _ _ _ S1.out
        have S1_1 : V4.cell? ⟨gS1, 1, none⟩ = some (.int .u64 (zl T)) := cell_of_row _ _ _ _ _ _ S1.out
        have zA1 := lt_of_heap A1.out
        have zD1 := lt_of_heap D1.out
        have zZ1 := lt_of_heap Z1.out
        have zN1 := lt_of_heap N1.out
        have zS1 := lt_of_heap S1.out
        go_simp
        go_wp2
        refine bodyPost_ret (v := .tuple #[.agg #[.int .i64 S, .int .i64 N], .int .i64 E]) (by simp [results, Try.results19, go_sem, zZ1, Z1_0, Z1_1]) rfl ⟨rfl, ?_⟩
        exact keep2 B4.out (by omega) _ _
    · obtain ⟨t1, t2, t3⟩ := ad_err (d := d) hw hc
      rw [t1, t2, t3]
      have H2 := Lib.hid X2
      clear X1 X2 t1 t2 t3 hw bs bn bd bm
      generalize ckI s n = E at *
      generalize nnI s n = P at *
      have f1 : (E != 0) = true := by rw [bne_iff_ne]; exact hc
      go_enter Try.func19, Try.ntmps19
      go_wp2_with fail
      
      refine (H1.out _).mono ?_
      rintro e V1 ⟨rfl, hb1⟩
      have B1 := Lib.hid (((((Below.refl w.heap.size w).alloc (Nat.le_refl _) _).alloc (by simp <;> omega) _).alloc (by simp <;> omega) _).trans (hb1.mono (by first | assumption | (simp <;> omega) | (simp; done))))
      have A1 := Lib.hid (row_call hb1 (row_alloc (row_alloc (heap_alloc_new _ _) _) _))
      have D1 := Lib.hid (row_at (k' := w.heap.size + 1) (by simp) (row_call hb1 (row_alloc (heap_alloc_new _ _) _)))
      have Z1 := Lib.hid (row_at (k' := w.heap.size + 1 + 1) (by simp) (row_call hb1 (heap_alloc_new _ _)))
      clear hb1
      have A1_0 : V1.cell? ⟨w.heap.size, 0, none⟩ = some (.int .i64 s) := cell_of_row _ _ _ _ _ _ A1.out
      have A1_1 : V1.cell? ⟨w.heap.size, 1, none⟩ = some (.int .i64 n) := cell_of_row _ _ _ _ _ _ A1.out
      have D1_0 : V1.cell? ⟨w.heap.size + 1, 0, none⟩ = some (.int .i64 d) := cell_of_row _ _ _ _ _ _ D1.out
      have D1_1 : V1.cell? ⟨w.heap.size + 1, 1, none⟩ = some (.int .i64 m) := cell_of_row _ _ _ _ _ _ D1.out
      have Z1_0 : V1.cell? ⟨w.heap.size + 1 + 1, 0, none⟩ = some (.int .i64 0) := cell_of_row _ _ _ _ _ _ Z1.out
      have Z1_1 : V1.cell? ⟨w.heap.size + 1 + 1, 1, none⟩ = some (.int .i64 0) := cell_of_row _ _ _ _ _ _ Z1.out
      have Z1_f0 : V1.frozen? ⟨w.heap.size + 1 + 1, 0, none⟩ = false := by simp [World.frozen?, Z1.out]
      have Z1_f1 : V1.frozen? ⟨w.heap.size + 1 + 1, 1, none⟩ = false := by simp [World.frozen?, Z1.out]
      have zA1 := lt_of_heap A1.out
      have zD1 := lt_of_heap D1.out
      have zZ1 := lt_of_heap Z1.out
      go_simp
      go_wp2_with fail
      refine (H2.out _).mono ?_
      rintro e V2 ⟨rfl, hb2⟩
      clear A1_0 A1_1 zA1 D1_0 D1_1 zD1 Z1_0 Z1_1 Z1_f0 Z1_f1 zZ1
      have B2 : Hid (Below w.heap.size w V2) := by first | exact Lib.hid ((B1.out).trans (hb2.mono (by have := B1.out.size; first | assumption | (simp <;> omega) | (simp; done)))) | exact Lib.hid (((B1.out).alloc (B1.out.size) _).trans (hb2.mono (by have := B1.out.size; first | assumption | (simp <;> omega) | (simp; done)))) | exact Lib.hid ((((B1.out).alloc (B1.out.size) _).alloc (by have := B1.out.size; simp <;> omega) _).trans (hb2.mono (by have := B1.out.size; first | assumption | (simp <;> omega) | (simp; done)))) | exact Lib.hid (((((B1.out).alloc (B1.out.size) _).alloc (by have := B1.out.size; simp <;> omega) _).alloc (by have := B1.out.size; simp <;> omega) _).trans (hb2.mono (by have := B1.out.size; first | assumption | (simp <;> omega) | (simp; done))))
      first | replace A1 := Lib.hid (row_call hb2 A1.out) | replace A1 := Lib.hid (row_call hb2 (row_alloc A1.out _)) | replace A1 := Lib.hid (row_call hb2 (row_alloc (row_alloc A1.out _) _)) | replace A1 := Lib.hid (row_call hb2 (row_alloc (row_alloc (row_alloc A1.out _) _) _))
      first | replace D1 := Lib.hid (row_call hb2 D1.out) | replace D1 := Lib.hid (row_call hb2 (row_alloc D1.out _)) | replace D1 := Lib.hid (row_call hb2 (row_alloc (row_alloc D1.out _) _)) | replace D1 := Lib.hid (row_call hb2 (row_alloc (row_alloc (row_alloc D1.out _) _) _))
      first | replace Z1 := Lib.hid (row_call hb2 Z1.out) | replace Z1 := Lib.hid (row_call hb2 (row_alloc Z1.out _)) | replace Z1 := Lib.hid (row_call hb2 (row_alloc (row_alloc Z1.out _) _)) | replace Z1 := Lib.hid (row_call hb2 (row_alloc (row_alloc (row_alloc Z1.out _) _) _))
      clear hb2
      have A1_0 : V2.cell? ⟨w.heap.size, 0, none⟩ = some (.int .i64 s) := cell_of_row _ _ _ _ _ _ A1.out
      have A1_1 : V2.cell? ⟨w.heap.size, 1, none⟩ = some (.int .i64 n) := cell_of_row _ _ _ _ _ _ A1.out
      have D1_0 : V2.cell? ⟨w.heap.size + 1, 0, none⟩ = some (.int .i64 d) := cell_of_row _ _ _ _ _ _ D1.out
      have D1_1 : V2.cell? ⟨w.heap.size + 1, 1, none⟩ = some (.int .i64 m) := cell_of_row _ _ _ _ _ _ D1.out
      have Z1_0 : V2.cell? ⟨w.heap.size + 1 + 1, 0, none⟩ = some (.int .i64 0) := cell_of_row _ _ _ _ _ _ Z1.out
      have Z1_1 : V2.cell? ⟨w.heap.size + 1 + 1, 1, none⟩ = some (.int .i64 0) := cell_of_row _ _ _ _ _ _ Z1.out
      have Z1_f0 : V2.frozen? ⟨w.heap.size + 1 + 1, 0, none⟩ = false := by simp [World.frozen?, Z1.out]
      have Z1_f1 : V2.frozen? ⟨w.heap.size + 1 + 1, 1, none⟩ = false := by simp [World.frozen?, Z1.out]
      have zA1 := lt_of_heap A1.out
      have zD1 := lt_of_heap D1.out
      have zZ1 := lt_of_heap Z1.out
      go_simp
      go_wp2
      refine bodyPost_ret (v := .tuple #[.agg #[.int .i64 0, .int .i64 0], .int .i64 E]) (by simp [results, Try.results19, go_sem, zZ1, Z1_0, Z1_1]) rfl ⟨rfl, ?_⟩
      exact (keep2 B2.out (by omega) _ _).alloc (by have := B2.out.size; simp; omega) _
theorem fs_ad {s n d m : Int} (h : ckI s n = 0 → ckD d m = 0 → False) : fsI (ckI s n) (ckD d m) ≠ 0 ∧ adE s n d m = fsI (ckI s n) (ckD d m) ∧ adS s n d m = 0 ∧ adN s n d m = 0 := by
  cases hw : wmB m
  · obtain ⟨t1, t2, t3⟩ := ad_form (s := s) (n := n) (d := d) hw
    rw [ckD_wm hw, t1, t2, t3]
    have : fsI (ckI s n) 5 = 5 := by
      unfold fsI
      rcases ckI_three s n with h | h | h <;> rw [h] <;> rfl
    rw [this]
    exact ⟨by decide, rfl, rfl, rfl⟩
  · by_cases hc : ckI s n = 0
    · have h8 : ckD d m = 8 := by
        rcases ckD_three d m with h1 | h1 | h1
        · exact absurd h1 (h hc)
        · exfalso
          unfold ckD at h1
          rw [if_pos hw] at h1
          split at h1 <;> omega
        · exact h1
      obtain ⟨t1, t2, t3⟩ := ad_sum (d := d) hw hc
      obtain ⟨_, o1⟩ := of_ckD8 h8
      obtain ⟨o2, o3, o4⟩ := of_ckI hc
      have o5 := of_wmB o2
      have o6 := of_wmB hw
      have hn : ¬ (-377705116800 ≤ (nanos s n + nanos d m) / 1000000000 ∧ (nanos s n + nanos d m) / 1000000000 ≤ 253402300799) := by unfold nanos; omega
      obtain ⟨u1, u2, u3⟩ := tk_no hn
      rw [t1, t2, t3, u1, u2, u3, hc, h8]
      exact ⟨by unfold fsI; decide, by unfold fsI; decide, rfl, rfl⟩
    · obtain ⟨t1, t2, t3⟩ := ad_err (d := d) hw hc
      rw [t1, t2, t3]
      have hd : ckD d m = 0 ∨ ckD d m = 8 := by
        unfold ckD; rw [if_pos hw]; split
        · exact Or.inr rfl
        · exact Or.inl rfl
      have : fsI (ckI s n) (ckD d m) = ckI s n := by
        unfold fsI
        rcases ckI_three s n with h | h | h
        · exact absurd h hc
        · rcases hd with h2 | h2 <;> rw [h, h2] <;> rfl
        · rcases hd with h2 | h2 <;> rw [h, h2] <;> rfl
      rw [this]
      exact ⟨hc, rfl, rfl, rfl⟩
set_option maxHeartbeats 16000000 in
set_option maxRecDepth 100000 in
theorem riAdd_any (s n d m : Int) (bs : in64 s) (bn : in64 n) (bd : in64 d) (bm : in64 m) (w : World) :
    Calls Try.prog 20 #[.agg #[.int .i64 s, .int .i64 n], .agg #[.int .i64 d, .int .i64 m]] w fun e w' => e = .returned (.tuple #[.agg #[.int .i64 (adS s n d m), .int .i64 (adN s n d m)], .int .i64 (adE s n d m)]) ∧ Below w.heap.size w w' := by
  have H1 := Lib.hid (rCheck_any s n)
  have H2 := Lib.hid (rCheckDur_any d m)
  by_cases hc : ckI s n = 0 ∧ ckD d m = 0
  · obtain ⟨t1, t2, t3⟩ := ad_sum (d := d) (of_ckD hc.2).1 hc.1
    rw [t1, t2, t3]
    have X3 := rFirst_any (ckI s n) (ckD d m)
    have e0 : fsI (ckI s n) (ckD d m) = 0 := by rw [hc.1, hc.2]; unfold fsI; rfl
    rw [e0] at X3
    have H3 := Lib.hid X3
    have H4 := Lib.hid (rWide_any s n bs bn)
    have H5 := Lib.hid (rWide_any d m bd bm)
    have H6 := Lib.hid (rAdd_any (nanos s n) (nanos d m))
    have H7 := Lib.hid (rInstant_any (nanos s n + nanos d m) (sum_in bs bn bd bm).1)
    clear X3 t1 t2 t3 hc bs bn bd bm e0
    generalize cb (nanos s n) (nanos d m) = c at *
    generalize nanos s n + nanos d m = T at *
    generalize nanos s n = P at *
    generalize nanos d m = Q at *
    generalize tkS (-377705116800) 253402300799 T = S at *
    generalize tkN (-377705116800) 253402300799 T = N at *
    generalize tkE (-377705116800) 253402300799 T = E at *
    generalize ckI s n = c1 at *
    generalize ckD d m = c2 at *
    go_enter Try.func20, Try.ntmps20
    go_wp2_with fail
    
    obtain ⟨W0, hW0⟩ : ∃ W0, W0 = (((w.alloc (Obj.cells #[Value.int .i64 s, Value.int .i64 n] 34)).alloc (Obj.cells #[Value.int .i64 d, Value.int .i64 m] 42)).alloc (Obj.cells #[Value.int .i64 0, Value.int .i64 0] 34)) := ⟨_, rfl⟩
    have A1 := Lib.hid (row_at (k' := w.heap.size) (by simp) (row_by hW0 (row_alloc (row_alloc (heap_alloc_new _ _) _) _)))
    have D1 := Lib.hid (row_at (k' := w.heap.size + 1) (by simp) (row_by hW0 (row_alloc (heap_alloc_new _ _) _)))
    have Z1 := Lib.hid (row_at (k' := w.heap.size + 1 + 1) (by simp) (row_by hW0 (heap_alloc_new _ _)))
    have HB0 := Lib.hid (below_by hW0 ((((Below.refl w.heap.size w).alloc (by simp <;> omega) _).alloc (by simp <;> omega) _).alloc (by simp <;> omega) _))
    have HW0 := Lib.hid hW0
    clear hW0
    have A1_0 : W0.cell? ⟨w.heap.size, 0, none⟩ = some (.int .i64 s) := cell_of_row _ _ _ _ _ _ A1.out
    have A1_1 : W0.cell? ⟨w.heap.size, 1, none⟩ = some (.int .i64 n) := cell_of_row _ _ _ _ _ _ A1.out
    have zA1 := lt_of_heap A1.out
    have D1_0 : W0.cell? ⟨w.heap.size + 1, 0, none⟩ = some (.int .i64 d) := cell_of_row _ _ _ _ _ _ D1.out
    have D1_1 : W0.cell? ⟨w.heap.size + 1, 1, none⟩ = some (.int .i64 m) := cell_of_row _ _ _ _ _ _ D1.out
    have zD1 := lt_of_heap D1.out
    have Z1_0 : W0.cell? ⟨w.heap.size + 1 + 1, 0, none⟩ = some (.int .i64 0) := cell_of_row _ _ _ _ _ _ Z1.out
    have Z1_1 : W0.cell? ⟨w.heap.size + 1 + 1, 1, none⟩ = some (.int .i64 0) := cell_of_row _ _ _ _ _ _ Z1.out
    have Z1_f0 : W0.frozen? ⟨w.heap.size + 1 + 1, 0, none⟩ = false := (by simp [World.frozen?, Z1.out])
    have Z1_f1 : W0.frozen? ⟨w.heap.size + 1 + 1, 1, none⟩ = false := (by simp [World.frozen?, Z1.out])
    have zZ1 := lt_of_heap Z1.out
    try rw [← HW0.out]
    go_cut [6] (fun s6 wx => s6 = .int .i64 0 ∧ Below W0.heap.size W0 wx)
    case first =>
      go_region_held3 (fun w' => Below W0.heap.size W0 w' ∧ w'.cell? ⟨w.heap.size, 0, none⟩ = some (.int .i64 s) ∧ w'.cell? ⟨w.heap.size, 1, none⟩ = some (.int .i64 n) ∧ w'.cell? ⟨w.heap.size + 1, 0, none⟩ = some (.int .i64 d) ∧ w'.cell? ⟨w.heap.size + 1, 1, none⟩ = some (.int .i64 m))
    (first
      | ((try go_split_ands); refine ⟨(Below.refl _ _).drew, ?_, ?_, ?_, ?_⟩ <;> first | assumption | (rw [World.cell?_drew]; assumption))
      | ((try go_split_ands); refine ⟨keepS (W0 := W0) ?_ hb1, cellS (W0 := W0) ?_ hb1 ?_ ?_, cellS (W0 := W0) ?_ hb1 ?_ ?_, cellS (W0 := W0) ?_ hb1 ?_ ?_, cellS (W0 := W0) ?_ hb1 ?_ ?_⟩ <;> first | assumption | omega)
      | ((try go_split_ands); refine ⟨keepA (W0 := W0) ?_ _, cellA (W0 := W0) ?_ _ ?_ ?_, cellA (W0 := W0) ?_ _ ?_ ?_, cellA (W0 := W0) ?_ _ ?_ ?_, cellA (W0 := W0) ?_ _ ?_ ?_⟩ <;> first | assumption | omega)
      | ((try go_split_ands); refine ⟨keepAd (W0 := W0) ?_ _, cellAd (W0 := W0) ?_ _ ?_ ?_, cellAd (W0 := W0) ?_ _ ?_ ?_, cellAd (W0 := W0) ?_ _ ?_ ?_, cellAd (W0 := W0) ?_ _ ?_ ?_⟩ <;> first | assumption | omega | exact Below.refl _ _)
      | ((try go_split_ands); refine ⟨keep2 (W0 := W0) ?_ ?_ _ _, cell2 (W0 := W0) ?_ _ _ ?_ ?_, cell2 (W0 := W0) ?_ _ _ ?_ ?_, cell2 (W0 := W0) ?_ _ _ ?_ ?_, cell2 (W0 := W0) ?_ _ _ ?_ ?_⟩ <;> first | assumption | omega | exact Nat.le_refl _)
      | ((try go_split_ands); refine ⟨keepZ (W0 := W0) ?_ ?_ _, cellZ (W0 := W0) ?_ _ ?_ ?_, cellZ (W0 := W0) ?_ _ ?_ ?_, cellZ (W0 := W0) ?_ _ ?_ ?_, cellZ (W0 := W0) ?_ _ ?_ ?_⟩ <;> first | assumption | omega | exact Nat.le_refl _ | exact ⟨_, by assumption⟩))
    (first | (go_at_call 17; (with_reducible refine (H1.out _).mono ?_); rintro e w1 ⟨rfl, hb1⟩; (try go_split_ands); have hge : W0.heap.size ≤ w1.heap.size := (by first | (refine (keepS (W0 := W0) ?_ hb1).size; assumption) | exact (hb1.size : W0.heap.size ≤ w1.heap.size)); (try have hrow := row_call hb1 hrow); (try have hrow := row_new hb1); (try have hrow := row_newd hb1); have hl1 := lt_below hb1; obtain ⟨hc1, hf1⟩ := bcell hb1; (try (have hrc := row_cellA hrow; clear hc1 hf1)); (try have hrf := row_frozA hrow)) | (go_at_call 50; (with_reducible refine (H2.out _).mono ?_); rintro e w1 ⟨rfl, hb1⟩; (try go_split_ands); have hge : W0.heap.size ≤ w1.heap.size := (by first | (refine (keepS (W0 := W0) ?_ hb1).size; assumption) | exact (hb1.size : W0.heap.size ≤ w1.heap.size)); (try have hrow := row_call hb1 hrow); (try have hrow := row_new hb1); (try have hrow := row_newd hb1); have hl1 := lt_below hb1; obtain ⟨hc1, hf1⟩ := bcell hb1; (try (have hrc := row_cellA hrow; clear hc1 hf1)); (try have hrf := row_frozA hrow)) | (go_at_call 49; refine (H3.out _ _ (by simp [go_sem]) (by simp [go_sem])).mono ?_; rintro e w1 ⟨rfl, hb1⟩; (try go_split_ands); have hge : W0.heap.size ≤ w1.heap.size := (by first | (refine (keepS (W0 := W0) ?_ hb1).size; assumption) | exact (hb1.size : W0.heap.size ≤ w1.heap.size)); (try have hrow := row_call hb1 hrow); (try have hrow := row_new hb1); (try have hrow := row_newd hb1); have hl1 := lt_below hb1; obtain ⟨hc1, hf1⟩ := bcell hb1; (try (have hrc := row_cellA hrow; clear hc1 hf1)); (try have hrf := row_frozA hrow)))
      all_goals (try go_split_ands)
      all_goals (go_wp2_with fail; go_meet; refine ⟨rfl, ?_⟩)
      all_goals first | assumption | exact heap_alloc_new _ _ | exact row_set (by assumption) _ _
    case rest =>
      obtain ⟨rfl, hB⟩ := hcut
      obtain ⟨V1, rfl⟩ : ∃ V, V = wc := ⟨_, rfl⟩
      clear A1_0 A1_1 zA1 D1_0 D1_1 zD1 Z1_0 Z1_1 Z1_f0 Z1_f1 zZ1
      replace A1 := Lib.hid (row_call hB A1.out)
      replace D1 := Lib.hid (row_call hB D1.out)
      replace Z1 := Lib.hid (row_call hB Z1.out)
      have B1 := Lib.hid (HB0.out.trans (hB.mono HB0.out.size))
      clear hB
      have A1_0 : V1.cell? ⟨w.heap.size, 0, none⟩ = some (.int .i64 s) := cell_of_row _ _ _ _ _ _ A1.out
      have A1_1 : V1.cell? ⟨w.heap.size, 1, none⟩ = some (.int .i64 n) := cell_of_row _ _ _ _ _ _ A1.out
      have zA1 := lt_of_heap A1.out
      have D1_0 : V1.cell? ⟨w.heap.size + 1, 0, none⟩ = some (.int .i64 d) := cell_of_row _ _ _ _ _ _ D1.out
      have D1_1 : V1.cell? ⟨w.heap.size + 1, 1, none⟩ = some (.int .i64 m) := cell_of_row _ _ _ _ _ _ D1.out
      have zD1 := lt_of_heap D1.out
      have Z1_0 : V1.cell? ⟨w.heap.size + 1 + 1, 0, none⟩ = some (.int .i64 0) := cell_of_row _ _ _ _ _ _ Z1.out
      have Z1_1 : V1.cell? ⟨w.heap.size + 1 + 1, 1, none⟩ = some (.int .i64 0) := cell_of_row _ _ _ _ _ _ Z1.out
      have Z1_f0 : V1.frozen? ⟨w.heap.size + 1 + 1, 0, none⟩ = false := (by simp [World.frozen?, Z1.out])
      have Z1_f1 : V1.frozen? ⟨w.heap.size + 1 + 1, 1, none⟩ = false := (by simp [World.frozen?, Z1.out])
      have zZ1 := lt_of_heap Z1.out
      go_wp2_with fail
      clear A1_0 A1_1 zA1 D1_0 D1_1 zD1 Z1_0 Z1_1 Z1_f0 Z1_f1 zZ1
      obtain ⟨W0, hW0⟩ : ∃ W0, W0 = V1 := ⟨_, rfl⟩
      replace A1 := Lib.hid (row_by hW0 A1.out)
      replace D1 := Lib.hid (row_by hW0 D1.out)
      replace Z1 := Lib.hid (row_by hW0 Z1.out)
      have HB0 := Lib.hid (below_by hW0 (B1.out))
      have HW0 := Lib.hid hW0
      clear hW0
      have A1_0 : W0.cell? ⟨w.heap.size, 0, none⟩ = some (.int .i64 s) := cell_of_row _ _ _ _ _ _ A1.out
      have A1_1 : W0.cell? ⟨w.heap.size, 1, none⟩ = some (.int .i64 n) := cell_of_row _ _ _ _ _ _ A1.out
      have zA1 := lt_of_heap A1.out
      have D1_0 : W0.cell? ⟨w.heap.size + 1, 0, none⟩ = some (.int .i64 d) := cell_of_row _ _ _ _ _ _ D1.out
      have D1_1 : W0.cell? ⟨w.heap.size + 1, 1, none⟩ = some (.int .i64 m) := cell_of_row _ _ _ _ _ _ D1.out
      have zD1 := lt_of_heap D1.out
      have Z1_0 : W0.cell? ⟨w.heap.size + 1 + 1, 0, none⟩ = some (.int .i64 0) := cell_of_row _ _ _ _ _ _ Z1.out
      have Z1_1 : W0.cell? ⟨w.heap.size + 1 + 1, 1, none⟩ = some (.int .i64 0) := cell_of_row _ _ _ _ _ _ Z1.out
      have Z1_f0 : W0.frozen? ⟨w.heap.size + 1 + 1, 0, none⟩ = false := (by simp [World.frozen?, Z1.out])
      have Z1_f1 : W0.frozen? ⟨w.heap.size + 1 + 1, 1, none⟩ = false := (by simp [World.frozen?, Z1.out])
      have zZ1 := lt_of_heap Z1.out
      try rw [← HW0.out]
      go_cut [7, 8] (fun s7 s8 wx => ∃ gS1 : Nat, s7 = .pointer (some ⟨gS1, 0, none⟩) ∧ s8 = .bool c ∧ wx.heap[gS1]? = some (.cells #[.int .u64 (zh T), .int .u64 (zl T)] 24 (0, 0)) ∧ Below W0.heap.size W0 wx)
      case first =>
        go_region_held3 (fun w' => Below W0.heap.size W0 w' ∧ w'.cell? ⟨w.heap.size, 0, none⟩ = some (.int .i64 s) ∧ w'.cell? ⟨w.heap.size, 1, none⟩ = some (.int .i64 n) ∧ w'.cell? ⟨w.heap.size + 1, 0, none⟩ = some (.int .i64 d) ∧ w'.cell? ⟨w.heap.size + 1, 1, none⟩ = some (.int .i64 m))
    (first
      | ((try go_split_ands); refine ⟨(Below.refl _ _).drew, ?_, ?_, ?_, ?_⟩ <;> first | assumption | (rw [World.cell?_drew]; assumption))
      | ((try go_split_ands); refine ⟨keepS (W0 := W0) ?_ hb1, cellS (W0 := W0) ?_ hb1 ?_ ?_, cellS (W0 := W0) ?_ hb1 ?_ ?_, cellS (W0 := W0) ?_ hb1 ?_ ?_, cellS (W0 := W0) ?_ hb1 ?_ ?_⟩ <;> first | assumption | omega)
      | ((try go_split_ands); refine ⟨keepA (W0 := W0) ?_ _, cellA (W0 := W0) ?_ _ ?_ ?_, cellA (W0 := W0) ?_ _ ?_ ?_, cellA (W0 := W0) ?_ _ ?_ ?_, cellA (W0 := W0) ?_ _ ?_ ?_⟩ <;> first | assumption | omega)
      | ((try go_split_ands); refine ⟨keepAd (W0 := W0) ?_ _, cellAd (W0 := W0) ?_ _ ?_ ?_, cellAd (W0 := W0) ?_ _ ?_ ?_, cellAd (W0 := W0) ?_ _ ?_ ?_, cellAd (W0 := W0) ?_ _ ?_ ?_⟩ <;> first | assumption | omega | exact Below.refl _ _)
      | ((try go_split_ands); refine ⟨keep2 (W0 := W0) ?_ ?_ _ _, cell2 (W0 := W0) ?_ _ _ ?_ ?_, cell2 (W0 := W0) ?_ _ _ ?_ ?_, cell2 (W0 := W0) ?_ _ _ ?_ ?_, cell2 (W0 := W0) ?_ _ _ ?_ ?_⟩ <;> first | assumption | omega | exact Nat.le_refl _)
      | ((try go_split_ands); refine ⟨keepZ (W0 := W0) ?_ ?_ _, cellZ (W0 := W0) ?_ _ ?_ ?_, cellZ (W0 := W0) ?_ _ ?_ ?_, cellZ (W0 := W0) ?_ _ ?_ ?_, cellZ (W0 := W0) ?_ _ ?_ ?_⟩ <;> first | assumption | omega | exact Nat.le_refl _ | exact ⟨_, by assumption⟩))
    (first | (go_at_call 46; (with_reducible refine (H4.out _).mono ?_); rintro e w1 ⟨rfl, hb1⟩; (try go_split_ands); have hge : W0.heap.size ≤ w1.heap.size := (by first | (refine (keepS (W0 := W0) ?_ hb1).size; assumption) | exact (hb1.size : W0.heap.size ≤ w1.heap.size)); (try have hrow := row_call hb1 hrow); (try have hrow := row_new hb1); (try have hrow := row_newd hb1); have hl1 := lt_below hb1; obtain ⟨hc1, hf1⟩ := bcell hb1; (try (have hrc := row_cellA hrow; clear hc1 hf1)); (try have hrf := row_frozA hrow)) | (go_at_call 46; (with_reducible refine (H5.out _).mono ?_); rintro e w1 ⟨rfl, hb1⟩; (try go_split_ands); have hge : W0.heap.size ≤ w1.heap.size := (by first | (refine (keepS (W0 := W0) ?_ hb1).size; assumption) | exact (hb1.size : W0.heap.size ≤ w1.heap.size)); (try have hrow := row_call hb1 hrow); (try have hrow := row_new hb1); (try have hrow := row_newd hb1); have hl1 := lt_below hb1; obtain ⟨hc1, hf1⟩ := bcell hb1; (try (have hrc := row_cellA hrow; clear hc1 hf1)); (try have hrf := row_frozA hrow)) | (go_at_call 38; (with_reducible refine (H6.out _).mono ?_); rintro e w1 ⟨rfl, hb1⟩; (try go_split_ands); have hge : W0.heap.size ≤ w1.heap.size := (by first | (refine (keepS (W0 := W0) ?_ hb1).size; assumption) | exact (hb1.size : W0.heap.size ≤ w1.heap.size)); (try have hrow := row_call hb1 hrow); (try have hrow := row_new hb1); (try have hrow := row_newd hb1); have hl1 := lt_below hb1; obtain ⟨hc1, hf1⟩ := bcell hb1; (try (have hrc := row_cellA hrow; clear hc1 hf1)); (try have hrf := row_frozA hrow)))
        all_goals (try go_split_ands)
        all_goals (go_wp2_with fail; go_meet; refine ⟨_, rfl, rfl, ?_, ?_⟩)
        all_goals first | assumption | exact heap_alloc_new _ _ | exact row_set (by assumption) _ _
      case rest =>
        obtain ⟨gS1, rfl, rfl, hS1, hB⟩ := hcut
        obtain ⟨V2, rfl⟩ : ∃ V, V = wc := ⟨_, rfl⟩
        have S1 := Lib.hid hS1
        clear hS1
        clear A1_0 A1_1 zA1 D1_0 D1_1 zD1 Z1_0 Z1_1 Z1_f0 Z1_f1 zZ1
        replace A1 := Lib.hid (row_call hB A1.out)
        replace D1 := Lib.hid (row_call hB D1.out)
        replace Z1 := Lib.hid (row_call hB Z1.out)
        have B2 := Lib.hid (HB0.out.trans (hB.mono HB0.out.size))
        clear hB
        have A1_0 : V2.cell? ⟨w.heap.size, 0, none⟩ = some (.int .i64 s) := cell_of_row _ _ _ _ _ _ A1.out
        have A1_1 : V2.cell? ⟨w.heap.size, 1, none⟩ = some (.int .i64 n) := cell_of_row _ _ _ _ _ _ A1.out
        have zA1 := lt_of_heap A1.out
        have D1_0 : V2.cell? ⟨w.heap.size + 1, 0, none⟩ = some (.int .i64 d) := cell_of_row _ _ _ _ _ _ D1.out
        have D1_1 : V2.cell? ⟨w.heap.size + 1, 1, none⟩ = some (.int .i64 m) := cell_of_row _ _ _ _ _ _ D1.out
        have zD1 := lt_of_heap D1.out
        have Z1_0 : V2.cell? ⟨w.heap.size + 1 + 1, 0, none⟩ = some (.int .i64 0) := cell_of_row _ _ _ _ _ _ Z1.out
        have Z1_1 : V2.cell? ⟨w.heap.size + 1 + 1, 1, none⟩ = some (.int .i64 0) := cell_of_row _ _ _ _ _ _ Z1.out
        have Z1_f0 : V2.frozen? ⟨w.heap.size + 1 + 1, 0, none⟩ = false := (by simp [World.frozen?, Z1.out])
        have Z1_f1 : V2.frozen? ⟨w.heap.size + 1 + 1, 1, none⟩ = false := (by simp [World.frozen?, Z1.out])
        have zZ1 := lt_of_heap Z1.out
        have S1_0 : V2.cell? ⟨gS1, 0, none⟩ = some (.int .u64 (zh T)) := cell_of_row _ _ _ _ _ _ S1.out
        have S1_1 : V2.cell? ⟨gS1, 1, none⟩ = some (.int .u64 (zl T)) := cell_of_row _ _ _ _ _ _ S1.out
        have zS1 := lt_of_heap S1.out
        go_wp2_with fail
        refine (H7.out _).mono ?_
        rintro e V3 ⟨rfl, hb3⟩
        clear A1_0 A1_1 zA1 D1_0 D1_1 zD1 Z1_0 Z1_1 Z1_f0 Z1_f1 zZ1 S1_0 S1_1 zS1
        have B3 : Hid (Below w.heap.size w V3) := by first | exact Lib.hid ((B2.out).trans (hb3.mono (by have := B2.out.size; first | assumption | (simp <;> omega) | (simp; done)))) | exact Lib.hid (((B2.out).alloc (B2.out.size) _).trans (hb3.mono (by have := B2.out.size; first | assumption | (simp <;> omega) | (simp; done)))) | exact Lib.hid ((((B2.out).alloc (B2.out.size) _).alloc (by have := B2.out.size; simp <;> omega) _).trans (hb3.mono (by have := B2.out.size; first | assumption | (simp <;> omega) | (simp; done)))) | exact Lib.hid (((((B2.out).alloc (B2.out.size) _).alloc (by have := B2.out.size; simp <;> omega) _).alloc (by have := B2.out.size; simp <;> omega) _).trans (hb3.mono (by have := B2.out.size; first | assumption | (simp <;> omega) | (simp; done))))
        first | replace A1 := Lib.hid (row_call hb3 A1.out) | replace A1 := Lib.hid (row_call hb3 (row_alloc A1.out _)) | replace A1 := Lib.hid (row_call hb3 (row_alloc (row_alloc A1.out _) _)) | replace A1 := Lib.hid (row_call hb3 (row_alloc (row_alloc (row_alloc A1.out _) _) _))
        first | replace D1 := Lib.hid (row_call hb3 D1.out) | replace D1 := Lib.hid (row_call hb3 (row_alloc D1.out _)) | replace D1 := Lib.hid (row_call hb3 (row_alloc (row_alloc D1.out _) _)) | replace D1 := Lib.hid (row_call hb3 (row_alloc (row_alloc (row_alloc D1.out _) _) _))
        first | replace Z1 := Lib.hid (row_call hb3 Z1.out) | replace Z1 := Lib.hid (row_call hb3 (row_alloc Z1.out _)) | replace Z1 := Lib.hid (row_call hb3 (row_alloc (row_alloc Z1.out _) _)) | replace Z1 := Lib.hid (row_call hb3 (row_alloc (row_alloc (row_alloc Z1.out _) _) _))
        first | replace S1 := Lib.hid (row_call hb3 S1.out) | replace S1 := Lib.hid (row_call hb3 (row_alloc S1.out _)) | replace S1 := Lib.hid (row_call hb3 (row_alloc (row_alloc S1.out _) _)) | replace S1 := Lib.hid (row_call hb3 (row_alloc (row_alloc (row_alloc S1.out _) _) _))
        clear hb3
        have A1_0 : V3.cell? ⟨w.heap.size, 0, none⟩ = some (.int .i64 s) := cell_of_row _ _ _ _ _ _ A1.out
        have A1_1 : V3.cell? ⟨w.heap.size, 1, none⟩ = some (.int .i64 n) := cell_of_row _ _ _ _ _ _ A1.out
        have D1_0 : V3.cell? ⟨w.heap.size + 1, 0, none⟩ = some (.int .i64 d) := cell_of_row _ _ _ _ _ _ D1.out
        have D1_1 : V3.cell? ⟨w.heap.size + 1, 1, none⟩ = some (.int .i64 m) := cell_of_row _ _ _ _ _ _ D1.out
        have Z1_0 : V3.cell? ⟨w.heap.size + 1 + 1, 0, none⟩ = some (.int .i64 0) := cell_of_row _ _ _ _ _ _ Z1.out
        have Z1_1 : V3.cell? ⟨w.heap.size + 1 + 1, 1, none⟩ = some (.int .i64 0) := cell_of_row _ _ _ _ _ _ Z1.out
        have Z1_f0 : V3.frozen? ⟨w.heap.size + 1 + 1, 0, none⟩ = false := by simp [World.frozen?, Z1.out]
        have Z1_f1 : V3.frozen? ⟨w.heap.size + 1 + 1, 1, none⟩ = false := by simp [World.frozen?, Z1.out]
        have S1_0 : V3.cell? ⟨gS1, 0, none⟩ = some (.int .u64 (zh T)) := cell_of_row _ _ _ _ _ _ S1.out
        have S1_1 : V3.cell? ⟨gS1, 1, none⟩ = some (.int .u64 (zl T)) := cell_of_row _ _ _ _ _ _ S1.out
        have zA1 := lt_of_heap A1.out
        have zD1 := lt_of_heap D1.out
        have zZ1 := lt_of_heap Z1.out
        have zS1 := lt_of_heap S1.out
        go_simp
        go_wp2
        refine bodyPost_ret (v := .tuple #[.agg #[.int .i64 S, .int .i64 N], .int .i64 E]) (by simp [results, Try.results20, go_sem, zZ1, Z1_0, Z1_1]) rfl ⟨rfl, ?_⟩
        exact keep2 B3.out (by omega) _ _
  · obtain ⟨hne, t1, t2, t3⟩ := fs_ad (s := s) (n := n) (d := d) (m := m) (fun a b => hc ⟨a, b⟩)
    rw [t1, t2, t3]
    have H3 := Lib.hid (rFirst_any (ckI s n) (ckD d m))
    clear t1 t2 t3 hc bs bn bd bm
    generalize fsI (ckI s n) (ckD d m) = E at *
    generalize ckI s n = c1 at *
    generalize ckD d m = c2 at *
    have f1 : (E != 0) = true := by rw [bne_iff_ne]; exact hne
    go_enter Try.func20, Try.ntmps20
    go_wp2_with fail
    
    obtain ⟨W0, hW0⟩ : ∃ W0, W0 = (((w.alloc (Obj.cells #[Value.int .i64 s, Value.int .i64 n] 34)).alloc (Obj.cells #[Value.int .i64 d, Value.int .i64 m] 42)).alloc (Obj.cells #[Value.int .i64 0, Value.int .i64 0] 34)) := ⟨_, rfl⟩
    have A1 := Lib.hid (row_at (k' := w.heap.size) (by simp) (row_by hW0 (row_alloc (row_alloc (heap_alloc_new _ _) _) _)))
    have D1 := Lib.hid (row_at (k' := w.heap.size + 1) (by simp) (row_by hW0 (row_alloc (heap_alloc_new _ _) _)))
    have Z1 := Lib.hid (row_at (k' := w.heap.size + 1 + 1) (by simp) (row_by hW0 (heap_alloc_new _ _)))
    have HB0 := Lib.hid (below_by hW0 ((((Below.refl w.heap.size w).alloc (by simp <;> omega) _).alloc (by simp <;> omega) _).alloc (by simp <;> omega) _))
    have HW0 := Lib.hid hW0
    clear hW0
    have A1_0 : W0.cell? ⟨w.heap.size, 0, none⟩ = some (.int .i64 s) := cell_of_row _ _ _ _ _ _ A1.out
    have A1_1 : W0.cell? ⟨w.heap.size, 1, none⟩ = some (.int .i64 n) := cell_of_row _ _ _ _ _ _ A1.out
    have zA1 := lt_of_heap A1.out
    have D1_0 : W0.cell? ⟨w.heap.size + 1, 0, none⟩ = some (.int .i64 d) := cell_of_row _ _ _ _ _ _ D1.out
    have D1_1 : W0.cell? ⟨w.heap.size + 1, 1, none⟩ = some (.int .i64 m) := cell_of_row _ _ _ _ _ _ D1.out
    have zD1 := lt_of_heap D1.out
    have Z1_0 : W0.cell? ⟨w.heap.size + 1 + 1, 0, none⟩ = some (.int .i64 0) := cell_of_row _ _ _ _ _ _ Z1.out
    have Z1_1 : W0.cell? ⟨w.heap.size + 1 + 1, 1, none⟩ = some (.int .i64 0) := cell_of_row _ _ _ _ _ _ Z1.out
    have Z1_f0 : W0.frozen? ⟨w.heap.size + 1 + 1, 0, none⟩ = false := (by simp [World.frozen?, Z1.out])
    have Z1_f1 : W0.frozen? ⟨w.heap.size + 1 + 1, 1, none⟩ = false := (by simp [World.frozen?, Z1.out])
    have zZ1 := lt_of_heap Z1.out
    try rw [← HW0.out]
    go_cut [6] (fun s6 wx => s6 = .int .i64 E ∧ Below W0.heap.size W0 wx)
    case first =>
      go_region_held3 (fun w' => Below W0.heap.size W0 w' ∧ w'.cell? ⟨w.heap.size, 0, none⟩ = some (.int .i64 s) ∧ w'.cell? ⟨w.heap.size, 1, none⟩ = some (.int .i64 n) ∧ w'.cell? ⟨w.heap.size + 1, 0, none⟩ = some (.int .i64 d) ∧ w'.cell? ⟨w.heap.size + 1, 1, none⟩ = some (.int .i64 m))
    (first
      | ((try go_split_ands); refine ⟨(Below.refl _ _).drew, ?_, ?_, ?_, ?_⟩ <;> first | assumption | (rw [World.cell?_drew]; assumption))
      | ((try go_split_ands); refine ⟨keepS (W0 := W0) ?_ hb1, cellS (W0 := W0) ?_ hb1 ?_ ?_, cellS (W0 := W0) ?_ hb1 ?_ ?_, cellS (W0 := W0) ?_ hb1 ?_ ?_, cellS (W0 := W0) ?_ hb1 ?_ ?_⟩ <;> first | assumption | omega)
      | ((try go_split_ands); refine ⟨keepA (W0 := W0) ?_ _, cellA (W0 := W0) ?_ _ ?_ ?_, cellA (W0 := W0) ?_ _ ?_ ?_, cellA (W0 := W0) ?_ _ ?_ ?_, cellA (W0 := W0) ?_ _ ?_ ?_⟩ <;> first | assumption | omega)
      | ((try go_split_ands); refine ⟨keepAd (W0 := W0) ?_ _, cellAd (W0 := W0) ?_ _ ?_ ?_, cellAd (W0 := W0) ?_ _ ?_ ?_, cellAd (W0 := W0) ?_ _ ?_ ?_, cellAd (W0 := W0) ?_ _ ?_ ?_⟩ <;> first | assumption | omega | exact Below.refl _ _)
      | ((try go_split_ands); refine ⟨keep2 (W0 := W0) ?_ ?_ _ _, cell2 (W0 := W0) ?_ _ _ ?_ ?_, cell2 (W0 := W0) ?_ _ _ ?_ ?_, cell2 (W0 := W0) ?_ _ _ ?_ ?_, cell2 (W0 := W0) ?_ _ _ ?_ ?_⟩ <;> first | assumption | omega | exact Nat.le_refl _)
      | ((try go_split_ands); refine ⟨keepZ (W0 := W0) ?_ ?_ _, cellZ (W0 := W0) ?_ _ ?_ ?_, cellZ (W0 := W0) ?_ _ ?_ ?_, cellZ (W0 := W0) ?_ _ ?_ ?_, cellZ (W0 := W0) ?_ _ ?_ ?_⟩ <;> first | assumption | omega | exact Nat.le_refl _ | exact ⟨_, by assumption⟩))
    (first | (go_at_call 17; (with_reducible refine (H1.out _).mono ?_); rintro e w1 ⟨rfl, hb1⟩; (try go_split_ands); have hge : W0.heap.size ≤ w1.heap.size := (by first | (refine (keepS (W0 := W0) ?_ hb1).size; assumption) | exact (hb1.size : W0.heap.size ≤ w1.heap.size)); (try have hrow := row_call hb1 hrow); (try have hrow := row_new hb1); (try have hrow := row_newd hb1); have hl1 := lt_below hb1; obtain ⟨hc1, hf1⟩ := bcell hb1; (try (have hrc := row_cellA hrow; clear hc1 hf1)); (try have hrf := row_frozA hrow)) | (go_at_call 50; (with_reducible refine (H2.out _).mono ?_); rintro e w1 ⟨rfl, hb1⟩; (try go_split_ands); have hge : W0.heap.size ≤ w1.heap.size := (by first | (refine (keepS (W0 := W0) ?_ hb1).size; assumption) | exact (hb1.size : W0.heap.size ≤ w1.heap.size)); (try have hrow := row_call hb1 hrow); (try have hrow := row_new hb1); (try have hrow := row_newd hb1); have hl1 := lt_below hb1; obtain ⟨hc1, hf1⟩ := bcell hb1; (try (have hrc := row_cellA hrow; clear hc1 hf1)); (try have hrf := row_frozA hrow)) | (go_at_call 49; refine (H3.out _ _ (by simp [go_sem]) (by simp [go_sem])).mono ?_; rintro e w1 ⟨rfl, hb1⟩; (try go_split_ands); have hge : W0.heap.size ≤ w1.heap.size := (by first | (refine (keepS (W0 := W0) ?_ hb1).size; assumption) | exact (hb1.size : W0.heap.size ≤ w1.heap.size)); (try have hrow := row_call hb1 hrow); (try have hrow := row_new hb1); (try have hrow := row_newd hb1); have hl1 := lt_below hb1; obtain ⟨hc1, hf1⟩ := bcell hb1; (try (have hrc := row_cellA hrow; clear hc1 hf1)); (try have hrf := row_frozA hrow)))
      all_goals (try go_split_ands)
      all_goals (go_wp2_with fail; go_meet; refine ⟨rfl, ?_⟩)
      all_goals first | assumption | exact heap_alloc_new _ _ | exact row_set (by assumption) _ _
    case rest =>
      obtain ⟨rfl, hB⟩ := hcut
      obtain ⟨V1, rfl⟩ : ∃ V, V = wc := ⟨_, rfl⟩
      clear A1_0 A1_1 zA1 D1_0 D1_1 zD1 Z1_0 Z1_1 Z1_f0 Z1_f1 zZ1
      replace A1 := Lib.hid (row_call hB A1.out)
      replace D1 := Lib.hid (row_call hB D1.out)
      replace Z1 := Lib.hid (row_call hB Z1.out)
      have B1 := Lib.hid (HB0.out.trans (hB.mono HB0.out.size))
      clear hB
      have A1_0 : V1.cell? ⟨w.heap.size, 0, none⟩ = some (.int .i64 s) := cell_of_row _ _ _ _ _ _ A1.out
      have A1_1 : V1.cell? ⟨w.heap.size, 1, none⟩ = some (.int .i64 n) := cell_of_row _ _ _ _ _ _ A1.out
      have zA1 := lt_of_heap A1.out
      have D1_0 : V1.cell? ⟨w.heap.size + 1, 0, none⟩ = some (.int .i64 d) := cell_of_row _ _ _ _ _ _ D1.out
      have D1_1 : V1.cell? ⟨w.heap.size + 1, 1, none⟩ = some (.int .i64 m) := cell_of_row _ _ _ _ _ _ D1.out
      have zD1 := lt_of_heap D1.out
      have Z1_0 : V1.cell? ⟨w.heap.size + 1 + 1, 0, none⟩ = some (.int .i64 0) := cell_of_row _ _ _ _ _ _ Z1.out
      have Z1_1 : V1.cell? ⟨w.heap.size + 1 + 1, 1, none⟩ = some (.int .i64 0) := cell_of_row _ _ _ _ _ _ Z1.out
      have Z1_f0 : V1.frozen? ⟨w.heap.size + 1 + 1, 0, none⟩ = false := (by simp [World.frozen?, Z1.out])
      have Z1_f1 : V1.frozen? ⟨w.heap.size + 1 + 1, 1, none⟩ = false := (by simp [World.frozen?, Z1.out])
      have zZ1 := lt_of_heap Z1.out
      go_wp2
      refine bodyPost_ret (v := .tuple #[.agg #[.int .i64 0, .int .i64 0], .int .i64 E]) (by simp [results, Try.results20, go_sem, zZ1, Z1_0, Z1_1]) rfl ⟨rfl, ?_⟩
      exact keep2 B1.out (by omega) _ _
end Go.Proofs.Ytlpbkdihjpceoaa
