/- Several texts in one: CtG, CtH. -/
import Derived.Test.YtaoljjhhbmblhaaDoorZCt2
import Derived.Test.YtaoljjhhbmblhaaDoorZDur1
namespace Go.Proofs.YtaoljjhhbmblhaaDoor
set_option linter.unusedVariables false
set_option linter.unusedSimpArgs false
open Go.ChangeShapes Go.WideShapes Go.ChangeAt Go.RowKit
set_option maxHeartbeats 1600000 in
set_option maxRecDepth 100000 in
theorem ptSecs_any (y m d h i s n : Int) (w : World) (hM : TB w) : Calls Tryd.prog 7 #[.agg #[.int .i64 y, .int .i64 m, .int .i64 d, .int .i64 h, .int .i64 i, .int .i64 s, .int .i64 n]] w fun e w' => e = .returned (.tuple #[.int .i64 (seT y m d h i s n), .int .i64 (ckT y m d h i s n)]) ∧ Below w.heap.size w w' := by
  have X1 := pRead_any y m d h i s n
  by_cases hc : ckT y m d h i s n = 0
  · obtain ⟨ok, _, hy, hm, hd⟩ := of_ckT hc
    have b := dn_bd (y := y) (m := m) (d := d) (by omega) hm hd
    have b2 := scK_bd ok
    have n1 : 0 ≤ n ∧ n < 1000000000 := by unfold okK at ok; omega
    have X2 := pRSecs_any (dnI y m d) (scK h i s * 1000000000 + n) (by omega) (by omega) (by omega) (by omega)
    rw [show dnI y m d * 86400 + (scK h i s * 1000000000 + n) / 1000000000 = nuT y m d h i s by unfold nuT; omega] at X2
    rw [(rd_ok hc).1, (rd_ok hc).2, hc] at X1
    rw [seT_ok hc, hc]
    have H1 := Lib.hid X1
    have H2 := Lib.hid X2
    clear X1 X2 hc ok hy hm hd b b2 n1
    generalize nuT y m d h i s = S at *
    generalize dnI y m d = D at *
    generalize scK h i s * 1000000000 + n = N at *
    replace hM := Lib.hid hM
    go_enter Tryd.func7, Tryd.ntmps7
    go_wp2_with fail
    
    refine (H1.out _ (by first | exact tb_keep hM ((Below.refl w.heap.size w).alloc (Nat.le_refl _) _))).mono ?_
    rintro e V1 ⟨rfl, hb1⟩
    have B1 := Lib.hid (((Below.refl w.heap.size w).alloc (Nat.le_refl _) _).trans (hb1.mono (by first | assumption | (simp <;> omega) | (simp; done))))
    have A1 := Lib.hid (row_call hb1 (heap_alloc_new _ _))
    clear hb1
    have A1_0 : V1.cell? ⟨w.heap.size, 0, none⟩ = some (.int .i64 y) := cell_of_row _ _ _ _ _ _ A1.out
    have A1_1 : V1.cell? ⟨w.heap.size, 1, none⟩ = some (.int .i64 m) := cell_of_row _ _ _ _ _ _ A1.out
    have A1_2 : V1.cell? ⟨w.heap.size, 2, none⟩ = some (.int .i64 d) := cell_of_row _ _ _ _ _ _ A1.out
    have A1_3 : V1.cell? ⟨w.heap.size, 3, none⟩ = some (.int .i64 h) := cell_of_row _ _ _ _ _ _ A1.out
    have A1_4 : V1.cell? ⟨w.heap.size, 4, none⟩ = some (.int .i64 i) := cell_of_row _ _ _ _ _ _ A1.out
    have A1_5 : V1.cell? ⟨w.heap.size, 5, none⟩ = some (.int .i64 s) := cell_of_row _ _ _ _ _ _ A1.out
    have A1_6 : V1.cell? ⟨w.heap.size, 6, none⟩ = some (.int .i64 n) := cell_of_row _ _ _ _ _ _ A1.out
    have zA1 := lt_of_heap A1.out
    go_simp
    go_wp2_with fail
    refine (H2.out _).mono ?_
    rintro e V2 ⟨rfl, hb2⟩
    clear A1_0 A1_1 A1_2 A1_3 A1_4 A1_5 A1_6 zA1
    have nA1R1 := Lib.hid (lt_of_heap A1.out)
    have B2 := Lib.hid (((B1.out).alloc (B1.out.size) _).trans (hb2.mono (by have := B1.out.size; first | assumption | (simp <;> omega) | (simp; done))))
    replace A1 := Lib.hid (row_call hb2 (row_alloc A1.out _))
    have R1 := Lib.hid (row_call hb2 (heap_alloc_new _ _))
    clear hb2
    have A1_0 : V2.cell? ⟨w.heap.size, 0, none⟩ = some (.int .i64 y) := cell_of_row _ _ _ _ _ _ A1.out
    have A1_1 : V2.cell? ⟨w.heap.size, 1, none⟩ = some (.int .i64 m) := cell_of_row _ _ _ _ _ _ A1.out
    have A1_2 : V2.cell? ⟨w.heap.size, 2, none⟩ = some (.int .i64 d) := cell_of_row _ _ _ _ _ _ A1.out
    have A1_3 : V2.cell? ⟨w.heap.size, 3, none⟩ = some (.int .i64 h) := cell_of_row _ _ _ _ _ _ A1.out
    have A1_4 : V2.cell? ⟨w.heap.size, 4, none⟩ = some (.int .i64 i) := cell_of_row _ _ _ _ _ _ A1.out
    have A1_5 : V2.cell? ⟨w.heap.size, 5, none⟩ = some (.int .i64 s) := cell_of_row _ _ _ _ _ _ A1.out
    have A1_6 : V2.cell? ⟨w.heap.size, 6, none⟩ = some (.int .i64 n) := cell_of_row _ _ _ _ _ _ A1.out
    have R1_0 : V2.cell? ⟨V1.heap.size, 0, none⟩ = some (.int .i64 D) := cell_of_row _ _ _ _ _ _ R1.out
    have R1_1 : V2.cell? ⟨V1.heap.size, 1, none⟩ = some (.int .i64 N) := cell_of_row _ _ _ _ _ _ R1.out
    have zA1 := lt_of_heap A1.out
    have zR1 := lt_of_heap R1.out
    go_simp
    go_wp2
    go_ret2
    exact ⟨rfl, B2.out⟩
  · rw [(rd_no hc).1, (rd_no hc).2] at X1
    rw [seT_no hc]
    have H1 := Lib.hid X1
    clear X1
    generalize ckT y m d h i s n = E at *
    have f1 : (E != 0) = true := by rw [bne_iff_ne]; exact hc
    replace hM := Lib.hid hM
    go_enter Tryd.func7, Tryd.ntmps7
    go_wp2_with fail
    
    refine (H1.out _ (by first | exact tb_keep hM ((Below.refl w.heap.size w).alloc (Nat.le_refl _) _))).mono ?_
    rintro e V1 ⟨rfl, hb1⟩
    have B1 := Lib.hid (((Below.refl w.heap.size w).alloc (Nat.le_refl _) _).trans (hb1.mono (by first | assumption | (simp <;> omega) | (simp; done))))
    have A1 := Lib.hid (row_call hb1 (heap_alloc_new _ _))
    clear hb1
    have A1_0 : V1.cell? ⟨w.heap.size, 0, none⟩ = some (.int .i64 y) := cell_of_row _ _ _ _ _ _ A1.out
    have A1_1 : V1.cell? ⟨w.heap.size, 1, none⟩ = some (.int .i64 m) := cell_of_row _ _ _ _ _ _ A1.out
    have A1_2 : V1.cell? ⟨w.heap.size, 2, none⟩ = some (.int .i64 d) := cell_of_row _ _ _ _ _ _ A1.out
    have A1_3 : V1.cell? ⟨w.heap.size, 3, none⟩ = some (.int .i64 h) := cell_of_row _ _ _ _ _ _ A1.out
    have A1_4 : V1.cell? ⟨w.heap.size, 4, none⟩ = some (.int .i64 i) := cell_of_row _ _ _ _ _ _ A1.out
    have A1_5 : V1.cell? ⟨w.heap.size, 5, none⟩ = some (.int .i64 s) := cell_of_row _ _ _ _ _ _ A1.out
    have A1_6 : V1.cell? ⟨w.heap.size, 6, none⟩ = some (.int .i64 n) := cell_of_row _ _ _ _ _ _ A1.out
    have zA1 := lt_of_heap A1.out
    go_simp
    go_wp2
    go_ret2
    exact ⟨rfl, by first | exact B1.out | exact B1.out.alloc B1.out.size _⟩
theorem ckD_pos (c k : Int) : 0 ≤ ckD c k ∧ (ckD c k = 0 ∨ 5 ≤ ckD c k) := by
  unfold ckD; repeat' split
  all_goals omega
theorem ct_err (y m d h i s n c k : Int) : fsI (ckT y m d h i s n) (if ckK h i s n = 0 then ckD c k else ckK h i s n) = fsI (ckT y m d h i s n) (ckD c k) := by
  by_cases q : ckK h i s n = 0
  · rw [if_pos q]
  · rw [if_neg q, ckT_no q]
    have a := ckD_pos c k
    rcases ckK_two h i s n with e | e
    · exact absurd e q
    · rw [e]; unfold fsI; repeat' split
      all_goals omega
set_option maxHeartbeats 3200000 in
set_option maxRecDepth 100000 in
theorem ptAdd_no (y m d h i s n c k T0 T1 T2 T3 J F E : Int) (hf : fsI (ckT y m d h i s n) F = E) (hE : E ≠ 0) (hF : 0 ≤ F)
    (H2 : Hid (∀ w, TB w → Calls Tryd.prog 30 #[.agg #[.int .i64 h, .int .i64 i, .int .i64 s, .int .i64 n], .agg #[.int .i64 c, .int .i64 k]] w fun e w' => e = .returned (.tuple #[.agg #[.int .i64 T0, .int .i64 T1, .int .i64 T2, .int .i64 T3], .int .i64 J, .int .i64 F]) ∧ Below w.heap.size w w')) (w : World) (hM : TB w) :
    Calls Tryd.prog 14 #[.agg #[.int .i64 y, .int .i64 m, .int .i64 d, .int .i64 h, .int .i64 i, .int .i64 s, .int .i64 n], .agg #[.int .i64 c, .int .i64 k]] w fun e w' => e = .returned (.tuple #[.agg #[.int .i64 0, .int .i64 0, .int .i64 0, .int .i64 0, .int .i64 0, .int .i64 0, .int .i64 0], .int .i64 E]) ∧ Below w.heap.size w w' := by
  have H1 := Lib.hid (pRead_any y m d h i s n)
  have X3 := fun w => pLesser_any (ckT y m d h i s n) F w (ckT_pos y m d h i s n) hF
  rw [hf] at X3
  have H3 := Lib.hid X3
  clear X3 hf hF
  generalize ckT y m d h i s n = C at *
  generalize rdD y m d h i s n = D at *
  generalize rdN y m d h i s n = N at *
  have f1 : (E != 0) = true := by rw [bne_iff_ne]; exact hE
  replace hM := Lib.hid hM
  go_enter Tryd.func14, Tryd.ntmps14
  refine wp_shut ?_
  go_wp2_with fail
  
  refine (H1.out _ (by first | exact tb_keep hM ((((Below.refl w.heap.size w).alloc (Nat.le_refl _) _).alloc (by simp <;> omega) _).alloc (by simp <;> omega) _))).mono ?_
  rintro e V1 ⟨rfl, hb1⟩
  have B1 := Lib.hid (((((Below.refl w.heap.size w).alloc (Nat.le_refl _) _).alloc (by simp <;> omega) _).alloc (by simp <;> omega) _).trans (hb1.mono (by first | assumption | (simp <;> omega) | (simp; done))))
  have A1 := Lib.hid (row_call hb1 (row_alloc (row_alloc (heap_alloc_new _ _) _) _))
  have D1 := Lib.hid (row_at (k' := w.heap.size + 1) (by simp) (row_call hb1 (row_alloc (heap_alloc_new _ _) _)))
  have Z1 := Lib.hid (row_at (k' := w.heap.size + 1 + 1) (by simp) (row_call hb1 (heap_alloc_new _ _)))
  clear hb1
  have A1_0 : V1.cell? ⟨w.heap.size, 0, none⟩ = some (.int .i64 y) := cell_of_row _ _ _ _ _ _ A1.out
  have A1_1 : V1.cell? ⟨w.heap.size, 1, none⟩ = some (.int .i64 m) := cell_of_row _ _ _ _ _ _ A1.out
  have A1_2 : V1.cell? ⟨w.heap.size, 2, none⟩ = some (.int .i64 d) := cell_of_row _ _ _ _ _ _ A1.out
  have A1_3 : V1.cell? ⟨w.heap.size, 3, none⟩ = some (.int .i64 h) := cell_of_row _ _ _ _ _ _ A1.out
  have A1_4 : V1.cell? ⟨w.heap.size, 4, none⟩ = some (.int .i64 i) := cell_of_row _ _ _ _ _ _ A1.out
  have A1_5 : V1.cell? ⟨w.heap.size, 5, none⟩ = some (.int .i64 s) := cell_of_row _ _ _ _ _ _ A1.out
  have A1_6 : V1.cell? ⟨w.heap.size, 6, none⟩ = some (.int .i64 n) := cell_of_row _ _ _ _ _ _ A1.out
  have D1_0 : V1.cell? ⟨w.heap.size + 1, 0, none⟩ = some (.int .i64 c) := cell_of_row _ _ _ _ _ _ D1.out
  have D1_1 : V1.cell? ⟨w.heap.size + 1, 1, none⟩ = some (.int .i64 k) := cell_of_row _ _ _ _ _ _ D1.out
  have Z1_0 : V1.cell? ⟨w.heap.size + 1 + 1, 0, none⟩ = some (.int .i64 0) := cell_of_row _ _ _ _ _ _ Z1.out
  have Z1_1 : V1.cell? ⟨w.heap.size + 1 + 1, 1, none⟩ = some (.int .i64 0) := cell_of_row _ _ _ _ _ _ Z1.out
  have Z1_2 : V1.cell? ⟨w.heap.size + 1 + 1, 2, none⟩ = some (.int .i64 0) := cell_of_row _ _ _ _ _ _ Z1.out
  have Z1_3 : V1.cell? ⟨w.heap.size + 1 + 1, 3, none⟩ = some (.int .i64 0) := cell_of_row _ _ _ _ _ _ Z1.out
  have Z1_4 : V1.cell? ⟨w.heap.size + 1 + 1, 4, none⟩ = some (.int .i64 0) := cell_of_row _ _ _ _ _ _ Z1.out
  have Z1_5 : V1.cell? ⟨w.heap.size + 1 + 1, 5, none⟩ = some (.int .i64 0) := cell_of_row _ _ _ _ _ _ Z1.out
  have Z1_6 : V1.cell? ⟨w.heap.size + 1 + 1, 6, none⟩ = some (.int .i64 0) := cell_of_row _ _ _ _ _ _ Z1.out
  have Z1_f0 : V1.frozen? ⟨w.heap.size + 1 + 1, 0, none⟩ = false := by simp [World.frozen?, Z1.out]
  have Z1_f1 : V1.frozen? ⟨w.heap.size + 1 + 1, 1, none⟩ = false := by simp [World.frozen?, Z1.out]
  have Z1_f2 : V1.frozen? ⟨w.heap.size + 1 + 1, 2, none⟩ = false := by simp [World.frozen?, Z1.out]
  have Z1_f3 : V1.frozen? ⟨w.heap.size + 1 + 1, 3, none⟩ = false := by simp [World.frozen?, Z1.out]
  have Z1_f4 : V1.frozen? ⟨w.heap.size + 1 + 1, 4, none⟩ = false := by simp [World.frozen?, Z1.out]
  have Z1_f5 : V1.frozen? ⟨w.heap.size + 1 + 1, 5, none⟩ = false := by simp [World.frozen?, Z1.out]
  have Z1_f6 : V1.frozen? ⟨w.heap.size + 1 + 1, 6, none⟩ = false := by simp [World.frozen?, Z1.out]
  have zA1 := lt_of_heap A1.out
  have zD1 := lt_of_heap D1.out
  have zZ1 := lt_of_heap Z1.out
  go_simp
  go_wp2_with fail
  refine (H2.out _ (by first | exact tb_keep hM ((B1.out).alloc (B1.out.size) _))).mono ?_
  rintro e V2 ⟨rfl, hb2⟩
  clear A1_0 A1_1 A1_2 A1_3 A1_4 A1_5 A1_6 zA1 D1_0 D1_1 zD1 Z1_0 Z1_1 Z1_2 Z1_3 Z1_4 Z1_5 Z1_6 Z1_f0 Z1_f1 Z1_f2 Z1_f3 Z1_f4 Z1_f5 Z1_f6 zZ1
  have nA1R1 := Lib.hid (lt_of_heap A1.out)
  have nD1R1 := Lib.hid (lt_of_heap D1.out)
  have nZ1R1 := Lib.hid (lt_of_heap Z1.out)
  have B2 := Lib.hid (((B1.out).alloc (B1.out.size) _).trans (hb2.mono (by have := B1.out.size; first | assumption | (simp <;> omega) | (simp; done))))
  replace A1 := Lib.hid (row_call hb2 (row_alloc A1.out _))
  replace D1 := Lib.hid (row_call hb2 (row_alloc D1.out _))
  replace Z1 := Lib.hid (row_call hb2 (row_alloc Z1.out _))
  have R1 := Lib.hid (row_call hb2 (heap_alloc_new _ _))
  clear hb2
  have A1_0 : V2.cell? ⟨w.heap.size, 0, none⟩ = some (.int .i64 y) := cell_of_row _ _ _ _ _ _ A1.out
  have A1_1 : V2.cell? ⟨w.heap.size, 1, none⟩ = some (.int .i64 m) := cell_of_row _ _ _ _ _ _ A1.out
  have A1_2 : V2.cell? ⟨w.heap.size, 2, none⟩ = some (.int .i64 d) := cell_of_row _ _ _ _ _ _ A1.out
  have A1_3 : V2.cell? ⟨w.heap.size, 3, none⟩ = some (.int .i64 h) := cell_of_row _ _ _ _ _ _ A1.out
  have A1_4 : V2.cell? ⟨w.heap.size, 4, none⟩ = some (.int .i64 i) := cell_of_row _ _ _ _ _ _ A1.out
  have A1_5 : V2.cell? ⟨w.heap.size, 5, none⟩ = some (.int .i64 s) := cell_of_row _ _ _ _ _ _ A1.out
  have A1_6 : V2.cell? ⟨w.heap.size, 6, none⟩ = some (.int .i64 n) := cell_of_row _ _ _ _ _ _ A1.out
  have D1_0 : V2.cell? ⟨w.heap.size + 1, 0, none⟩ = some (.int .i64 c) := cell_of_row _ _ _ _ _ _ D1.out
  have D1_1 : V2.cell? ⟨w.heap.size + 1, 1, none⟩ = some (.int .i64 k) := cell_of_row _ _ _ _ _ _ D1.out
  have Z1_0 : V2.cell? ⟨w.heap.size + 1 + 1, 0, none⟩ = some (.int .i64 0) := cell_of_row _ _ _ _ _ _ Z1.out
  have Z1_1 : V2.cell? ⟨w.heap.size + 1 + 1, 1, none⟩ = some (.int .i64 0) := cell_of_row _ _ _ _ _ _ Z1.out
  have Z1_2 : V2.cell? ⟨w.heap.size + 1 + 1, 2, none⟩ = some (.int .i64 0) := cell_of_row _ _ _ _ _ _ Z1.out
  have Z1_3 : V2.cell? ⟨w.heap.size + 1 + 1, 3, none⟩ = some (.int .i64 0) := cell_of_row _ _ _ _ _ _ Z1.out
  have Z1_4 : V2.cell? ⟨w.heap.size + 1 + 1, 4, none⟩ = some (.int .i64 0) := cell_of_row _ _ _ _ _ _ Z1.out
  have Z1_5 : V2.cell? ⟨w.heap.size + 1 + 1, 5, none⟩ = some (.int .i64 0) := cell_of_row _ _ _ _ _ _ Z1.out
  have Z1_6 : V2.cell? ⟨w.heap.size + 1 + 1, 6, none⟩ = some (.int .i64 0) := cell_of_row _ _ _ _ _ _ Z1.out
  have Z1_f0 : V2.frozen? ⟨w.heap.size + 1 + 1, 0, none⟩ = false := by simp [World.frozen?, Z1.out]
  have Z1_f1 : V2.frozen? ⟨w.heap.size + 1 + 1, 1, none⟩ = false := by simp [World.frozen?, Z1.out]
  have Z1_f2 : V2.frozen? ⟨w.heap.size + 1 + 1, 2, none⟩ = false := by simp [World.frozen?, Z1.out]
  have Z1_f3 : V2.frozen? ⟨w.heap.size + 1 + 1, 3, none⟩ = false := by simp [World.frozen?, Z1.out]
  have Z1_f4 : V2.frozen? ⟨w.heap.size + 1 + 1, 4, none⟩ = false := by simp [World.frozen?, Z1.out]
  have Z1_f5 : V2.frozen? ⟨w.heap.size + 1 + 1, 5, none⟩ = false := by simp [World.frozen?, Z1.out]
  have Z1_f6 : V2.frozen? ⟨w.heap.size + 1 + 1, 6, none⟩ = false := by simp [World.frozen?, Z1.out]
  have R1_0 : V2.cell? ⟨V1.heap.size, 0, none⟩ = some (.int .i64 D) := cell_of_row _ _ _ _ _ _ R1.out
  have R1_1 : V2.cell? ⟨V1.heap.size, 1, none⟩ = some (.int .i64 N) := cell_of_row _ _ _ _ _ _ R1.out
  have zA1 := lt_of_heap A1.out
  have zD1 := lt_of_heap D1.out
  have zZ1 := lt_of_heap Z1.out
  have zR1 := lt_of_heap R1.out
  go_simp
  go_wp2_with fail
  refine (H3.out _).mono ?_
  rintro e V3 ⟨rfl, hb3⟩
  clear A1_0 A1_1 A1_2 A1_3 A1_4 A1_5 A1_6 zA1 D1_0 D1_1 zD1 Z1_0 Z1_1 Z1_2 Z1_3 Z1_4 Z1_5 Z1_6 Z1_f0 Z1_f1 Z1_f2 Z1_f3 Z1_f4 Z1_f5 Z1_f6 zZ1 R1_0 R1_1 zR1
  have nA1Q1 := Lib.hid (lt_of_heap A1.out)
  have nD1Q1 := Lib.hid (lt_of_heap D1.out)
  have nZ1Q1 := Lib.hid (lt_of_heap Z1.out)
  have nR1Q1 := Lib.hid (lt_of_heap R1.out)
  have B3 := Lib.hid (((B2.out).alloc (B2.out.size) _).trans (hb3.mono (by have := B2.out.size; first | assumption | (simp <;> omega) | (simp; done))))
  replace A1 := Lib.hid (row_call hb3 (row_alloc A1.out _))
  replace D1 := Lib.hid (row_call hb3 (row_alloc D1.out _))
  replace Z1 := Lib.hid (row_call hb3 (row_alloc Z1.out _))
  replace R1 := Lib.hid (row_call hb3 (row_alloc R1.out _))
  have Q1 := Lib.hid (row_call hb3 (heap_alloc_new _ _))
  clear hb3
  have A1_0 : V3.cell? ⟨w.heap.size, 0, none⟩ = some (.int .i64 y) := cell_of_row _ _ _ _ _ _ A1.out
  have A1_1 : V3.cell? ⟨w.heap.size, 1, none⟩ = some (.int .i64 m) := cell_of_row _ _ _ _ _ _ A1.out
  have A1_2 : V3.cell? ⟨w.heap.size, 2, none⟩ = some (.int .i64 d) := cell_of_row _ _ _ _ _ _ A1.out
  have A1_3 : V3.cell? ⟨w.heap.size, 3, none⟩ = some (.int .i64 h) := cell_of_row _ _ _ _ _ _ A1.out
  have A1_4 : V3.cell? ⟨w.heap.size, 4, none⟩ = some (.int .i64 i) := cell_of_row _ _ _ _ _ _ A1.out
  have A1_5 : V3.cell? ⟨w.heap.size, 5, none⟩ = some (.int .i64 s) := cell_of_row _ _ _ _ _ _ A1.out
  have A1_6 : V3.cell? ⟨w.heap.size, 6, none⟩ = some (.int .i64 n) := cell_of_row _ _ _ _ _ _ A1.out
  have D1_0 : V3.cell? ⟨w.heap.size + 1, 0, none⟩ = some (.int .i64 c) := cell_of_row _ _ _ _ _ _ D1.out
  have D1_1 : V3.cell? ⟨w.heap.size + 1, 1, none⟩ = some (.int .i64 k) := cell_of_row _ _ _ _ _ _ D1.out
  have Z1_0 : V3.cell? ⟨w.heap.size + 1 + 1, 0, none⟩ = some (.int .i64 0) := cell_of_row _ _ _ _ _ _ Z1.out
  have Z1_1 : V3.cell? ⟨w.heap.size + 1 + 1, 1, none⟩ = some (.int .i64 0) := cell_of_row _ _ _ _ _ _ Z1.out
  have Z1_2 : V3.cell? ⟨w.heap.size + 1 + 1, 2, none⟩ = some (.int .i64 0) := cell_of_row _ _ _ _ _ _ Z1.out
  have Z1_3 : V3.cell? ⟨w.heap.size + 1 + 1, 3, none⟩ = some (.int .i64 0) := cell_of_row _ _ _ _ _ _ Z1.out
  have Z1_4 : V3.cell? ⟨w.heap.size + 1 + 1, 4, none⟩ = some (.int .i64 0) := cell_of_row _ _ _ _ _ _ Z1.out
  have Z1_5 : V3.cell? ⟨w.heap.size + 1 + 1, 5, none⟩ = some (.int .i64 0) := cell_of_row _ _ _ _ _ _ Z1.out
  have Z1_6 : V3.cell? ⟨w.heap.size + 1 + 1, 6, none⟩ = some (.int .i64 0) := cell_of_row _ _ _ _ _ _ Z1.out
  have Z1_f0 : V3.frozen? ⟨w.heap.size + 1 + 1, 0, none⟩ = false := by simp [World.frozen?, Z1.out]
  have Z1_f1 : V3.frozen? ⟨w.heap.size + 1 + 1, 1, none⟩ = false := by simp [World.frozen?, Z1.out]
  have Z1_f2 : V3.frozen? ⟨w.heap.size + 1 + 1, 2, none⟩ = false := by simp [World.frozen?, Z1.out]
  have Z1_f3 : V3.frozen? ⟨w.heap.size + 1 + 1, 3, none⟩ = false := by simp [World.frozen?, Z1.out]
  have Z1_f4 : V3.frozen? ⟨w.heap.size + 1 + 1, 4, none⟩ = false := by simp [World.frozen?, Z1.out]
  have Z1_f5 : V3.frozen? ⟨w.heap.size + 1 + 1, 5, none⟩ = false := by simp [World.frozen?, Z1.out]
  have Z1_f6 : V3.frozen? ⟨w.heap.size + 1 + 1, 6, none⟩ = false := by simp [World.frozen?, Z1.out]
  have R1_0 : V3.cell? ⟨V1.heap.size, 0, none⟩ = some (.int .i64 D) := cell_of_row _ _ _ _ _ _ R1.out
  have R1_1 : V3.cell? ⟨V1.heap.size, 1, none⟩ = some (.int .i64 N) := cell_of_row _ _ _ _ _ _ R1.out
  have Q1_0 : V3.cell? ⟨V2.heap.size, 0, none⟩ = some (.int .i64 T0) := cell_of_row _ _ _ _ _ _ Q1.out
  have Q1_1 : V3.cell? ⟨V2.heap.size, 1, none⟩ = some (.int .i64 T1) := cell_of_row _ _ _ _ _ _ Q1.out
  have Q1_2 : V3.cell? ⟨V2.heap.size, 2, none⟩ = some (.int .i64 T2) := cell_of_row _ _ _ _ _ _ Q1.out
  have Q1_3 : V3.cell? ⟨V2.heap.size, 3, none⟩ = some (.int .i64 T3) := cell_of_row _ _ _ _ _ _ Q1.out
  have zA1 := lt_of_heap A1.out
  have zD1 := lt_of_heap D1.out
  have zZ1 := lt_of_heap Z1.out
  have zR1 := lt_of_heap R1.out
  have zQ1 := lt_of_heap Q1.out
  go_simp
  have rZ1 := setRow_heap V3 (w.heap.size + 1 + 1) _ #[Value.int .i64 0, Value.int .i64 0, Value.int .i64 0, Value.int .i64 0, Value.int .i64 0, Value.int .i64 0, Value.int .i64 0] _ _ Z1.out
  have rZ1_0 : (V3.setRow (w.heap.size + 1 + 1) #[Value.int .i64 0, Value.int .i64 0, Value.int .i64 0, Value.int .i64 0, Value.int .i64 0, Value.int .i64 0, Value.int .i64 0]).cell? ⟨w.heap.size + 1 + 1, 0, none⟩ = some (.int .i64 0) := cell_of_row _ _ _ _ _ _ rZ1
  have rZ1_1 : (V3.setRow (w.heap.size + 1 + 1) #[Value.int .i64 0, Value.int .i64 0, Value.int .i64 0, Value.int .i64 0, Value.int .i64 0, Value.int .i64 0, Value.int .i64 0]).cell? ⟨w.heap.size + 1 + 1, 1, none⟩ = some (.int .i64 0) := cell_of_row _ _ _ _ _ _ rZ1
  have rZ1_2 : (V3.setRow (w.heap.size + 1 + 1) #[Value.int .i64 0, Value.int .i64 0, Value.int .i64 0, Value.int .i64 0, Value.int .i64 0, Value.int .i64 0, Value.int .i64 0]).cell? ⟨w.heap.size + 1 + 1, 2, none⟩ = some (.int .i64 0) := cell_of_row _ _ _ _ _ _ rZ1
  have rZ1_3 : (V3.setRow (w.heap.size + 1 + 1) #[Value.int .i64 0, Value.int .i64 0, Value.int .i64 0, Value.int .i64 0, Value.int .i64 0, Value.int .i64 0, Value.int .i64 0]).cell? ⟨w.heap.size + 1 + 1, 3, none⟩ = some (.int .i64 0) := cell_of_row _ _ _ _ _ _ rZ1
  have rZ1_4 : (V3.setRow (w.heap.size + 1 + 1) #[Value.int .i64 0, Value.int .i64 0, Value.int .i64 0, Value.int .i64 0, Value.int .i64 0, Value.int .i64 0, Value.int .i64 0]).cell? ⟨w.heap.size + 1 + 1, 4, none⟩ = some (.int .i64 0) := cell_of_row _ _ _ _ _ _ rZ1
  have rZ1_5 : (V3.setRow (w.heap.size + 1 + 1) #[Value.int .i64 0, Value.int .i64 0, Value.int .i64 0, Value.int .i64 0, Value.int .i64 0, Value.int .i64 0, Value.int .i64 0]).cell? ⟨w.heap.size + 1 + 1, 5, none⟩ = some (.int .i64 0) := cell_of_row _ _ _ _ _ _ rZ1
  have rZ1_6 : (V3.setRow (w.heap.size + 1 + 1) #[Value.int .i64 0, Value.int .i64 0, Value.int .i64 0, Value.int .i64 0, Value.int .i64 0, Value.int .i64 0, Value.int .i64 0]).cell? ⟨w.heap.size + 1 + 1, 6, none⟩ = some (.int .i64 0) := cell_of_row _ _ _ _ _ _ rZ1
  go_wp2_with (refine wpList_store_row (by rfl) 27 _ _ (by rfl) (w.heap.size + 1 + 1) #[Value.int .i64 0, Value.int .i64 0, Value.int .i64 0, Value.int .i64 0, Value.int .i64 0, Value.int .i64 0, Value.int .i64 0] (by rfl) (by rfl) _ _ Z1.out (by kernel_rfl) (by rfl) (by simp [Value.oneCell']) ?_)
  refine shut_ret (v := .tuple #[.agg #[.int .i64 0, .int .i64 0, .int .i64 0, .int .i64 0, .int .i64 0, .int .i64 0, .int .i64 0], .int .i64 E]) (by simp [results, Tryd.results14, go_sem, rZ1_0, rZ1_1, rZ1_2, rZ1_3, rZ1_4, rZ1_5, rZ1_6]) rfl ⟨rfl, ?_⟩
  exact keepRow B3.out (by omega) _
set_option maxHeartbeats 3200000 in
set_option maxRecDepth 100000 in
theorem ptAdd_out (y m d h i s n c k T0 T1 T2 T3 J D : Int) (hc : ckT y m d h i s n = 0) (hD : dnI y m d + J = D) (hJ : in64 D)
    (H2 : Hid (∀ w, TB w → Calls Tryd.prog 30 #[.agg #[.int .i64 h, .int .i64 i, .int .i64 s, .int .i64 n], .agg #[.int .i64 c, .int .i64 k]] w fun e w' => e = .returned (.tuple #[.agg #[.int .i64 T0, .int .i64 T1, .int .i64 T2, .int .i64 T3], .int .i64 J, .int .i64 0]) ∧ Below w.heap.size w w'))
    (ho : D < -4371587 ∨ 2932896 < D) (w : World) (hM : TB w) :
    Calls Tryd.prog 14 #[.agg #[.int .i64 y, .int .i64 m, .int .i64 d, .int .i64 h, .int .i64 i, .int .i64 s, .int .i64 n], .agg #[.int .i64 c, .int .i64 k]] w fun e w' => e = .returned (.tuple #[.agg #[.int .i64 0, .int .i64 0, .int .i64 0, .int .i64 0, .int .i64 0, .int .i64 0, .int .i64 0], .int .i64 8]) ∧ Below w.heap.size w w' := by
  have X1 := pRead_any y m d h i s n
  have X3 := fun w => pLesser_any 0 0 w (by decide) (by decide)
  have X4 := pLater_any (dnI y m d) J (by rw [hD]; exact hJ)
  rw [hD] at X4
  rw [show fsI 0 0 = 0 by unfold fsI; rfl] at X3
  rw [(rd_ok hc).1, (rd_ok hc).2, hc] at X1
  have H1 := Lib.hid X1
  have H3 := Lib.hid X3
  have H4 := Lib.hid X4
  have H5 := Lib.hid (pDate_is (n := D) (Y := 0) (M := 0) (D := 0) (E := 8) (Or.inl ⟨ho, rfl, rfl, rfl, rfl⟩))
  clear X1 X3 X4 hc hJ ho hD
  generalize dnI y m d = D0 at *
  generalize scK h i s * 1000000000 + n = N at *
  replace hM := Lib.hid hM
  go_enter Tryd.func14, Tryd.ntmps14
  refine wp_shut ?_
  go_wp2_with fail
  
  refine (H1.out _ (by first | exact tb_keep hM ((((Below.refl w.heap.size w).alloc (Nat.le_refl _) _).alloc (by simp <;> omega) _).alloc (by simp <;> omega) _))).mono ?_
  rintro e V1 ⟨rfl, hb1⟩
  have B1 := Lib.hid (((((Below.refl w.heap.size w).alloc (Nat.le_refl _) _).alloc (by simp <;> omega) _).alloc (by simp <;> omega) _).trans (hb1.mono (by first | assumption | (simp <;> omega) | (simp; done))))
  have A1 := Lib.hid (row_call hb1 (row_alloc (row_alloc (heap_alloc_new _ _) _) _))
  have D1 := Lib.hid (row_at (k' := w.heap.size + 1) (by simp) (row_call hb1 (row_alloc (heap_alloc_new _ _) _)))
  have Z1 := Lib.hid (row_at (k' := w.heap.size + 1 + 1) (by simp) (row_call hb1 (heap_alloc_new _ _)))
  clear hb1
  have A1_0 : V1.cell? ⟨w.heap.size, 0, none⟩ = some (.int .i64 y) := cell_of_row _ _ _ _ _ _ A1.out
  have A1_1 : V1.cell? ⟨w.heap.size, 1, none⟩ = some (.int .i64 m) := cell_of_row _ _ _ _ _ _ A1.out
  have A1_2 : V1.cell? ⟨w.heap.size, 2, none⟩ = some (.int .i64 d) := cell_of_row _ _ _ _ _ _ A1.out
  have A1_3 : V1.cell? ⟨w.heap.size, 3, none⟩ = some (.int .i64 h) := cell_of_row _ _ _ _ _ _ A1.out
  have A1_4 : V1.cell? ⟨w.heap.size, 4, none⟩ = some (.int .i64 i) := cell_of_row _ _ _ _ _ _ A1.out
  have A1_5 : V1.cell? ⟨w.heap.size, 5, none⟩ = some (.int .i64 s) := cell_of_row _ _ _ _ _ _ A1.out
  have A1_6 : V1.cell? ⟨w.heap.size, 6, none⟩ = some (.int .i64 n) := cell_of_row _ _ _ _ _ _ A1.out
  have D1_0 : V1.cell? ⟨w.heap.size + 1, 0, none⟩ = some (.int .i64 c) := cell_of_row _ _ _ _ _ _ D1.out
  have D1_1 : V1.cell? ⟨w.heap.size + 1, 1, none⟩ = some (.int .i64 k) := cell_of_row _ _ _ _ _ _ D1.out
  have Z1_0 : V1.cell? ⟨w.heap.size + 1 + 1, 0, none⟩ = some (.int .i64 0) := cell_of_row _ _ _ _ _ _ Z1.out
  have Z1_1 : V1.cell? ⟨w.heap.size + 1 + 1, 1, none⟩ = some (.int .i64 0) := cell_of_row _ _ _ _ _ _ Z1.out
  have Z1_2 : V1.cell? ⟨w.heap.size + 1 + 1, 2, none⟩ = some (.int .i64 0) := cell_of_row _ _ _ _ _ _ Z1.out
  have Z1_3 : V1.cell? ⟨w.heap.size + 1 + 1, 3, none⟩ = some (.int .i64 0) := cell_of_row _ _ _ _ _ _ Z1.out
  have Z1_4 : V1.cell? ⟨w.heap.size + 1 + 1, 4, none⟩ = some (.int .i64 0) := cell_of_row _ _ _ _ _ _ Z1.out
  have Z1_5 : V1.cell? ⟨w.heap.size + 1 + 1, 5, none⟩ = some (.int .i64 0) := cell_of_row _ _ _ _ _ _ Z1.out
  have Z1_6 : V1.cell? ⟨w.heap.size + 1 + 1, 6, none⟩ = some (.int .i64 0) := cell_of_row _ _ _ _ _ _ Z1.out
  have Z1_f0 : V1.frozen? ⟨w.heap.size + 1 + 1, 0, none⟩ = false := by simp [World.frozen?, Z1.out]
  have Z1_f1 : V1.frozen? ⟨w.heap.size + 1 + 1, 1, none⟩ = false := by simp [World.frozen?, Z1.out]
  have Z1_f2 : V1.frozen? ⟨w.heap.size + 1 + 1, 2, none⟩ = false := by simp [World.frozen?, Z1.out]
  have Z1_f3 : V1.frozen? ⟨w.heap.size + 1 + 1, 3, none⟩ = false := by simp [World.frozen?, Z1.out]
  have Z1_f4 : V1.frozen? ⟨w.heap.size + 1 + 1, 4, none⟩ = false := by simp [World.frozen?, Z1.out]
  have Z1_f5 : V1.frozen? ⟨w.heap.size + 1 + 1, 5, none⟩ = false := by simp [World.frozen?, Z1.out]
  have Z1_f6 : V1.frozen? ⟨w.heap.size + 1 + 1, 6, none⟩ = false := by simp [World.frozen?, Z1.out]
  have zA1 := lt_of_heap A1.out
  have zD1 := lt_of_heap D1.out
  have zZ1 := lt_of_heap Z1.out
  go_simp
  go_wp2_with fail
  refine (H2.out _ (by first | exact tb_keep hM ((B1.out).alloc (B1.out.size) _))).mono ?_
  rintro e V2 ⟨rfl, hb2⟩
  clear A1_0 A1_1 A1_2 A1_3 A1_4 A1_5 A1_6 zA1 D1_0 D1_1 zD1 Z1_0 Z1_1 Z1_2 Z1_3 Z1_4 Z1_5 Z1_6 Z1_f0 Z1_f1 Z1_f2 Z1_f3 Z1_f4 Z1_f5 Z1_f6 zZ1
  have nA1R1 := Lib.hid (lt_of_heap A1.out)
  have nD1R1 := Lib.hid (lt_of_heap D1.out)
  have nZ1R1 := Lib.hid (lt_of_heap Z1.out)
  have B2 := Lib.hid (((B1.out).alloc (B1.out.size) _).trans (hb2.mono (by have := B1.out.size; first | assumption | (simp <;> omega) | (simp; done))))
  replace A1 := Lib.hid (row_call hb2 (row_alloc A1.out _))
  replace D1 := Lib.hid (row_call hb2 (row_alloc D1.out _))
  replace Z1 := Lib.hid (row_call hb2 (row_alloc Z1.out _))
  have R1 := Lib.hid (row_call hb2 (heap_alloc_new _ _))
  clear hb2
  have A1_0 : V2.cell? ⟨w.heap.size, 0, none⟩ = some (.int .i64 y) := cell_of_row _ _ _ _ _ _ A1.out
  have A1_1 : V2.cell? ⟨w.heap.size, 1, none⟩ = some (.int .i64 m) := cell_of_row _ _ _ _ _ _ A1.out
  have A1_2 : V2.cell? ⟨w.heap.size, 2, none⟩ = some (.int .i64 d) := cell_of_row _ _ _ _ _ _ A1.out
  have A1_3 : V2.cell? ⟨w.heap.size, 3, none⟩ = some (.int .i64 h) := cell_of_row _ _ _ _ _ _ A1.out
  have A1_4 : V2.cell? ⟨w.heap.size, 4, none⟩ = some (.int .i64 i) := cell_of_row _ _ _ _ _ _ A1.out
  have A1_5 : V2.cell? ⟨w.heap.size, 5, none⟩ = some (.int .i64 s) := cell_of_row _ _ _ _ _ _ A1.out
  have A1_6 : V2.cell? ⟨w.heap.size, 6, none⟩ = some (.int .i64 n) := cell_of_row _ _ _ _ _ _ A1.out
  have D1_0 : V2.cell? ⟨w.heap.size + 1, 0, none⟩ = some (.int .i64 c) := cell_of_row _ _ _ _ _ _ D1.out
  have D1_1 : V2.cell? ⟨w.heap.size + 1, 1, none⟩ = some (.int .i64 k) := cell_of_row _ _ _ _ _ _ D1.out
  have Z1_0 : V2.cell? ⟨w.heap.size + 1 + 1, 0, none⟩ = some (.int .i64 0) := cell_of_row _ _ _ _ _ _ Z1.out
  have Z1_1 : V2.cell? ⟨w.heap.size + 1 + 1, 1, none⟩ = some (.int .i64 0) := cell_of_row _ _ _ _ _ _ Z1.out
  have Z1_2 : V2.cell? ⟨w.heap.size + 1 + 1, 2, none⟩ = some (.int .i64 0) := cell_of_row _ _ _ _ _ _ Z1.out
  have Z1_3 : V2.cell? ⟨w.heap.size + 1 + 1, 3, none⟩ = some (.int .i64 0) := cell_of_row _ _ _ _ _ _ Z1.out
  have Z1_4 : V2.cell? ⟨w.heap.size + 1 + 1, 4, none⟩ = some (.int .i64 0) := cell_of_row _ _ _ _ _ _ Z1.out
  have Z1_5 : V2.cell? ⟨w.heap.size + 1 + 1, 5, none⟩ = some (.int .i64 0) := cell_of_row _ _ _ _ _ _ Z1.out
  have Z1_6 : V2.cell? ⟨w.heap.size + 1 + 1, 6, none⟩ = some (.int .i64 0) := cell_of_row _ _ _ _ _ _ Z1.out
  have Z1_f0 : V2.frozen? ⟨w.heap.size + 1 + 1, 0, none⟩ = false := by simp [World.frozen?, Z1.out]
  have Z1_f1 : V2.frozen? ⟨w.heap.size + 1 + 1, 1, none⟩ = false := by simp [World.frozen?, Z1.out]
  have Z1_f2 : V2.frozen? ⟨w.heap.size + 1 + 1, 2, none⟩ = false := by simp [World.frozen?, Z1.out]
  have Z1_f3 : V2.frozen? ⟨w.heap.size + 1 + 1, 3, none⟩ = false := by simp [World.frozen?, Z1.out]
  have Z1_f4 : V2.frozen? ⟨w.heap.size + 1 + 1, 4, none⟩ = false := by simp [World.frozen?, Z1.out]
  have Z1_f5 : V2.frozen? ⟨w.heap.size + 1 + 1, 5, none⟩ = false := by simp [World.frozen?, Z1.out]
  have Z1_f6 : V2.frozen? ⟨w.heap.size + 1 + 1, 6, none⟩ = false := by simp [World.frozen?, Z1.out]
  have R1_0 : V2.cell? ⟨V1.heap.size, 0, none⟩ = some (.int .i64 D0) := cell_of_row _ _ _ _ _ _ R1.out
  have R1_1 : V2.cell? ⟨V1.heap.size, 1, none⟩ = some (.int .i64 N) := cell_of_row _ _ _ _ _ _ R1.out
  have zA1 := lt_of_heap A1.out
  have zD1 := lt_of_heap D1.out
  have zZ1 := lt_of_heap Z1.out
  have zR1 := lt_of_heap R1.out
  go_simp
  go_wp2_with fail
  refine (H3.out _).mono ?_
  rintro e V3 ⟨rfl, hb3⟩
  clear A1_0 A1_1 A1_2 A1_3 A1_4 A1_5 A1_6 zA1 D1_0 D1_1 zD1 Z1_0 Z1_1 Z1_2 Z1_3 Z1_4 Z1_5 Z1_6 Z1_f0 Z1_f1 Z1_f2 Z1_f3 Z1_f4 Z1_f5 Z1_f6 zZ1 R1_0 R1_1 zR1
  have nA1Q1 := Lib.hid (lt_of_heap A1.out)
  have nD1Q1 := Lib.hid (lt_of_heap D1.out)
  have nZ1Q1 := Lib.hid (lt_of_heap Z1.out)
  have nR1Q1 := Lib.hid (lt_of_heap R1.out)
  have B3 := Lib.hid (((B2.out).alloc (B2.out.size) _).trans (hb3.mono (by have := B2.out.size; first | assumption | (simp <;> omega) | (simp; done))))
  replace A1 := Lib.hid (row_call hb3 (row_alloc A1.out _))
  replace D1 := Lib.hid (row_call hb3 (row_alloc D1.out _))
  replace Z1 := Lib.hid (row_call hb3 (row_alloc Z1.out _))
  replace R1 := Lib.hid (row_call hb3 (row_alloc R1.out _))
  have Q1 := Lib.hid (row_call hb3 (heap_alloc_new _ _))
  clear hb3
  have A1_0 : V3.cell? ⟨w.heap.size, 0, none⟩ = some (.int .i64 y) := cell_of_row _ _ _ _ _ _ A1.out
  have A1_1 : V3.cell? ⟨w.heap.size, 1, none⟩ = some (.int .i64 m) := cell_of_row _ _ _ _ _ _ A1.out
  have A1_2 : V3.cell? ⟨w.heap.size, 2, none⟩ = some (.int .i64 d) := cell_of_row _ _ _ _ _ _ A1.out
  have A1_3 : V3.cell? ⟨w.heap.size, 3, none⟩ = some (.int .i64 h) := cell_of_row _ _ _ _ _ _ A1.out
  have A1_4 : V3.cell? ⟨w.heap.size, 4, none⟩ = some (.int .i64 i) := cell_of_row _ _ _ _ _ _ A1.out
  have A1_5 : V3.cell? ⟨w.heap.size, 5, none⟩ = some (.int .i64 s) := cell_of_row _ _ _ _ _ _ A1.out
  have A1_6 : V3.cell? ⟨w.heap.size, 6, none⟩ = some (.int .i64 n) := cell_of_row _ _ _ _ _ _ A1.out
  have D1_0 : V3.cell? ⟨w.heap.size + 1, 0, none⟩ = some (.int .i64 c) := cell_of_row _ _ _ _ _ _ D1.out
  have D1_1 : V3.cell? ⟨w.heap.size + 1, 1, none⟩ = some (.int .i64 k) := cell_of_row _ _ _ _ _ _ D1.out
  have Z1_0 : V3.cell? ⟨w.heap.size + 1 + 1, 0, none⟩ = some (.int .i64 0) := cell_of_row _ _ _ _ _ _ Z1.out
  have Z1_1 : V3.cell? ⟨w.heap.size + 1 + 1, 1, none⟩ = some (.int .i64 0) := cell_of_row _ _ _ _ _ _ Z1.out
  have Z1_2 : V3.cell? ⟨w.heap.size + 1 + 1, 2, none⟩ = some (.int .i64 0) := cell_of_row _ _ _ _ _ _ Z1.out
  have Z1_3 : V3.cell? ⟨w.heap.size + 1 + 1, 3, none⟩ = some (.int .i64 0) := cell_of_row _ _ _ _ _ _ Z1.out
  have Z1_4 : V3.cell? ⟨w.heap.size + 1 + 1, 4, none⟩ = some (.int .i64 0) := cell_of_row _ _ _ _ _ _ Z1.out
  have Z1_5 : V3.cell? ⟨w.heap.size + 1 + 1, 5, none⟩ = some (.int .i64 0) := cell_of_row _ _ _ _ _ _ Z1.out
  have Z1_6 : V3.cell? ⟨w.heap.size + 1 + 1, 6, none⟩ = some (.int .i64 0) := cell_of_row _ _ _ _ _ _ Z1.out
  have Z1_f0 : V3.frozen? ⟨w.heap.size + 1 + 1, 0, none⟩ = false := by simp [World.frozen?, Z1.out]
  have Z1_f1 : V3.frozen? ⟨w.heap.size + 1 + 1, 1, none⟩ = false := by simp [World.frozen?, Z1.out]
  have Z1_f2 : V3.frozen? ⟨w.heap.size + 1 + 1, 2, none⟩ = false := by simp [World.frozen?, Z1.out]
  have Z1_f3 : V3.frozen? ⟨w.heap.size + 1 + 1, 3, none⟩ = false := by simp [World.frozen?, Z1.out]
  have Z1_f4 : V3.frozen? ⟨w.heap.size + 1 + 1, 4, none⟩ = false := by simp [World.frozen?, Z1.out]
  have Z1_f5 : V3.frozen? ⟨w.heap.size + 1 + 1, 5, none⟩ = false := by simp [World.frozen?, Z1.out]
  have Z1_f6 : V3.frozen? ⟨w.heap.size + 1 + 1, 6, none⟩ = false := by simp [World.frozen?, Z1.out]
  have R1_0 : V3.cell? ⟨V1.heap.size, 0, none⟩ = some (.int .i64 D0) := cell_of_row _ _ _ _ _ _ R1.out
  have R1_1 : V3.cell? ⟨V1.heap.size, 1, none⟩ = some (.int .i64 N) := cell_of_row _ _ _ _ _ _ R1.out
  have Q1_0 : V3.cell? ⟨V2.heap.size, 0, none⟩ = some (.int .i64 T0) := cell_of_row _ _ _ _ _ _ Q1.out
  have Q1_1 : V3.cell? ⟨V2.heap.size, 1, none⟩ = some (.int .i64 T1) := cell_of_row _ _ _ _ _ _ Q1.out
  have Q1_2 : V3.cell? ⟨V2.heap.size, 2, none⟩ = some (.int .i64 T2) := cell_of_row _ _ _ _ _ _ Q1.out
  have Q1_3 : V3.cell? ⟨V2.heap.size, 3, none⟩ = some (.int .i64 T3) := cell_of_row _ _ _ _ _ _ Q1.out
  have zA1 := lt_of_heap A1.out
  have zD1 := lt_of_heap D1.out
  have zZ1 := lt_of_heap Z1.out
  have zR1 := lt_of_heap R1.out
  have zQ1 := lt_of_heap Q1.out
  go_simp
  go_wp2_with fail
  refine (H4.out _).mono ?_
  rintro e V4 ⟨rfl, hb4⟩
  clear A1_0 A1_1 A1_2 A1_3 A1_4 A1_5 A1_6 zA1 D1_0 D1_1 zD1 Z1_0 Z1_1 Z1_2 Z1_3 Z1_4 Z1_5 Z1_6 Z1_f0 Z1_f1 Z1_f2 Z1_f3 Z1_f4 Z1_f5 Z1_f6 zZ1 R1_0 R1_1 zR1 Q1_0 Q1_1 Q1_2 Q1_3 zQ1
  have B4 : Hid (Below w.heap.size w V4) := by first | exact Lib.hid ((B3.out).trans (hb4.mono (by have := B3.out.size; first | assumption | (simp <;> omega) | (simp; done)))) | exact Lib.hid (((B3.out).alloc (B3.out.size) _).trans (hb4.mono (by have := B3.out.size; first | assumption | (simp <;> omega) | (simp; done)))) | exact Lib.hid ((((B3.out).alloc (B3.out.size) _).alloc (by have := B3.out.size; simp <;> omega) _).trans (hb4.mono (by have := B3.out.size; first | assumption | (simp <;> omega) | (simp; done)))) | exact Lib.hid (((((B3.out).alloc (B3.out.size) _).alloc (by have := B3.out.size; simp <;> omega) _).alloc (by have := B3.out.size; simp <;> omega) _).trans (hb4.mono (by have := B3.out.size; first | assumption | (simp <;> omega) | (simp; done))))
  first | replace A1 := Lib.hid (row_call hb4 A1.out) | replace A1 := Lib.hid (row_call hb4 (row_alloc A1.out _)) | replace A1 := Lib.hid (row_call hb4 (row_alloc (row_alloc A1.out _) _)) | replace A1 := Lib.hid (row_call hb4 (row_alloc (row_alloc (row_alloc A1.out _) _) _))
  first | replace D1 := Lib.hid (row_call hb4 D1.out) | replace D1 := Lib.hid (row_call hb4 (row_alloc D1.out _)) | replace D1 := Lib.hid (row_call hb4 (row_alloc (row_alloc D1.out _) _)) | replace D1 := Lib.hid (row_call hb4 (row_alloc (row_alloc (row_alloc D1.out _) _) _))
  first | replace Z1 := Lib.hid (row_call hb4 Z1.out) | replace Z1 := Lib.hid (row_call hb4 (row_alloc Z1.out _)) | replace Z1 := Lib.hid (row_call hb4 (row_alloc (row_alloc Z1.out _) _)) | replace Z1 := Lib.hid (row_call hb4 (row_alloc (row_alloc (row_alloc Z1.out _) _) _))
  first | replace R1 := Lib.hid (row_call hb4 R1.out) | replace R1 := Lib.hid (row_call hb4 (row_alloc R1.out _)) | replace R1 := Lib.hid (row_call hb4 (row_alloc (row_alloc R1.out _) _)) | replace R1 := Lib.hid (row_call hb4 (row_alloc (row_alloc (row_alloc R1.out _) _) _))
  first | replace Q1 := Lib.hid (row_call hb4 Q1.out) | replace Q1 := Lib.hid (row_call hb4 (row_alloc Q1.out _)) | replace Q1 := Lib.hid (row_call hb4 (row_alloc (row_alloc Q1.out _) _)) | replace Q1 := Lib.hid (row_call hb4 (row_alloc (row_alloc (row_alloc Q1.out _) _) _))
  clear hb4
  have A1_0 : V4.cell? ⟨w.heap.size, 0, none⟩ = some (.int .i64 y) := cell_of_row _ _ _ _ _ _ A1.out
  have A1_1 : V4.cell? ⟨w.heap.size, 1, none⟩ = some (.int .i64 m) := cell_of_row _ _ _ _ _ _ A1.out
  have A1_2 : V4.cell? ⟨w.heap.size, 2, none⟩ = some (.int .i64 d) := cell_of_row _ _ _ _ _ _ A1.out
  have A1_3 : V4.cell? ⟨w.heap.size, 3, none⟩ = some (.int .i64 h) := cell_of_row _ _ _ _ _ _ A1.out
  have A1_4 : V4.cell? ⟨w.heap.size, 4, none⟩ = some (.int .i64 i) := cell_of_row _ _ _ _ _ _ A1.out
  have A1_5 : V4.cell? ⟨w.heap.size, 5, none⟩ = some (.int .i64 s) := cell_of_row _ _ _ _ _ _ A1.out
  have A1_6 : V4.cell? ⟨w.heap.size, 6, none⟩ = some (.int .i64 n) := cell_of_row _ _ _ _ _ _ A1.out
  have D1_0 : V4.cell? ⟨w.heap.size + 1, 0, none⟩ = some (.int .i64 c) := cell_of_row _ _ _ _ _ _ D1.out
  have D1_1 : V4.cell? ⟨w.heap.size + 1, 1, none⟩ = some (.int .i64 k) := cell_of_row _ _ _ _ _ _ D1.out
  have Z1_0 : V4.cell? ⟨w.heap.size + 1 + 1, 0, none⟩ = some (.int .i64 0) := cell_of_row _ _ _ _ _ _ Z1.out
  have Z1_1 : V4.cell? ⟨w.heap.size + 1 + 1, 1, none⟩ = some (.int .i64 0) := cell_of_row _ _ _ _ _ _ Z1.out
  have Z1_2 : V4.cell? ⟨w.heap.size + 1 + 1, 2, none⟩ = some (.int .i64 0) := cell_of_row _ _ _ _ _ _ Z1.out
  have Z1_3 : V4.cell? ⟨w.heap.size + 1 + 1, 3, none⟩ = some (.int .i64 0) := cell_of_row _ _ _ _ _ _ Z1.out
  have Z1_4 : V4.cell? ⟨w.heap.size + 1 + 1, 4, none⟩ = some (.int .i64 0) := cell_of_row _ _ _ _ _ _ Z1.out
  have Z1_5 : V4.cell? ⟨w.heap.size + 1 + 1, 5, none⟩ = some (.int .i64 0) := cell_of_row _ _ _ _ _ _ Z1.out
  have Z1_6 : V4.cell? ⟨w.heap.size + 1 + 1, 6, none⟩ = some (.int .i64 0) := cell_of_row _ _ _ _ _ _ Z1.out
  have Z1_f0 : V4.frozen? ⟨w.heap.size + 1 + 1, 0, none⟩ = false := by simp [World.frozen?, Z1.out]
  have Z1_f1 : V4.frozen? ⟨w.heap.size + 1 + 1, 1, none⟩ = false := by simp [World.frozen?, Z1.out]
  have Z1_f2 : V4.frozen? ⟨w.heap.size + 1 + 1, 2, none⟩ = false := by simp [World.frozen?, Z1.out]
  have Z1_f3 : V4.frozen? ⟨w.heap.size + 1 + 1, 3, none⟩ = false := by simp [World.frozen?, Z1.out]
  have Z1_f4 : V4.frozen? ⟨w.heap.size + 1 + 1, 4, none⟩ = false := by simp [World.frozen?, Z1.out]
  have Z1_f5 : V4.frozen? ⟨w.heap.size + 1 + 1, 5, none⟩ = false := by simp [World.frozen?, Z1.out]
  have Z1_f6 : V4.frozen? ⟨w.heap.size + 1 + 1, 6, none⟩ = false := by simp [World.frozen?, Z1.out]
  have R1_0 : V4.cell? ⟨V1.heap.size, 0, none⟩ = some (.int .i64 D0) := cell_of_row _ _ _ _ _ _ R1.out
  have R1_1 : V4.cell? ⟨V1.heap.size, 1, none⟩ = some (.int .i64 N) := cell_of_row _ _ _ _ _ _ R1.out
  have Q1_0 : V4.cell? ⟨V2.heap.size, 0, none⟩ = some (.int .i64 T0) := cell_of_row _ _ _ _ _ _ Q1.out
  have Q1_1 : V4.cell? ⟨V2.heap.size, 1, none⟩ = some (.int .i64 T1) := cell_of_row _ _ _ _ _ _ Q1.out
  have Q1_2 : V4.cell? ⟨V2.heap.size, 2, none⟩ = some (.int .i64 T2) := cell_of_row _ _ _ _ _ _ Q1.out
  have Q1_3 : V4.cell? ⟨V2.heap.size, 3, none⟩ = some (.int .i64 T3) := cell_of_row _ _ _ _ _ _ Q1.out
  have zA1 := lt_of_heap A1.out
  have zD1 := lt_of_heap D1.out
  have zZ1 := lt_of_heap Z1.out
  have zR1 := lt_of_heap R1.out
  have zQ1 := lt_of_heap Q1.out
  go_simp
  go_wp2_with fail
  refine (H5.out _ (by first | exact tb_keep hM (B4.out) | exact tb_keep hM ((B4.out).alloc (B4.out.size) _) | exact tb_keep hM (((B4.out).alloc (B4.out.size) _).alloc (by have := B4.out.size; simp <;> omega) _) | exact tb_keep hM ((((B4.out).alloc (B4.out.size) _).alloc (by have := B4.out.size; simp <;> omega) _).alloc (by have := B4.out.size; simp <;> omega) _))).mono ?_
  rintro e V5 ⟨rfl, hb5⟩
  clear A1_0 A1_1 A1_2 A1_3 A1_4 A1_5 A1_6 zA1 D1_0 D1_1 zD1 Z1_0 Z1_1 Z1_2 Z1_3 Z1_4 Z1_5 Z1_6 Z1_f0 Z1_f1 Z1_f2 Z1_f3 Z1_f4 Z1_f5 Z1_f6 zZ1 R1_0 R1_1 zR1 Q1_0 Q1_1 Q1_2 Q1_3 zQ1
  have B5 : Hid (Below w.heap.size w V5) := by first | exact Lib.hid ((B4.out).trans (hb5.mono (by have := B4.out.size; first | assumption | (simp <;> omega) | (simp; done)))) | exact Lib.hid (((B4.out).alloc (B4.out.size) _).trans (hb5.mono (by have := B4.out.size; first | assumption | (simp <;> omega) | (simp; done)))) | exact Lib.hid ((((B4.out).alloc (B4.out.size) _).alloc (by have := B4.out.size; simp <;> omega) _).trans (hb5.mono (by have := B4.out.size; first | assumption | (simp <;> omega) | (simp; done)))) | exact Lib.hid (((((B4.out).alloc (B4.out.size) _).alloc (by have := B4.out.size; simp <;> omega) _).alloc (by have := B4.out.size; simp <;> omega) _).trans (hb5.mono (by have := B4.out.size; first | assumption | (simp <;> omega) | (simp; done))))
  first | replace A1 := Lib.hid (row_call hb5 A1.out) | replace A1 := Lib.hid (row_call hb5 (row_alloc A1.out _)) | replace A1 := Lib.hid (row_call hb5 (row_alloc (row_alloc A1.out _) _)) | replace A1 := Lib.hid (row_call hb5 (row_alloc (row_alloc (row_alloc A1.out _) _) _))
  first | replace D1 := Lib.hid (row_call hb5 D1.out) | replace D1 := Lib.hid (row_call hb5 (row_alloc D1.out _)) | replace D1 := Lib.hid (row_call hb5 (row_alloc (row_alloc D1.out _) _)) | replace D1 := Lib.hid (row_call hb5 (row_alloc (row_alloc (row_alloc D1.out _) _) _))
  first | replace Z1 := Lib.hid (row_call hb5 Z1.out) | replace Z1 := Lib.hid (row_call hb5 (row_alloc Z1.out _)) | replace Z1 := Lib.hid (row_call hb5 (row_alloc (row_alloc Z1.out _) _)) | replace Z1 := Lib.hid (row_call hb5 (row_alloc (row_alloc (row_alloc Z1.out _) _) _))
  first | replace R1 := Lib.hid (row_call hb5 R1.out) | replace R1 := Lib.hid (row_call hb5 (row_alloc R1.out _)) | replace R1 := Lib.hid (row_call hb5 (row_alloc (row_alloc R1.out _) _)) | replace R1 := Lib.hid (row_call hb5 (row_alloc (row_alloc (row_alloc R1.out _) _) _))
  first | replace Q1 := Lib.hid (row_call hb5 Q1.out) | replace Q1 := Lib.hid (row_call hb5 (row_alloc Q1.out _)) | replace Q1 := Lib.hid (row_call hb5 (row_alloc (row_alloc Q1.out _) _)) | replace Q1 := Lib.hid (row_call hb5 (row_alloc (row_alloc (row_alloc Q1.out _) _) _))
  clear hb5
  have A1_0 : V5.cell? ⟨w.heap.size, 0, none⟩ = some (.int .i64 y) := cell_of_row _ _ _ _ _ _ A1.out
  have A1_1 : V5.cell? ⟨w.heap.size, 1, none⟩ = some (.int .i64 m) := cell_of_row _ _ _ _ _ _ A1.out
  have A1_2 : V5.cell? ⟨w.heap.size, 2, none⟩ = some (.int .i64 d) := cell_of_row _ _ _ _ _ _ A1.out
  have A1_3 : V5.cell? ⟨w.heap.size, 3, none⟩ = some (.int .i64 h) := cell_of_row _ _ _ _ _ _ A1.out
  have A1_4 : V5.cell? ⟨w.heap.size, 4, none⟩ = some (.int .i64 i) := cell_of_row _ _ _ _ _ _ A1.out
  have A1_5 : V5.cell? ⟨w.heap.size, 5, none⟩ = some (.int .i64 s) := cell_of_row _ _ _ _ _ _ A1.out
  have A1_6 : V5.cell? ⟨w.heap.size, 6, none⟩ = some (.int .i64 n) := cell_of_row _ _ _ _ _ _ A1.out
  have D1_0 : V5.cell? ⟨w.heap.size + 1, 0, none⟩ = some (.int .i64 c) := cell_of_row _ _ _ _ _ _ D1.out
  have D1_1 : V5.cell? ⟨w.heap.size + 1, 1, none⟩ = some (.int .i64 k) := cell_of_row _ _ _ _ _ _ D1.out
  have Z1_0 : V5.cell? ⟨w.heap.size + 1 + 1, 0, none⟩ = some (.int .i64 0) := cell_of_row _ _ _ _ _ _ Z1.out
  have Z1_1 : V5.cell? ⟨w.heap.size + 1 + 1, 1, none⟩ = some (.int .i64 0) := cell_of_row _ _ _ _ _ _ Z1.out
  have Z1_2 : V5.cell? ⟨w.heap.size + 1 + 1, 2, none⟩ = some (.int .i64 0) := cell_of_row _ _ _ _ _ _ Z1.out
  have Z1_3 : V5.cell? ⟨w.heap.size + 1 + 1, 3, none⟩ = some (.int .i64 0) := cell_of_row _ _ _ _ _ _ Z1.out
  have Z1_4 : V5.cell? ⟨w.heap.size + 1 + 1, 4, none⟩ = some (.int .i64 0) := cell_of_row _ _ _ _ _ _ Z1.out
  have Z1_5 : V5.cell? ⟨w.heap.size + 1 + 1, 5, none⟩ = some (.int .i64 0) := cell_of_row _ _ _ _ _ _ Z1.out
  have Z1_6 : V5.cell? ⟨w.heap.size + 1 + 1, 6, none⟩ = some (.int .i64 0) := cell_of_row _ _ _ _ _ _ Z1.out
  have Z1_f0 : V5.frozen? ⟨w.heap.size + 1 + 1, 0, none⟩ = false := by simp [World.frozen?, Z1.out]
  have Z1_f1 : V5.frozen? ⟨w.heap.size + 1 + 1, 1, none⟩ = false := by simp [World.frozen?, Z1.out]
  have Z1_f2 : V5.frozen? ⟨w.heap.size + 1 + 1, 2, none⟩ = false := by simp [World.frozen?, Z1.out]
  have Z1_f3 : V5.frozen? ⟨w.heap.size + 1 + 1, 3, none⟩ = false := by simp [World.frozen?, Z1.out]
  have Z1_f4 : V5.frozen? ⟨w.heap.size + 1 + 1, 4, none⟩ = false := by simp [World.frozen?, Z1.out]
  have Z1_f5 : V5.frozen? ⟨w.heap.size + 1 + 1, 5, none⟩ = false := by simp [World.frozen?, Z1.out]
  have Z1_f6 : V5.frozen? ⟨w.heap.size + 1 + 1, 6, none⟩ = false := by simp [World.frozen?, Z1.out]
  have R1_0 : V5.cell? ⟨V1.heap.size, 0, none⟩ = some (.int .i64 D0) := cell_of_row _ _ _ _ _ _ R1.out
  have R1_1 : V5.cell? ⟨V1.heap.size, 1, none⟩ = some (.int .i64 N) := cell_of_row _ _ _ _ _ _ R1.out
  have Q1_0 : V5.cell? ⟨V2.heap.size, 0, none⟩ = some (.int .i64 T0) := cell_of_row _ _ _ _ _ _ Q1.out
  have Q1_1 : V5.cell? ⟨V2.heap.size, 1, none⟩ = some (.int .i64 T1) := cell_of_row _ _ _ _ _ _ Q1.out
  have Q1_2 : V5.cell? ⟨V2.heap.size, 2, none⟩ = some (.int .i64 T2) := cell_of_row _ _ _ _ _ _ Q1.out
  have Q1_3 : V5.cell? ⟨V2.heap.size, 3, none⟩ = some (.int .i64 T3) := cell_of_row _ _ _ _ _ _ Q1.out
  have zA1 := lt_of_heap A1.out
  have zD1 := lt_of_heap D1.out
  have zZ1 := lt_of_heap Z1.out
  have zR1 := lt_of_heap R1.out
  have zQ1 := lt_of_heap Q1.out
  go_simp
  have rZ1 := setRow_heap (V5.alloc (Obj.cells #[Value.int .i64 0, Value.int .i64 0, Value.int .i64 0] 23)) (w.heap.size + 1 + 1) _ #[Value.int .i64 0, Value.int .i64 0, Value.int .i64 0, Value.int .i64 0, Value.int .i64 0, Value.int .i64 0, Value.int .i64 0] _ _ (row_alloc Z1.out _)
  have rZ1_0 : ((V5.alloc (Obj.cells #[Value.int .i64 0, Value.int .i64 0, Value.int .i64 0] 23)).setRow (w.heap.size + 1 + 1) #[Value.int .i64 0, Value.int .i64 0, Value.int .i64 0, Value.int .i64 0, Value.int .i64 0, Value.int .i64 0, Value.int .i64 0]).cell? ⟨w.heap.size + 1 + 1, 0, none⟩ = some (.int .i64 0) := cell_of_row _ _ _ _ _ _ rZ1
  have rZ1_1 : ((V5.alloc (Obj.cells #[Value.int .i64 0, Value.int .i64 0, Value.int .i64 0] 23)).setRow (w.heap.size + 1 + 1) #[Value.int .i64 0, Value.int .i64 0, Value.int .i64 0, Value.int .i64 0, Value.int .i64 0, Value.int .i64 0, Value.int .i64 0]).cell? ⟨w.heap.size + 1 + 1, 1, none⟩ = some (.int .i64 0) := cell_of_row _ _ _ _ _ _ rZ1
  have rZ1_2 : ((V5.alloc (Obj.cells #[Value.int .i64 0, Value.int .i64 0, Value.int .i64 0] 23)).setRow (w.heap.size + 1 + 1) #[Value.int .i64 0, Value.int .i64 0, Value.int .i64 0, Value.int .i64 0, Value.int .i64 0, Value.int .i64 0, Value.int .i64 0]).cell? ⟨w.heap.size + 1 + 1, 2, none⟩ = some (.int .i64 0) := cell_of_row _ _ _ _ _ _ rZ1
  have rZ1_3 : ((V5.alloc (Obj.cells #[Value.int .i64 0, Value.int .i64 0, Value.int .i64 0] 23)).setRow (w.heap.size + 1 + 1) #[Value.int .i64 0, Value.int .i64 0, Value.int .i64 0, Value.int .i64 0, Value.int .i64 0, Value.int .i64 0, Value.int .i64 0]).cell? ⟨w.heap.size + 1 + 1, 3, none⟩ = some (.int .i64 0) := cell_of_row _ _ _ _ _ _ rZ1
  have rZ1_4 : ((V5.alloc (Obj.cells #[Value.int .i64 0, Value.int .i64 0, Value.int .i64 0] 23)).setRow (w.heap.size + 1 + 1) #[Value.int .i64 0, Value.int .i64 0, Value.int .i64 0, Value.int .i64 0, Value.int .i64 0, Value.int .i64 0, Value.int .i64 0]).cell? ⟨w.heap.size + 1 + 1, 4, none⟩ = some (.int .i64 0) := cell_of_row _ _ _ _ _ _ rZ1
  have rZ1_5 : ((V5.alloc (Obj.cells #[Value.int .i64 0, Value.int .i64 0, Value.int .i64 0] 23)).setRow (w.heap.size + 1 + 1) #[Value.int .i64 0, Value.int .i64 0, Value.int .i64 0, Value.int .i64 0, Value.int .i64 0, Value.int .i64 0, Value.int .i64 0]).cell? ⟨w.heap.size + 1 + 1, 5, none⟩ = some (.int .i64 0) := cell_of_row _ _ _ _ _ _ rZ1
  have rZ1_6 : ((V5.alloc (Obj.cells #[Value.int .i64 0, Value.int .i64 0, Value.int .i64 0] 23)).setRow (w.heap.size + 1 + 1) #[Value.int .i64 0, Value.int .i64 0, Value.int .i64 0, Value.int .i64 0, Value.int .i64 0, Value.int .i64 0, Value.int .i64 0]).cell? ⟨w.heap.size + 1 + 1, 6, none⟩ = some (.int .i64 0) := cell_of_row _ _ _ _ _ _ rZ1
  go_wp2_with (refine wpList_store_row (by rfl) 27 _ _ (by rfl) (w.heap.size + 1 + 1) #[Value.int .i64 0, Value.int .i64 0, Value.int .i64 0, Value.int .i64 0, Value.int .i64 0, Value.int .i64 0, Value.int .i64 0] (by rfl) (by rfl) _ _ (row_alloc Z1.out _) (by kernel_rfl) (by rfl) (by simp [Value.oneCell']) ?_)
  refine shut_ret (v := .tuple #[.agg #[.int .i64 0, .int .i64 0, .int .i64 0, .int .i64 0, .int .i64 0, .int .i64 0, .int .i64 0], .int .i64 8]) (by simp [results, Tryd.results14, go_sem, rZ1_0, rZ1_1, rZ1_2, rZ1_3, rZ1_4, rZ1_5, rZ1_6]) rfl ⟨rfl, ?_⟩
  exact keepRow (B5.out.alloc (by have := B5.out.size; omega) _) (by omega) _
set_option maxHeartbeats 3200000 in
set_option maxRecDepth 100000 in
theorem ptAdd_yes (y m d h i s n c k T0 T1 T2 T3 J D Y M X : Int) (hc : ckT y m d h i s n = 0) (hD : dnI y m d + J = D) (hJ : in64 D)
    (H2 : Hid (∀ w, TB w → Calls Tryd.prog 30 #[.agg #[.int .i64 h, .int .i64 i, .int .i64 s, .int .i64 n], .agg #[.int .i64 c, .int .i64 k]] w fun e w' => e = .returned (.tuple #[.agg #[.int .i64 T0, .int .i64 T1, .int .i64 T2, .int .i64 T3], .int .i64 J, .int .i64 0]) ∧ Below w.heap.size w w'))
    (ho : IsDate D Y M X 0) (w : World) (hM : TB w) :
    Calls Tryd.prog 14 #[.agg #[.int .i64 y, .int .i64 m, .int .i64 d, .int .i64 h, .int .i64 i, .int .i64 s, .int .i64 n], .agg #[.int .i64 c, .int .i64 k]] w fun e w' => e = .returned (.tuple #[.agg #[.int .i64 Y, .int .i64 M, .int .i64 X, .int .i64 T0, .int .i64 T1, .int .i64 T2, .int .i64 T3], .int .i64 0]) ∧ Below w.heap.size w w' := by
  have X1 := pRead_any y m d h i s n
  have X3 := fun w => pLesser_any 0 0 w (by decide) (by decide)
  have X4 := pLater_any (dnI y m d) J (by rw [hD]; exact hJ)
  rw [hD] at X4
  rw [show fsI 0 0 = 0 by unfold fsI; rfl] at X3
  rw [(rd_ok hc).1, (rd_ok hc).2, hc] at X1
  have H1 := Lib.hid X1
  have H3 := Lib.hid X3
  have H4 := Lib.hid X4
  have H5 := Lib.hid (pDate_is ho)
  clear X1 X3 X4 hc hJ ho hD
  generalize dnI y m d = D0 at *
  generalize scK h i s * 1000000000 + n = N at *
  replace hM := Lib.hid hM
  go_enter Tryd.func14, Tryd.ntmps14
  refine wp_shut ?_
  go_wp2_with fail
  
  refine (H1.out _ (by first | exact tb_keep hM ((((Below.refl w.heap.size w).alloc (Nat.le_refl _) _).alloc (by simp <;> omega) _).alloc (by simp <;> omega) _))).mono ?_
  rintro e V1 ⟨rfl, hb1⟩
  have B1 := Lib.hid (((((Below.refl w.heap.size w).alloc (Nat.le_refl _) _).alloc (by simp <;> omega) _).alloc (by simp <;> omega) _).trans (hb1.mono (by first | assumption | (simp <;> omega) | (simp; done))))
  have A1 := Lib.hid (row_call hb1 (row_alloc (row_alloc (heap_alloc_new _ _) _) _))
  have D1 := Lib.hid (row_at (k' := w.heap.size + 1) (by simp) (row_call hb1 (row_alloc (heap_alloc_new _ _) _)))
  have Z1 := Lib.hid (row_at (k' := w.heap.size + 1 + 1) (by simp) (row_call hb1 (heap_alloc_new _ _)))
  clear hb1
  have A1_0 : V1.cell? ⟨w.heap.size, 0, none⟩ = some (.int .i64 y) := cell_of_row _ _ _ _ _ _ A1.out
  have A1_1 : V1.cell? ⟨w.heap.size, 1, none⟩ = some (.int .i64 m) := cell_of_row _ _ _ _ _ _ A1.out
  have A1_2 : V1.cell? ⟨w.heap.size, 2, none⟩ = some (.int .i64 d) := cell_of_row _ _ _ _ _ _ A1.out
  have A1_3 : V1.cell? ⟨w.heap.size, 3, none⟩ = some (.int .i64 h) := cell_of_row _ _ _ _ _ _ A1.out
  have A1_4 : V1.cell? ⟨w.heap.size, 4, none⟩ = some (.int .i64 i) := cell_of_row _ _ _ _ _ _ A1.out
  have A1_5 : V1.cell? ⟨w.heap.size, 5, none⟩ = some (.int .i64 s) := cell_of_row _ _ _ _ _ _ A1.out
  have A1_6 : V1.cell? ⟨w.heap.size, 6, none⟩ = some (.int .i64 n) := cell_of_row _ _ _ _ _ _ A1.out
  have D1_0 : V1.cell? ⟨w.heap.size + 1, 0, none⟩ = some (.int .i64 c) := cell_of_row _ _ _ _ _ _ D1.out
  have D1_1 : V1.cell? ⟨w.heap.size + 1, 1, none⟩ = some (.int .i64 k) := cell_of_row _ _ _ _ _ _ D1.out
  have Z1_0 : V1.cell? ⟨w.heap.size + 1 + 1, 0, none⟩ = some (.int .i64 0) := cell_of_row _ _ _ _ _ _ Z1.out
  have Z1_1 : V1.cell? ⟨w.heap.size + 1 + 1, 1, none⟩ = some (.int .i64 0) := cell_of_row _ _ _ _ _ _ Z1.out
  have Z1_2 : V1.cell? ⟨w.heap.size + 1 + 1, 2, none⟩ = some (.int .i64 0) := cell_of_row _ _ _ _ _ _ Z1.out
  have Z1_3 : V1.cell? ⟨w.heap.size + 1 + 1, 3, none⟩ = some (.int .i64 0) := cell_of_row _ _ _ _ _ _ Z1.out
  have Z1_4 : V1.cell? ⟨w.heap.size + 1 + 1, 4, none⟩ = some (.int .i64 0) := cell_of_row _ _ _ _ _ _ Z1.out
  have Z1_5 : V1.cell? ⟨w.heap.size + 1 + 1, 5, none⟩ = some (.int .i64 0) := cell_of_row _ _ _ _ _ _ Z1.out
  have Z1_6 : V1.cell? ⟨w.heap.size + 1 + 1, 6, none⟩ = some (.int .i64 0) := cell_of_row _ _ _ _ _ _ Z1.out
  have Z1_f0 : V1.frozen? ⟨w.heap.size + 1 + 1, 0, none⟩ = false := by simp [World.frozen?, Z1.out]
  have Z1_f1 : V1.frozen? ⟨w.heap.size + 1 + 1, 1, none⟩ = false := by simp [World.frozen?, Z1.out]
  have Z1_f2 : V1.frozen? ⟨w.heap.size + 1 + 1, 2, none⟩ = false := by simp [World.frozen?, Z1.out]
  have Z1_f3 : V1.frozen? ⟨w.heap.size + 1 + 1, 3, none⟩ = false := by simp [World.frozen?, Z1.out]
  have Z1_f4 : V1.frozen? ⟨w.heap.size + 1 + 1, 4, none⟩ = false := by simp [World.frozen?, Z1.out]
  have Z1_f5 : V1.frozen? ⟨w.heap.size + 1 + 1, 5, none⟩ = false := by simp [World.frozen?, Z1.out]
  have Z1_f6 : V1.frozen? ⟨w.heap.size + 1 + 1, 6, none⟩ = false := by simp [World.frozen?, Z1.out]
  have zA1 := lt_of_heap A1.out
  have zD1 := lt_of_heap D1.out
  have zZ1 := lt_of_heap Z1.out
  go_simp
  go_wp2_with fail
  refine (H2.out _ (by first | exact tb_keep hM ((B1.out).alloc (B1.out.size) _))).mono ?_
  rintro e V2 ⟨rfl, hb2⟩
  clear A1_0 A1_1 A1_2 A1_3 A1_4 A1_5 A1_6 zA1 D1_0 D1_1 zD1 Z1_0 Z1_1 Z1_2 Z1_3 Z1_4 Z1_5 Z1_6 Z1_f0 Z1_f1 Z1_f2 Z1_f3 Z1_f4 Z1_f5 Z1_f6 zZ1
  have nA1R1 := Lib.hid (lt_of_heap A1.out)
  have nD1R1 := Lib.hid (lt_of_heap D1.out)
  have nZ1R1 := Lib.hid (lt_of_heap Z1.out)
  have B2 := Lib.hid (((B1.out).alloc (B1.out.size) _).trans (hb2.mono (by have := B1.out.size; first | assumption | (simp <;> omega) | (simp; done))))
  replace A1 := Lib.hid (row_call hb2 (row_alloc A1.out _))
  replace D1 := Lib.hid (row_call hb2 (row_alloc D1.out _))
  replace Z1 := Lib.hid (row_call hb2 (row_alloc Z1.out _))
  have R1 := Lib.hid (row_call hb2 (heap_alloc_new _ _))
  clear hb2
  have A1_0 : V2.cell? ⟨w.heap.size, 0, none⟩ = some (.int .i64 y) := cell_of_row _ _ _ _ _ _ A1.out
  have A1_1 : V2.cell? ⟨w.heap.size, 1, none⟩ = some (.int .i64 m) := cell_of_row _ _ _ _ _ _ A1.out
  have A1_2 : V2.cell? ⟨w.heap.size, 2, none⟩ = some (.int .i64 d) := cell_of_row _ _ _ _ _ _ A1.out
  have A1_3 : V2.cell? ⟨w.heap.size, 3, none⟩ = some (.int .i64 h) := cell_of_row _ _ _ _ _ _ A1.out
  have A1_4 : V2.cell? ⟨w.heap.size, 4, none⟩ = some (.int .i64 i) := cell_of_row _ _ _ _ _ _ A1.out
  have A1_5 : V2.cell? ⟨w.heap.size, 5, none⟩ = some (.int .i64 s) := cell_of_row _ _ _ _ _ _ A1.out
  have A1_6 : V2.cell? ⟨w.heap.size, 6, none⟩ = some (.int .i64 n) := cell_of_row _ _ _ _ _ _ A1.out
  have D1_0 : V2.cell? ⟨w.heap.size + 1, 0, none⟩ = some (.int .i64 c) := cell_of_row _ _ _ _ _ _ D1.out
  have D1_1 : V2.cell? ⟨w.heap.size + 1, 1, none⟩ = some (.int .i64 k) := cell_of_row _ _ _ _ _ _ D1.out
  have Z1_0 : V2.cell? ⟨w.heap.size + 1 + 1, 0, none⟩ = some (.int .i64 0) := cell_of_row _ _ _ _ _ _ Z1.out
  have Z1_1 : V2.cell? ⟨w.heap.size + 1 + 1, 1, none⟩ = some (.int .i64 0) := cell_of_row _ _ _ _ _ _ Z1.out
  have Z1_2 : V2.cell? ⟨w.heap.size + 1 + 1, 2, none⟩ = some (.int .i64 0) := cell_of_row _ _ _ _ _ _ Z1.out
  have Z1_3 : V2.cell? ⟨w.heap.size + 1 + 1, 3, none⟩ = some (.int .i64 0) := cell_of_row _ _ _ _ _ _ Z1.out
  have Z1_4 : V2.cell? ⟨w.heap.size + 1 + 1, 4, none⟩ = some (.int .i64 0) := cell_of_row _ _ _ _ _ _ Z1.out
  have Z1_5 : V2.cell? ⟨w.heap.size + 1 + 1, 5, none⟩ = some (.int .i64 0) := cell_of_row _ _ _ _ _ _ Z1.out
  have Z1_6 : V2.cell? ⟨w.heap.size + 1 + 1, 6, none⟩ = some (.int .i64 0) := cell_of_row _ _ _ _ _ _ Z1.out
  have Z1_f0 : V2.frozen? ⟨w.heap.size + 1 + 1, 0, none⟩ = false := by simp [World.frozen?, Z1.out]
  have Z1_f1 : V2.frozen? ⟨w.heap.size + 1 + 1, 1, none⟩ = false := by simp [World.frozen?, Z1.out]
  have Z1_f2 : V2.frozen? ⟨w.heap.size + 1 + 1, 2, none⟩ = false := by simp [World.frozen?, Z1.out]
  have Z1_f3 : V2.frozen? ⟨w.heap.size + 1 + 1, 3, none⟩ = false := by simp [World.frozen?, Z1.out]
  have Z1_f4 : V2.frozen? ⟨w.heap.size + 1 + 1, 4, none⟩ = false := by simp [World.frozen?, Z1.out]
  have Z1_f5 : V2.frozen? ⟨w.heap.size + 1 + 1, 5, none⟩ = false := by simp [World.frozen?, Z1.out]
  have Z1_f6 : V2.frozen? ⟨w.heap.size + 1 + 1, 6, none⟩ = false := by simp [World.frozen?, Z1.out]
  have R1_0 : V2.cell? ⟨V1.heap.size, 0, none⟩ = some (.int .i64 D0) := cell_of_row _ _ _ _ _ _ R1.out
  have R1_1 : V2.cell? ⟨V1.heap.size, 1, none⟩ = some (.int .i64 N) := cell_of_row _ _ _ _ _ _ R1.out
  have zA1 := lt_of_heap A1.out
  have zD1 := lt_of_heap D1.out
  have zZ1 := lt_of_heap Z1.out
  have zR1 := lt_of_heap R1.out
  go_simp
  go_wp2_with fail
  refine (H3.out _).mono ?_
  rintro e V3 ⟨rfl, hb3⟩
  clear A1_0 A1_1 A1_2 A1_3 A1_4 A1_5 A1_6 zA1 D1_0 D1_1 zD1 Z1_0 Z1_1 Z1_2 Z1_3 Z1_4 Z1_5 Z1_6 Z1_f0 Z1_f1 Z1_f2 Z1_f3 Z1_f4 Z1_f5 Z1_f6 zZ1 R1_0 R1_1 zR1
  have nA1Q1 := Lib.hid (lt_of_heap A1.out)
  have nD1Q1 := Lib.hid (lt_of_heap D1.out)
  have nZ1Q1 := Lib.hid (lt_of_heap Z1.out)
  have nR1Q1 := Lib.hid (lt_of_heap R1.out)
  have B3 := Lib.hid (((B2.out).alloc (B2.out.size) _).trans (hb3.mono (by have := B2.out.size; first | assumption | (simp <;> omega) | (simp; done))))
  replace A1 := Lib.hid (row_call hb3 (row_alloc A1.out _))
  replace D1 := Lib.hid (row_call hb3 (row_alloc D1.out _))
  replace Z1 := Lib.hid (row_call hb3 (row_alloc Z1.out _))
  replace R1 := Lib.hid (row_call hb3 (row_alloc R1.out _))
  have Q1 := Lib.hid (row_call hb3 (heap_alloc_new _ _))
  clear hb3
  have A1_0 : V3.cell? ⟨w.heap.size, 0, none⟩ = some (.int .i64 y) := cell_of_row _ _ _ _ _ _ A1.out
  have A1_1 : V3.cell? ⟨w.heap.size, 1, none⟩ = some (.int .i64 m) := cell_of_row _ _ _ _ _ _ A1.out
  have A1_2 : V3.cell? ⟨w.heap.size, 2, none⟩ = some (.int .i64 d) := cell_of_row _ _ _ _ _ _ A1.out
  have A1_3 : V3.cell? ⟨w.heap.size, 3, none⟩ = some (.int .i64 h) := cell_of_row _ _ _ _ _ _ A1.out
  have A1_4 : V3.cell? ⟨w.heap.size, 4, none⟩ = some (.int .i64 i) := cell_of_row _ _ _ _ _ _ A1.out
  have A1_5 : V3.cell? ⟨w.heap.size, 5, none⟩ = some (.int .i64 s) := cell_of_row _ _ _ _ _ _ A1.out
  have A1_6 : V3.cell? ⟨w.heap.size, 6, none⟩ = some (.int .i64 n) := cell_of_row _ _ _ _ _ _ A1.out
  have D1_0 : V3.cell? ⟨w.heap.size + 1, 0, none⟩ = some (.int .i64 c) := cell_of_row _ _ _ _ _ _ D1.out
  have D1_1 : V3.cell? ⟨w.heap.size + 1, 1, none⟩ = some (.int .i64 k) := cell_of_row _ _ _ _ _ _ D1.out
  have Z1_0 : V3.cell? ⟨w.heap.size + 1 + 1, 0, none⟩ = some (.int .i64 0) := cell_of_row _ _ _ _ _ _ Z1.out
  have Z1_1 : V3.cell? ⟨w.heap.size + 1 + 1, 1, none⟩ = some (.int .i64 0) := cell_of_row _ _ _ _ _ _ Z1.out
  have Z1_2 : V3.cell? ⟨w.heap.size + 1 + 1, 2, none⟩ = some (.int .i64 0) := cell_of_row _ _ _ _ _ _ Z1.out
  have Z1_3 : V3.cell? ⟨w.heap.size + 1 + 1, 3, none⟩ = some (.int .i64 0) := cell_of_row _ _ _ _ _ _ Z1.out
  have Z1_4 : V3.cell? ⟨w.heap.size + 1 + 1, 4, none⟩ = some (.int .i64 0) := cell_of_row _ _ _ _ _ _ Z1.out
  have Z1_5 : V3.cell? ⟨w.heap.size + 1 + 1, 5, none⟩ = some (.int .i64 0) := cell_of_row _ _ _ _ _ _ Z1.out
  have Z1_6 : V3.cell? ⟨w.heap.size + 1 + 1, 6, none⟩ = some (.int .i64 0) := cell_of_row _ _ _ _ _ _ Z1.out
  have Z1_f0 : V3.frozen? ⟨w.heap.size + 1 + 1, 0, none⟩ = false := by simp [World.frozen?, Z1.out]
  have Z1_f1 : V3.frozen? ⟨w.heap.size + 1 + 1, 1, none⟩ = false := by simp [World.frozen?, Z1.out]
  have Z1_f2 : V3.frozen? ⟨w.heap.size + 1 + 1, 2, none⟩ = false := by simp [World.frozen?, Z1.out]
  have Z1_f3 : V3.frozen? ⟨w.heap.size + 1 + 1, 3, none⟩ = false := by simp [World.frozen?, Z1.out]
  have Z1_f4 : V3.frozen? ⟨w.heap.size + 1 + 1, 4, none⟩ = false := by simp [World.frozen?, Z1.out]
  have Z1_f5 : V3.frozen? ⟨w.heap.size + 1 + 1, 5, none⟩ = false := by simp [World.frozen?, Z1.out]
  have Z1_f6 : V3.frozen? ⟨w.heap.size + 1 + 1, 6, none⟩ = false := by simp [World.frozen?, Z1.out]
  have R1_0 : V3.cell? ⟨V1.heap.size, 0, none⟩ = some (.int .i64 D0) := cell_of_row _ _ _ _ _ _ R1.out
  have R1_1 : V3.cell? ⟨V1.heap.size, 1, none⟩ = some (.int .i64 N) := cell_of_row _ _ _ _ _ _ R1.out
  have Q1_0 : V3.cell? ⟨V2.heap.size, 0, none⟩ = some (.int .i64 T0) := cell_of_row _ _ _ _ _ _ Q1.out
  have Q1_1 : V3.cell? ⟨V2.heap.size, 1, none⟩ = some (.int .i64 T1) := cell_of_row _ _ _ _ _ _ Q1.out
  have Q1_2 : V3.cell? ⟨V2.heap.size, 2, none⟩ = some (.int .i64 T2) := cell_of_row _ _ _ _ _ _ Q1.out
  have Q1_3 : V3.cell? ⟨V2.heap.size, 3, none⟩ = some (.int .i64 T3) := cell_of_row _ _ _ _ _ _ Q1.out
  have zA1 := lt_of_heap A1.out
  have zD1 := lt_of_heap D1.out
  have zZ1 := lt_of_heap Z1.out
  have zR1 := lt_of_heap R1.out
  have zQ1 := lt_of_heap Q1.out
  go_simp
  go_wp2_with fail
  refine (H4.out _).mono ?_
  rintro e V4 ⟨rfl, hb4⟩
  clear A1_0 A1_1 A1_2 A1_3 A1_4 A1_5 A1_6 zA1 D1_0 D1_1 zD1 Z1_0 Z1_1 Z1_2 Z1_3 Z1_4 Z1_5 Z1_6 Z1_f0 Z1_f1 Z1_f2 Z1_f3 Z1_f4 Z1_f5 Z1_f6 zZ1 R1_0 R1_1 zR1 Q1_0 Q1_1 Q1_2 Q1_3 zQ1
  have B4 : Hid (Below w.heap.size w V4) := by first | exact Lib.hid ((B3.out).trans (hb4.mono (by have := B3.out.size; first | assumption | (simp <;> omega) | (simp; done)))) | exact Lib.hid (((B3.out).alloc (B3.out.size) _).trans (hb4.mono (by have := B3.out.size; first | assumption | (simp <;> omega) | (simp; done)))) | exact Lib.hid ((((B3.out).alloc (B3.out.size) _).alloc (by have := B3.out.size; simp <;> omega) _).trans (hb4.mono (by have := B3.out.size; first | assumption | (simp <;> omega) | (simp; done)))) | exact Lib.hid (((((B3.out).alloc (B3.out.size) _).alloc (by have := B3.out.size; simp <;> omega) _).alloc (by have := B3.out.size; simp <;> omega) _).trans (hb4.mono (by have := B3.out.size; first | assumption | (simp <;> omega) | (simp; done))))
  first | replace A1 := Lib.hid (row_call hb4 A1.out) | replace A1 := Lib.hid (row_call hb4 (row_alloc A1.out _)) | replace A1 := Lib.hid (row_call hb4 (row_alloc (row_alloc A1.out _) _)) | replace A1 := Lib.hid (row_call hb4 (row_alloc (row_alloc (row_alloc A1.out _) _) _))
  first | replace D1 := Lib.hid (row_call hb4 D1.out) | replace D1 := Lib.hid (row_call hb4 (row_alloc D1.out _)) | replace D1 := Lib.hid (row_call hb4 (row_alloc (row_alloc D1.out _) _)) | replace D1 := Lib.hid (row_call hb4 (row_alloc (row_alloc (row_alloc D1.out _) _) _))
  first | replace Z1 := Lib.hid (row_call hb4 Z1.out) | replace Z1 := Lib.hid (row_call hb4 (row_alloc Z1.out _)) | replace Z1 := Lib.hid (row_call hb4 (row_alloc (row_alloc Z1.out _) _)) | replace Z1 := Lib.hid (row_call hb4 (row_alloc (row_alloc (row_alloc Z1.out _) _) _))
  first | replace R1 := Lib.hid (row_call hb4 R1.out) | replace R1 := Lib.hid (row_call hb4 (row_alloc R1.out _)) | replace R1 := Lib.hid (row_call hb4 (row_alloc (row_alloc R1.out _) _)) | replace R1 := Lib.hid (row_call hb4 (row_alloc (row_alloc (row_alloc R1.out _) _) _))
  first | replace Q1 := Lib.hid (row_call hb4 Q1.out) | replace Q1 := Lib.hid (row_call hb4 (row_alloc Q1.out _)) | replace Q1 := Lib.hid (row_call hb4 (row_alloc (row_alloc Q1.out _) _)) | replace Q1 := Lib.hid (row_call hb4 (row_alloc (row_alloc (row_alloc Q1.out _) _) _))
  clear hb4
  have A1_0 : V4.cell? ⟨w.heap.size, 0, none⟩ = some (.int .i64 y) := cell_of_row _ _ _ _ _ _ A1.out
  have A1_1 : V4.cell? ⟨w.heap.size, 1, none⟩ = some (.int .i64 m) := cell_of_row _ _ _ _ _ _ A1.out
  have A1_2 : V4.cell? ⟨w.heap.size, 2, none⟩ = some (.int .i64 d) := cell_of_row _ _ _ _ _ _ A1.out
  have A1_3 : V4.cell? ⟨w.heap.size, 3, none⟩ = some (.int .i64 h) := cell_of_row _ _ _ _ _ _ A1.out
  have A1_4 : V4.cell? ⟨w.heap.size, 4, none⟩ = some (.int .i64 i) := cell_of_row _ _ _ _ _ _ A1.out
  have A1_5 : V4.cell? ⟨w.heap.size, 5, none⟩ = some (.int .i64 s) := cell_of_row _ _ _ _ _ _ A1.out
  have A1_6 : V4.cell? ⟨w.heap.size, 6, none⟩ = some (.int .i64 n) := cell_of_row _ _ _ _ _ _ A1.out
  have D1_0 : V4.cell? ⟨w.heap.size + 1, 0, none⟩ = some (.int .i64 c) := cell_of_row _ _ _ _ _ _ D1.out
  have D1_1 : V4.cell? ⟨w.heap.size + 1, 1, none⟩ = some (.int .i64 k) := cell_of_row _ _ _ _ _ _ D1.out
  have Z1_0 : V4.cell? ⟨w.heap.size + 1 + 1, 0, none⟩ = some (.int .i64 0) := cell_of_row _ _ _ _ _ _ Z1.out
  have Z1_1 : V4.cell? ⟨w.heap.size + 1 + 1, 1, none⟩ = some (.int .i64 0) := cell_of_row _ _ _ _ _ _ Z1.out
  have Z1_2 : V4.cell? ⟨w.heap.size + 1 + 1, 2, none⟩ = some (.int .i64 0) := cell_of_row _ _ _ _ _ _ Z1.out
  have Z1_3 : V4.cell? ⟨w.heap.size + 1 + 1, 3, none⟩ = some (.int .i64 0) := cell_of_row _ _ _ _ _ _ Z1.out
  have Z1_4 : V4.cell? ⟨w.heap.size + 1 + 1, 4, none⟩ = some (.int .i64 0) := cell_of_row _ _ _ _ _ _ Z1.out
  have Z1_5 : V4.cell? ⟨w.heap.size + 1 + 1, 5, none⟩ = some (.int .i64 0) := cell_of_row _ _ _ _ _ _ Z1.out
  have Z1_6 : V4.cell? ⟨w.heap.size + 1 + 1, 6, none⟩ = some (.int .i64 0) := cell_of_row _ _ _ _ _ _ Z1.out
  have Z1_f0 : V4.frozen? ⟨w.heap.size + 1 + 1, 0, none⟩ = false := by simp [World.frozen?, Z1.out]
  have Z1_f1 : V4.frozen? ⟨w.heap.size + 1 + 1, 1, none⟩ = false := by simp [World.frozen?, Z1.out]
  have Z1_f2 : V4.frozen? ⟨w.heap.size + 1 + 1, 2, none⟩ = false := by simp [World.frozen?, Z1.out]
  have Z1_f3 : V4.frozen? ⟨w.heap.size + 1 + 1, 3, none⟩ = false := by simp [World.frozen?, Z1.out]
  have Z1_f4 : V4.frozen? ⟨w.heap.size + 1 + 1, 4, none⟩ = false := by simp [World.frozen?, Z1.out]
  have Z1_f5 : V4.frozen? ⟨w.heap.size + 1 + 1, 5, none⟩ = false := by simp [World.frozen?, Z1.out]
  have Z1_f6 : V4.frozen? ⟨w.heap.size + 1 + 1, 6, none⟩ = false := by simp [World.frozen?, Z1.out]
  have R1_0 : V4.cell? ⟨V1.heap.size, 0, none⟩ = some (.int .i64 D0) := cell_of_row _ _ _ _ _ _ R1.out
  have R1_1 : V4.cell? ⟨V1.heap.size, 1, none⟩ = some (.int .i64 N) := cell_of_row _ _ _ _ _ _ R1.out
  have Q1_0 : V4.cell? ⟨V2.heap.size, 0, none⟩ = some (.int .i64 T0) := cell_of_row _ _ _ _ _ _ Q1.out
  have Q1_1 : V4.cell? ⟨V2.heap.size, 1, none⟩ = some (.int .i64 T1) := cell_of_row _ _ _ _ _ _ Q1.out
  have Q1_2 : V4.cell? ⟨V2.heap.size, 2, none⟩ = some (.int .i64 T2) := cell_of_row _ _ _ _ _ _ Q1.out
  have Q1_3 : V4.cell? ⟨V2.heap.size, 3, none⟩ = some (.int .i64 T3) := cell_of_row _ _ _ _ _ _ Q1.out
  have zA1 := lt_of_heap A1.out
  have zD1 := lt_of_heap D1.out
  have zZ1 := lt_of_heap Z1.out
  have zR1 := lt_of_heap R1.out
  have zQ1 := lt_of_heap Q1.out
  go_simp
  go_wp2_with fail
  refine (H5.out _ (by first | exact tb_keep hM (B4.out) | exact tb_keep hM ((B4.out).alloc (B4.out.size) _) | exact tb_keep hM (((B4.out).alloc (B4.out.size) _).alloc (by have := B4.out.size; simp <;> omega) _) | exact tb_keep hM ((((B4.out).alloc (B4.out.size) _).alloc (by have := B4.out.size; simp <;> omega) _).alloc (by have := B4.out.size; simp <;> omega) _))).mono ?_
  rintro e V5 ⟨rfl, hb5⟩
  clear A1_0 A1_1 A1_2 A1_3 A1_4 A1_5 A1_6 zA1 D1_0 D1_1 zD1 Z1_0 Z1_1 Z1_2 Z1_3 Z1_4 Z1_5 Z1_6 Z1_f0 Z1_f1 Z1_f2 Z1_f3 Z1_f4 Z1_f5 Z1_f6 zZ1 R1_0 R1_1 zR1 Q1_0 Q1_1 Q1_2 Q1_3 zQ1
  have B5 : Hid (Below w.heap.size w V5) := by first | exact Lib.hid ((B4.out).trans (hb5.mono (by have := B4.out.size; first | assumption | (simp <;> omega) | (simp; done)))) | exact Lib.hid (((B4.out).alloc (B4.out.size) _).trans (hb5.mono (by have := B4.out.size; first | assumption | (simp <;> omega) | (simp; done)))) | exact Lib.hid ((((B4.out).alloc (B4.out.size) _).alloc (by have := B4.out.size; simp <;> omega) _).trans (hb5.mono (by have := B4.out.size; first | assumption | (simp <;> omega) | (simp; done)))) | exact Lib.hid (((((B4.out).alloc (B4.out.size) _).alloc (by have := B4.out.size; simp <;> omega) _).alloc (by have := B4.out.size; simp <;> omega) _).trans (hb5.mono (by have := B4.out.size; first | assumption | (simp <;> omega) | (simp; done))))
  first | replace A1 := Lib.hid (row_call hb5 A1.out) | replace A1 := Lib.hid (row_call hb5 (row_alloc A1.out _)) | replace A1 := Lib.hid (row_call hb5 (row_alloc (row_alloc A1.out _) _)) | replace A1 := Lib.hid (row_call hb5 (row_alloc (row_alloc (row_alloc A1.out _) _) _))
  first | replace D1 := Lib.hid (row_call hb5 D1.out) | replace D1 := Lib.hid (row_call hb5 (row_alloc D1.out _)) | replace D1 := Lib.hid (row_call hb5 (row_alloc (row_alloc D1.out _) _)) | replace D1 := Lib.hid (row_call hb5 (row_alloc (row_alloc (row_alloc D1.out _) _) _))
  first | replace Z1 := Lib.hid (row_call hb5 Z1.out) | replace Z1 := Lib.hid (row_call hb5 (row_alloc Z1.out _)) | replace Z1 := Lib.hid (row_call hb5 (row_alloc (row_alloc Z1.out _) _)) | replace Z1 := Lib.hid (row_call hb5 (row_alloc (row_alloc (row_alloc Z1.out _) _) _))
  first | replace R1 := Lib.hid (row_call hb5 R1.out) | replace R1 := Lib.hid (row_call hb5 (row_alloc R1.out _)) | replace R1 := Lib.hid (row_call hb5 (row_alloc (row_alloc R1.out _) _)) | replace R1 := Lib.hid (row_call hb5 (row_alloc (row_alloc (row_alloc R1.out _) _) _))
  first | replace Q1 := Lib.hid (row_call hb5 Q1.out) | replace Q1 := Lib.hid (row_call hb5 (row_alloc Q1.out _)) | replace Q1 := Lib.hid (row_call hb5 (row_alloc (row_alloc Q1.out _) _)) | replace Q1 := Lib.hid (row_call hb5 (row_alloc (row_alloc (row_alloc Q1.out _) _) _))
  clear hb5
  have A1_0 : V5.cell? ⟨w.heap.size, 0, none⟩ = some (.int .i64 y) := cell_of_row _ _ _ _ _ _ A1.out
  have A1_1 : V5.cell? ⟨w.heap.size, 1, none⟩ = some (.int .i64 m) := cell_of_row _ _ _ _ _ _ A1.out
  have A1_2 : V5.cell? ⟨w.heap.size, 2, none⟩ = some (.int .i64 d) := cell_of_row _ _ _ _ _ _ A1.out
  have A1_3 : V5.cell? ⟨w.heap.size, 3, none⟩ = some (.int .i64 h) := cell_of_row _ _ _ _ _ _ A1.out
  have A1_4 : V5.cell? ⟨w.heap.size, 4, none⟩ = some (.int .i64 i) := cell_of_row _ _ _ _ _ _ A1.out
  have A1_5 : V5.cell? ⟨w.heap.size, 5, none⟩ = some (.int .i64 s) := cell_of_row _ _ _ _ _ _ A1.out
  have A1_6 : V5.cell? ⟨w.heap.size, 6, none⟩ = some (.int .i64 n) := cell_of_row _ _ _ _ _ _ A1.out
  have D1_0 : V5.cell? ⟨w.heap.size + 1, 0, none⟩ = some (.int .i64 c) := cell_of_row _ _ _ _ _ _ D1.out
  have D1_1 : V5.cell? ⟨w.heap.size + 1, 1, none⟩ = some (.int .i64 k) := cell_of_row _ _ _ _ _ _ D1.out
  have Z1_0 : V5.cell? ⟨w.heap.size + 1 + 1, 0, none⟩ = some (.int .i64 0) := cell_of_row _ _ _ _ _ _ Z1.out
  have Z1_1 : V5.cell? ⟨w.heap.size + 1 + 1, 1, none⟩ = some (.int .i64 0) := cell_of_row _ _ _ _ _ _ Z1.out
  have Z1_2 : V5.cell? ⟨w.heap.size + 1 + 1, 2, none⟩ = some (.int .i64 0) := cell_of_row _ _ _ _ _ _ Z1.out
  have Z1_3 : V5.cell? ⟨w.heap.size + 1 + 1, 3, none⟩ = some (.int .i64 0) := cell_of_row _ _ _ _ _ _ Z1.out
  have Z1_4 : V5.cell? ⟨w.heap.size + 1 + 1, 4, none⟩ = some (.int .i64 0) := cell_of_row _ _ _ _ _ _ Z1.out
  have Z1_5 : V5.cell? ⟨w.heap.size + 1 + 1, 5, none⟩ = some (.int .i64 0) := cell_of_row _ _ _ _ _ _ Z1.out
  have Z1_6 : V5.cell? ⟨w.heap.size + 1 + 1, 6, none⟩ = some (.int .i64 0) := cell_of_row _ _ _ _ _ _ Z1.out
  have Z1_f0 : V5.frozen? ⟨w.heap.size + 1 + 1, 0, none⟩ = false := by simp [World.frozen?, Z1.out]
  have Z1_f1 : V5.frozen? ⟨w.heap.size + 1 + 1, 1, none⟩ = false := by simp [World.frozen?, Z1.out]
  have Z1_f2 : V5.frozen? ⟨w.heap.size + 1 + 1, 2, none⟩ = false := by simp [World.frozen?, Z1.out]
  have Z1_f3 : V5.frozen? ⟨w.heap.size + 1 + 1, 3, none⟩ = false := by simp [World.frozen?, Z1.out]
  have Z1_f4 : V5.frozen? ⟨w.heap.size + 1 + 1, 4, none⟩ = false := by simp [World.frozen?, Z1.out]
  have Z1_f5 : V5.frozen? ⟨w.heap.size + 1 + 1, 5, none⟩ = false := by simp [World.frozen?, Z1.out]
  have Z1_f6 : V5.frozen? ⟨w.heap.size + 1 + 1, 6, none⟩ = false := by simp [World.frozen?, Z1.out]
  have R1_0 : V5.cell? ⟨V1.heap.size, 0, none⟩ = some (.int .i64 D0) := cell_of_row _ _ _ _ _ _ R1.out
  have R1_1 : V5.cell? ⟨V1.heap.size, 1, none⟩ = some (.int .i64 N) := cell_of_row _ _ _ _ _ _ R1.out
  have Q1_0 : V5.cell? ⟨V2.heap.size, 0, none⟩ = some (.int .i64 T0) := cell_of_row _ _ _ _ _ _ Q1.out
  have Q1_1 : V5.cell? ⟨V2.heap.size, 1, none⟩ = some (.int .i64 T1) := cell_of_row _ _ _ _ _ _ Q1.out
  have Q1_2 : V5.cell? ⟨V2.heap.size, 2, none⟩ = some (.int .i64 T2) := cell_of_row _ _ _ _ _ _ Q1.out
  have Q1_3 : V5.cell? ⟨V2.heap.size, 3, none⟩ = some (.int .i64 T3) := cell_of_row _ _ _ _ _ _ Q1.out
  have zA1 := lt_of_heap A1.out
  have zD1 := lt_of_heap D1.out
  have zZ1 := lt_of_heap Z1.out
  have zR1 := lt_of_heap R1.out
  have zQ1 := lt_of_heap Q1.out
  go_simp
  have rZ1 := setRow_heap (V5.alloc (Obj.cells #[Value.int .i64 Y, Value.int .i64 M, Value.int .i64 X] 23)) (w.heap.size + 1 + 1) _ #[Value.int .i64 Y, Value.int .i64 M, Value.int .i64 X, Value.int .i64 T0, Value.int .i64 T1, Value.int .i64 T2, Value.int .i64 T3] _ _ (row_alloc Z1.out _)
  have rZ1_0 : ((V5.alloc (Obj.cells #[Value.int .i64 Y, Value.int .i64 M, Value.int .i64 X] 23)).setRow (w.heap.size + 1 + 1) #[Value.int .i64 Y, Value.int .i64 M, Value.int .i64 X, Value.int .i64 T0, Value.int .i64 T1, Value.int .i64 T2, Value.int .i64 T3]).cell? ⟨w.heap.size + 1 + 1, 0, none⟩ = some (.int .i64 Y) := cell_of_row _ _ _ _ _ _ rZ1
  have rZ1_1 : ((V5.alloc (Obj.cells #[Value.int .i64 Y, Value.int .i64 M, Value.int .i64 X] 23)).setRow (w.heap.size + 1 + 1) #[Value.int .i64 Y, Value.int .i64 M, Value.int .i64 X, Value.int .i64 T0, Value.int .i64 T1, Value.int .i64 T2, Value.int .i64 T3]).cell? ⟨w.heap.size + 1 + 1, 1, none⟩ = some (.int .i64 M) := cell_of_row _ _ _ _ _ _ rZ1
  have rZ1_2 : ((V5.alloc (Obj.cells #[Value.int .i64 Y, Value.int .i64 M, Value.int .i64 X] 23)).setRow (w.heap.size + 1 + 1) #[Value.int .i64 Y, Value.int .i64 M, Value.int .i64 X, Value.int .i64 T0, Value.int .i64 T1, Value.int .i64 T2, Value.int .i64 T3]).cell? ⟨w.heap.size + 1 + 1, 2, none⟩ = some (.int .i64 X) := cell_of_row _ _ _ _ _ _ rZ1
  have rZ1_3 : ((V5.alloc (Obj.cells #[Value.int .i64 Y, Value.int .i64 M, Value.int .i64 X] 23)).setRow (w.heap.size + 1 + 1) #[Value.int .i64 Y, Value.int .i64 M, Value.int .i64 X, Value.int .i64 T0, Value.int .i64 T1, Value.int .i64 T2, Value.int .i64 T3]).cell? ⟨w.heap.size + 1 + 1, 3, none⟩ = some (.int .i64 T0) := cell_of_row _ _ _ _ _ _ rZ1
  have rZ1_4 : ((V5.alloc (Obj.cells #[Value.int .i64 Y, Value.int .i64 M, Value.int .i64 X] 23)).setRow (w.heap.size + 1 + 1) #[Value.int .i64 Y, Value.int .i64 M, Value.int .i64 X, Value.int .i64 T0, Value.int .i64 T1, Value.int .i64 T2, Value.int .i64 T3]).cell? ⟨w.heap.size + 1 + 1, 4, none⟩ = some (.int .i64 T1) := cell_of_row _ _ _ _ _ _ rZ1
  have rZ1_5 : ((V5.alloc (Obj.cells #[Value.int .i64 Y, Value.int .i64 M, Value.int .i64 X] 23)).setRow (w.heap.size + 1 + 1) #[Value.int .i64 Y, Value.int .i64 M, Value.int .i64 X, Value.int .i64 T0, Value.int .i64 T1, Value.int .i64 T2, Value.int .i64 T3]).cell? ⟨w.heap.size + 1 + 1, 5, none⟩ = some (.int .i64 T2) := cell_of_row _ _ _ _ _ _ rZ1
  have rZ1_6 : ((V5.alloc (Obj.cells #[Value.int .i64 Y, Value.int .i64 M, Value.int .i64 X] 23)).setRow (w.heap.size + 1 + 1) #[Value.int .i64 Y, Value.int .i64 M, Value.int .i64 X, Value.int .i64 T0, Value.int .i64 T1, Value.int .i64 T2, Value.int .i64 T3]).cell? ⟨w.heap.size + 1 + 1, 6, none⟩ = some (.int .i64 T3) := cell_of_row _ _ _ _ _ _ rZ1
  go_wp2_with (refine wpList_store_row (by rfl) 27 _ _ (by rfl) (w.heap.size + 1 + 1) #[Value.int .i64 Y, Value.int .i64 M, Value.int .i64 X, Value.int .i64 T0, Value.int .i64 T1, Value.int .i64 T2, Value.int .i64 T3] (by rfl) (by rfl) _ _ (row_alloc Z1.out _) (by kernel_rfl) (by rfl) (by simp [Value.oneCell']) ?_)
  refine shut_ret (v := .tuple #[.agg #[.int .i64 Y, .int .i64 M, .int .i64 X, .int .i64 T0, .int .i64 T1, .int .i64 T2, .int .i64 T3], .int .i64 0]) (by simp [results, Tryd.results14, go_sem, rZ1_0, rZ1_1, rZ1_2, rZ1_3, rZ1_4, rZ1_5, rZ1_6]) rfl ⟨rfl, ?_⟩
  exact keepRow (B5.out.alloc (by have := B5.out.size; omega) _) (by omega) _
end Go.Proofs.YtaoljjhhbmblhaaDoor
namespace Go.Proofs.YtaoljjhhbmblhaaDoor
set_option linter.unusedVariables false
set_option linter.unusedSimpArgs false
open Go.ChangeShapes Go.WideShapes Go.ChangeAt Go.RowKit
def or5 (x y z u v : Int) : Int := if x = 0 then (if y = 0 then (if z = 0 then (if u = 0 then v else u) else z) else y) else x
set_option maxHeartbeats 1600000 in
set_option maxRecDepth 100000 in
theorem or5_any (x y z u v : Int) (b : Nat) (w : World) (c0 : w.cell? ⟨b, 0, none⟩ = some (.int .i64 x)) (c1 : w.cell? ⟨b, 1, none⟩ = some (.int .i64 y)) (c2 : w.cell? ⟨b, 2, none⟩ = some (.int .i64 z)) (c3 : w.cell? ⟨b, 3, none⟩ = some (.int .i64 u)) (c4 : w.cell? ⟨b, 4, none⟩ = some (.int .i64 v)) :
    Calls Tryd.prog 41 #[.slice (some ⟨b, 0, none⟩) 5 5] w fun e w' => e = .returned (.int .i64 (or5 x y z u v)) ∧ Below w.heap.size w w' := by
  by_cases h0 : x = 0
  rotate_left
  · have E := Lib.hid (show or5 x y z u v = x from by unfold or5; rw [if_neg h0])
    have f3 : (x != 0) = true := by rw [bne_iff_ne]; exact h0
    clear h0
    go_enter Tryd.func41, Tryd.ntmps41
    go_wp2
    refine wp_loop_rounds 6 ?_
    rw [rounds_succ]
    go_wp2
    go_ret
    exact ⟨by rw [E.out]; try rfl, Below.refl _ _⟩
  subst h0
  by_cases h1 : y = 0
  rotate_left
  · have E := Lib.hid (show or5 0 y z u v = y from by unfold or5; rw [if_pos rfl, if_neg h1])
    have f3 : (y != 0) = true := by rw [bne_iff_ne]; exact h1
    clear h1
    go_enter Tryd.func41, Tryd.ntmps41
    go_wp2
    refine wp_loop_rounds 6 ?_
    rw [rounds_succ]
    go_wp2
    rw [rounds_succ]
    go_wp2
    go_ret
    exact ⟨by rw [E.out]; try rfl, Below.refl _ _⟩
  subst h1
  by_cases h2 : z = 0
  rotate_left
  · have E := Lib.hid (show or5 0 0 z u v = z from by unfold or5; rw [if_pos rfl, if_pos rfl, if_neg h2])
    have f3 : (z != 0) = true := by rw [bne_iff_ne]; exact h2
    clear h2
    go_enter Tryd.func41, Tryd.ntmps41
    go_wp2
    refine wp_loop_rounds 6 ?_
    rw [rounds_succ]
    go_wp2
    rw [rounds_succ]
    go_wp2
    rw [rounds_succ]
    go_wp2
    go_ret
    exact ⟨by rw [E.out]; try rfl, Below.refl _ _⟩
  subst h2
  by_cases h3 : u = 0
  rotate_left
  · have E := Lib.hid (show or5 0 0 0 u v = u from by unfold or5; rw [if_pos rfl, if_pos rfl, if_pos rfl, if_neg h3])
    have f3 : (u != 0) = true := by rw [bne_iff_ne]; exact h3
    clear h3
    go_enter Tryd.func41, Tryd.ntmps41
    go_wp2
    refine wp_loop_rounds 6 ?_
    rw [rounds_succ]
    go_wp2
    rw [rounds_succ]
    go_wp2
    rw [rounds_succ]
    go_wp2
    rw [rounds_succ]
    go_wp2
    go_ret
    exact ⟨by rw [E.out]; try rfl, Below.refl _ _⟩
  subst h3
  by_cases h4 : v = 0
  · subst h4
    have E := Lib.hid (show or5 0 0 0 0 0 = 0 from rfl)
    go_enter Tryd.func41, Tryd.ntmps41
    go_wp2
    refine wp_loop_rounds 6 ?_
    rw [rounds_succ]
    go_wp2
    rw [rounds_succ]
    go_wp2
    rw [rounds_succ]
    go_wp2
    rw [rounds_succ]
    go_wp2
    rw [rounds_succ]
    go_wp2
    rw [rounds_succ]
    go_wp2
    go_ret
    exact ⟨by rw [E.out]; try rfl, Below.refl _ _⟩
  · have E := Lib.hid (show or5 0 0 0 0 v = v from rfl)
    have f3 : (v != 0) = true := by rw [bne_iff_ne]; exact h4
    clear h4
    go_enter Tryd.func41, Tryd.ntmps41
    go_wp2
    refine wp_loop_rounds 6 ?_
    rw [rounds_succ]
    go_wp2
    rw [rounds_succ]
    go_wp2
    rw [rounds_succ]
    go_wp2
    rw [rounds_succ]
    go_wp2
    rw [rounds_succ]
    go_wp2
    go_ret
    exact ⟨by rw [E.out]; try rfl, Below.refl _ _⟩
theorem ord2_or (a b c d : Int) : (if ordI a c = 0 then ordI b d else ordI a c) = ord2 a b c d := by
  rw [ord2_of]
  rcases ordI_cases a c with ⟨h, e⟩ | ⟨h, e⟩ | ⟨h, e⟩ <;> rcases ordI_cases b d with ⟨h2, e2⟩ | ⟨h2, e2⟩ | ⟨h2, e2⟩ <;> rw [e, e2] <;> (repeat' split) <;> omega
theorem or5_ord (y m d h i s n y' m' d' h' i' s' n' : Int) : or5 (ord3 y m d y' m' d') (ordI h h') (ordI i i') (ordI s s') (ordI n n') = ordT y m d h i s n y' m' d' h' i' s' n' := by
  unfold or5 ordT
  rw [ord2_or s n s' n', ← ord2_or h i h' i']
  by_cases k : ord3 y m d y' m' d' = 0
  · rw [if_pos k, if_pos k]
    by_cases k2 : ordI h h' = 0
    · rw [if_pos k2, if_pos k2]
    · rw [if_neg k2, if_neg k2, if_neg k2]
  · rw [if_neg k, if_neg k]
set_option maxHeartbeats 3200000 in
set_option maxRecDepth 100000 in
theorem ptCmp_any (y m d h i s n y' m' d' h' i' s' n' : Int) (w : World) :
    Calls Tryd.prog 18 #[.agg #[.int .i64 y, .int .i64 m, .int .i64 d, .int .i64 h, .int .i64 i, .int .i64 s, .int .i64 n], .agg #[.int .i64 y', .int .i64 m', .int .i64 d', .int .i64 h', .int .i64 i', .int .i64 s', .int .i64 n']] w fun e w' => e = .returned (.int .i64 (ordT y m d h i s n y' m' d' h' i' s' n')) ∧ Below w.heap.size w w' := by
  have H1 := Lib.hid (pCmp_any y m d y' m' d')
  have H2 := Lib.hid (ccmp_any h h')
  have H3 := Lib.hid (ccmp_any i i')
  have H4 := Lib.hid (ccmp_any s s')
  have H5 := Lib.hid (ccmp_any n n')
  have X6 := or5_any (ord3 y m d y' m' d') (ordI h h') (ordI i i') (ordI s s') (ordI n n')
  rw [or5_ord] at X6
  have H6 := Lib.hid X6
  clear X6
  generalize ordT y m d h i s n y' m' d' h' i' s' n' = E at *
  generalize ord3 y m d y' m' d' = c1 at *
  generalize ordI h h' = c2 at *
  generalize ordI i i' = c3 at *
  generalize ordI s s' = c4 at *
  generalize ordI n n' = c5 at *
  go_enter Tryd.func18, Tryd.ntmps18
  go_wp2_with fail
  
  obtain ⟨W0, hW0⟩ : ∃ W0, W0 = ((w.alloc (Obj.cells #[Value.int .i64 y, Value.int .i64 m, Value.int .i64 d, Value.int .i64 h, Value.int .i64 i, Value.int .i64 s, Value.int .i64 n] 27)).alloc (Obj.cells #[Value.int .i64 y', Value.int .i64 m', Value.int .i64 d', Value.int .i64 h', Value.int .i64 i', Value.int .i64 s', Value.int .i64 n'] 27)) := ⟨_, rfl⟩
  have A1 := Lib.hid (row_at (k' := w.heap.size) (by simp) (row_by hW0 (row_alloc (heap_alloc_new _ _) _)))
  have D1 := Lib.hid (row_at (k' := w.heap.size + 1) (by simp) (row_by hW0 (heap_alloc_new _ _)))
  have HB0 := Lib.hid (below_by hW0 (((Below.refl w.heap.size w).alloc (by simp <;> omega) _).alloc (by simp <;> omega) _))
  have HW0 := Lib.hid hW0
  clear hW0
  have A1_0 : W0.cell? ⟨w.heap.size, 0, none⟩ = some (.int .i64 y) := cell_of_row _ _ _ _ _ _ A1.out
  have A1_1 : W0.cell? ⟨w.heap.size, 1, none⟩ = some (.int .i64 m) := cell_of_row _ _ _ _ _ _ A1.out
  have A1_2 : W0.cell? ⟨w.heap.size, 2, none⟩ = some (.int .i64 d) := cell_of_row _ _ _ _ _ _ A1.out
  have A1_3 : W0.cell? ⟨w.heap.size, 3, none⟩ = some (.int .i64 h) := cell_of_row _ _ _ _ _ _ A1.out
  have A1_4 : W0.cell? ⟨w.heap.size, 4, none⟩ = some (.int .i64 i) := cell_of_row _ _ _ _ _ _ A1.out
  have A1_5 : W0.cell? ⟨w.heap.size, 5, none⟩ = some (.int .i64 s) := cell_of_row _ _ _ _ _ _ A1.out
  have A1_6 : W0.cell? ⟨w.heap.size, 6, none⟩ = some (.int .i64 n) := cell_of_row _ _ _ _ _ _ A1.out
  have zA1 := lt_of_heap A1.out
  have D1_0 : W0.cell? ⟨w.heap.size + 1, 0, none⟩ = some (.int .i64 y') := cell_of_row _ _ _ _ _ _ D1.out
  have D1_1 : W0.cell? ⟨w.heap.size + 1, 1, none⟩ = some (.int .i64 m') := cell_of_row _ _ _ _ _ _ D1.out
  have D1_2 : W0.cell? ⟨w.heap.size + 1, 2, none⟩ = some (.int .i64 d') := cell_of_row _ _ _ _ _ _ D1.out
  have D1_3 : W0.cell? ⟨w.heap.size + 1, 3, none⟩ = some (.int .i64 h') := cell_of_row _ _ _ _ _ _ D1.out
  have D1_4 : W0.cell? ⟨w.heap.size + 1, 4, none⟩ = some (.int .i64 i') := cell_of_row _ _ _ _ _ _ D1.out
  have D1_5 : W0.cell? ⟨w.heap.size + 1, 5, none⟩ = some (.int .i64 s') := cell_of_row _ _ _ _ _ _ D1.out
  have D1_6 : W0.cell? ⟨w.heap.size + 1, 6, none⟩ = some (.int .i64 n') := cell_of_row _ _ _ _ _ _ D1.out
  have zD1 := lt_of_heap D1.out
  try rw [← HW0.out]
  go_cut [5, 6] (fun s5 s6 wx => ∃ gK1 gK2 : Nat, s5 = .pointer (some ⟨gK1, 0, none⟩) ∧ s6 = .pointer (some ⟨gK2, 0, none⟩) ∧ wx.heap[gK1]? = some (.cells #[.int .i64 h, .int .i64 i, .int .i64 s, .int .i64 n] 25 (0, 0)) ∧ wx.heap[gK2]? = some (.cells #[.int .i64 h', .int .i64 i', .int .i64 s', .int .i64 n'] 25 (0, 0)) ∧ Below W0.heap.size W0 wx)
  case first =>
    go_region
    all_goals (go_wp2_with fail; go_meet; refine ⟨_, _, rfl, rfl, ?_, ?_, ?_⟩)
    all_goals first | exact row_alloc (heap_alloc_new _ _) _ | exact heap_alloc_new _ _ | exact row_at (by simp) (heap_alloc_new _ _) | exact (keepA (keepA (Below.refl _ _) _) _).drew
  case rest =>
    obtain ⟨gK1, gK2, rfl, rfl, hK1, hK2, hB⟩ := hcut
    obtain ⟨V1, rfl⟩ : ∃ V, V = wc := ⟨_, rfl⟩
    have K1 := Lib.hid hK1
    clear hK1
    have K2 := Lib.hid hK2
    clear hK2
    clear A1_0 A1_1 A1_2 A1_3 A1_4 A1_5 A1_6 zA1 D1_0 D1_1 D1_2 D1_3 D1_4 D1_5 D1_6 zD1
    replace A1 := Lib.hid (row_call hB A1.out)
    replace D1 := Lib.hid (row_call hB D1.out)
    have B1 := Lib.hid (HB0.out.trans (hB.mono HB0.out.size))
    clear hB
    have A1_0 : V1.cell? ⟨w.heap.size, 0, none⟩ = some (.int .i64 y) := cell_of_row _ _ _ _ _ _ A1.out
    have A1_1 : V1.cell? ⟨w.heap.size, 1, none⟩ = some (.int .i64 m) := cell_of_row _ _ _ _ _ _ A1.out
    have A1_2 : V1.cell? ⟨w.heap.size, 2, none⟩ = some (.int .i64 d) := cell_of_row _ _ _ _ _ _ A1.out
    have A1_3 : V1.cell? ⟨w.heap.size, 3, none⟩ = some (.int .i64 h) := cell_of_row _ _ _ _ _ _ A1.out
    have A1_4 : V1.cell? ⟨w.heap.size, 4, none⟩ = some (.int .i64 i) := cell_of_row _ _ _ _ _ _ A1.out
    have A1_5 : V1.cell? ⟨w.heap.size, 5, none⟩ = some (.int .i64 s) := cell_of_row _ _ _ _ _ _ A1.out
    have A1_6 : V1.cell? ⟨w.heap.size, 6, none⟩ = some (.int .i64 n) := cell_of_row _ _ _ _ _ _ A1.out
    have zA1 := lt_of_heap A1.out
    have D1_0 : V1.cell? ⟨w.heap.size + 1, 0, none⟩ = some (.int .i64 y') := cell_of_row _ _ _ _ _ _ D1.out
    have D1_1 : V1.cell? ⟨w.heap.size + 1, 1, none⟩ = some (.int .i64 m') := cell_of_row _ _ _ _ _ _ D1.out
    have D1_2 : V1.cell? ⟨w.heap.size + 1, 2, none⟩ = some (.int .i64 d') := cell_of_row _ _ _ _ _ _ D1.out
    have D1_3 : V1.cell? ⟨w.heap.size + 1, 3, none⟩ = some (.int .i64 h') := cell_of_row _ _ _ _ _ _ D1.out
    have D1_4 : V1.cell? ⟨w.heap.size + 1, 4, none⟩ = some (.int .i64 i') := cell_of_row _ _ _ _ _ _ D1.out
    have D1_5 : V1.cell? ⟨w.heap.size + 1, 5, none⟩ = some (.int .i64 s') := cell_of_row _ _ _ _ _ _ D1.out
    have D1_6 : V1.cell? ⟨w.heap.size + 1, 6, none⟩ = some (.int .i64 n') := cell_of_row _ _ _ _ _ _ D1.out
    have zD1 := lt_of_heap D1.out
    have K1_0 : V1.cell? ⟨gK1, 0, none⟩ = some (.int .i64 h) := cell_of_row _ _ _ _ _ _ K1.out
    have K1_1 : V1.cell? ⟨gK1, 1, none⟩ = some (.int .i64 i) := cell_of_row _ _ _ _ _ _ K1.out
    have K1_2 : V1.cell? ⟨gK1, 2, none⟩ = some (.int .i64 s) := cell_of_row _ _ _ _ _ _ K1.out
    have K1_3 : V1.cell? ⟨gK1, 3, none⟩ = some (.int .i64 n) := cell_of_row _ _ _ _ _ _ K1.out
    have zK1 := lt_of_heap K1.out
    have K2_0 : V1.cell? ⟨gK2, 0, none⟩ = some (.int .i64 h') := cell_of_row _ _ _ _ _ _ K2.out
    have K2_1 : V1.cell? ⟨gK2, 1, none⟩ = some (.int .i64 i') := cell_of_row _ _ _ _ _ _ K2.out
    have K2_2 : V1.cell? ⟨gK2, 2, none⟩ = some (.int .i64 s') := cell_of_row _ _ _ _ _ _ K2.out
    have K2_3 : V1.cell? ⟨gK2, 3, none⟩ = some (.int .i64 n') := cell_of_row _ _ _ _ _ _ K2.out
    have zK2 := lt_of_heap K2.out
    go_wp2_with fail
    clear A1_0 A1_1 A1_2 A1_3 A1_4 A1_5 A1_6 zA1 D1_0 D1_1 D1_2 D1_3 D1_4 D1_5 D1_6 zD1 K1_0 K1_1 K1_2 K1_3 zK1 K2_0 K2_1 K2_2 K2_3 zK2
    obtain ⟨W0, hW0⟩ : ∃ W0, W0 = V1 := ⟨_, rfl⟩
    replace A1 := Lib.hid (row_by hW0 A1.out)
    replace D1 := Lib.hid (row_by hW0 D1.out)
    replace K1 := Lib.hid (row_by hW0 K1.out)
    replace K2 := Lib.hid (row_by hW0 K2.out)
    have HB0 := Lib.hid (below_by hW0 (B1.out))
    have HW0 := Lib.hid hW0
    clear hW0
    have A1_0 : W0.cell? ⟨w.heap.size, 0, none⟩ = some (.int .i64 y) := cell_of_row _ _ _ _ _ _ A1.out
    have A1_1 : W0.cell? ⟨w.heap.size, 1, none⟩ = some (.int .i64 m) := cell_of_row _ _ _ _ _ _ A1.out
    have A1_2 : W0.cell? ⟨w.heap.size, 2, none⟩ = some (.int .i64 d) := cell_of_row _ _ _ _ _ _ A1.out
    have A1_3 : W0.cell? ⟨w.heap.size, 3, none⟩ = some (.int .i64 h) := cell_of_row _ _ _ _ _ _ A1.out
    have A1_4 : W0.cell? ⟨w.heap.size, 4, none⟩ = some (.int .i64 i) := cell_of_row _ _ _ _ _ _ A1.out
    have A1_5 : W0.cell? ⟨w.heap.size, 5, none⟩ = some (.int .i64 s) := cell_of_row _ _ _ _ _ _ A1.out
    have A1_6 : W0.cell? ⟨w.heap.size, 6, none⟩ = some (.int .i64 n) := cell_of_row _ _ _ _ _ _ A1.out
    have zA1 := lt_of_heap A1.out
    have D1_0 : W0.cell? ⟨w.heap.size + 1, 0, none⟩ = some (.int .i64 y') := cell_of_row _ _ _ _ _ _ D1.out
    have D1_1 : W0.cell? ⟨w.heap.size + 1, 1, none⟩ = some (.int .i64 m') := cell_of_row _ _ _ _ _ _ D1.out
    have D1_2 : W0.cell? ⟨w.heap.size + 1, 2, none⟩ = some (.int .i64 d') := cell_of_row _ _ _ _ _ _ D1.out
    have D1_3 : W0.cell? ⟨w.heap.size + 1, 3, none⟩ = some (.int .i64 h') := cell_of_row _ _ _ _ _ _ D1.out
    have D1_4 : W0.cell? ⟨w.heap.size + 1, 4, none⟩ = some (.int .i64 i') := cell_of_row _ _ _ _ _ _ D1.out
    have D1_5 : W0.cell? ⟨w.heap.size + 1, 5, none⟩ = some (.int .i64 s') := cell_of_row _ _ _ _ _ _ D1.out
    have D1_6 : W0.cell? ⟨w.heap.size + 1, 6, none⟩ = some (.int .i64 n') := cell_of_row _ _ _ _ _ _ D1.out
    have zD1 := lt_of_heap D1.out
    have K1_0 : W0.cell? ⟨gK1, 0, none⟩ = some (.int .i64 h) := cell_of_row _ _ _ _ _ _ K1.out
    have K1_1 : W0.cell? ⟨gK1, 1, none⟩ = some (.int .i64 i) := cell_of_row _ _ _ _ _ _ K1.out
    have K1_2 : W0.cell? ⟨gK1, 2, none⟩ = some (.int .i64 s) := cell_of_row _ _ _ _ _ _ K1.out
    have K1_3 : W0.cell? ⟨gK1, 3, none⟩ = some (.int .i64 n) := cell_of_row _ _ _ _ _ _ K1.out
    have zK1 := lt_of_heap K1.out
    have K2_0 : W0.cell? ⟨gK2, 0, none⟩ = some (.int .i64 h') := cell_of_row _ _ _ _ _ _ K2.out
    have K2_1 : W0.cell? ⟨gK2, 1, none⟩ = some (.int .i64 i') := cell_of_row _ _ _ _ _ _ K2.out
    have K2_2 : W0.cell? ⟨gK2, 2, none⟩ = some (.int .i64 s') := cell_of_row _ _ _ _ _ _ K2.out
    have K2_3 : W0.cell? ⟨gK2, 3, none⟩ = some (.int .i64 n') := cell_of_row _ _ _ _ _ _ K2.out
    have zK2 := lt_of_heap K2.out
    try rw [← HW0.out]
    go_cut [4] (fun s4 wx => s4 = .int .i64 E ∧ Below W0.heap.size W0 wx)
    case first =>
      go_region_held3 (fun w' => Below W0.heap.size W0 w' ∧ w'.cell? ⟨w.heap.size, 0, none⟩ = some (.int .i64 y) ∧ w'.cell? ⟨w.heap.size, 1, none⟩ = some (.int .i64 m) ∧ w'.cell? ⟨w.heap.size, 2, none⟩ = some (.int .i64 d) ∧ w'.cell? ⟨w.heap.size, 3, none⟩ = some (.int .i64 h) ∧ w'.cell? ⟨w.heap.size, 4, none⟩ = some (.int .i64 i) ∧ w'.cell? ⟨w.heap.size, 5, none⟩ = some (.int .i64 s) ∧ w'.cell? ⟨w.heap.size, 6, none⟩ = some (.int .i64 n) ∧ w'.cell? ⟨w.heap.size + 1, 0, none⟩ = some (.int .i64 y') ∧ w'.cell? ⟨w.heap.size + 1, 1, none⟩ = some (.int .i64 m') ∧ w'.cell? ⟨w.heap.size + 1, 2, none⟩ = some (.int .i64 d') ∧ w'.cell? ⟨w.heap.size + 1, 3, none⟩ = some (.int .i64 h') ∧ w'.cell? ⟨w.heap.size + 1, 4, none⟩ = some (.int .i64 i') ∧ w'.cell? ⟨w.heap.size + 1, 5, none⟩ = some (.int .i64 s') ∧ w'.cell? ⟨w.heap.size + 1, 6, none⟩ = some (.int .i64 n') ∧ w'.cell? ⟨gK1, 0, none⟩ = some (.int .i64 h) ∧ w'.cell? ⟨gK1, 1, none⟩ = some (.int .i64 i) ∧ w'.cell? ⟨gK1, 2, none⟩ = some (.int .i64 s) ∧ w'.cell? ⟨gK1, 3, none⟩ = some (.int .i64 n) ∧ w'.cell? ⟨gK2, 0, none⟩ = some (.int .i64 h') ∧ w'.cell? ⟨gK2, 1, none⟩ = some (.int .i64 i') ∧ w'.cell? ⟨gK2, 2, none⟩ = some (.int .i64 s') ∧ w'.cell? ⟨gK2, 3, none⟩ = some (.int .i64 n'))
    (first
      | ((try go_split_ands); refine ⟨(Below.refl _ _).drew, ?_, ?_, ?_, ?_, ?_, ?_, ?_, ?_, ?_, ?_, ?_, ?_, ?_, ?_, ?_, ?_, ?_, ?_, ?_, ?_, ?_, ?_⟩ <;> first | assumption | (rw [World.cell?_drew]; assumption))
      | ((try go_split_ands); refine ⟨keepS (W0 := W0) ?_ hb1, cellS (W0 := W0) ?_ hb1 ?_ ?_, cellS (W0 := W0) ?_ hb1 ?_ ?_, cellS (W0 := W0) ?_ hb1 ?_ ?_, cellS (W0 := W0) ?_ hb1 ?_ ?_, cellS (W0 := W0) ?_ hb1 ?_ ?_, cellS (W0 := W0) ?_ hb1 ?_ ?_, cellS (W0 := W0) ?_ hb1 ?_ ?_, cellS (W0 := W0) ?_ hb1 ?_ ?_, cellS (W0 := W0) ?_ hb1 ?_ ?_, cellS (W0 := W0) ?_ hb1 ?_ ?_, cellS (W0 := W0) ?_ hb1 ?_ ?_, cellS (W0 := W0) ?_ hb1 ?_ ?_, cellS (W0 := W0) ?_ hb1 ?_ ?_, cellS (W0 := W0) ?_ hb1 ?_ ?_, cellS (W0 := W0) ?_ hb1 ?_ ?_, cellS (W0 := W0) ?_ hb1 ?_ ?_, cellS (W0 := W0) ?_ hb1 ?_ ?_, cellS (W0 := W0) ?_ hb1 ?_ ?_, cellS (W0 := W0) ?_ hb1 ?_ ?_, cellS (W0 := W0) ?_ hb1 ?_ ?_, cellS (W0 := W0) ?_ hb1 ?_ ?_, cellS (W0 := W0) ?_ hb1 ?_ ?_⟩ <;> first | assumption | omega)
      | ((try go_split_ands); refine ⟨keepA (W0 := W0) ?_ _, cellA (W0 := W0) ?_ _ ?_ ?_, cellA (W0 := W0) ?_ _ ?_ ?_, cellA (W0 := W0) ?_ _ ?_ ?_, cellA (W0 := W0) ?_ _ ?_ ?_, cellA (W0 := W0) ?_ _ ?_ ?_, cellA (W0 := W0) ?_ _ ?_ ?_, cellA (W0 := W0) ?_ _ ?_ ?_, cellA (W0 := W0) ?_ _ ?_ ?_, cellA (W0 := W0) ?_ _ ?_ ?_, cellA (W0 := W0) ?_ _ ?_ ?_, cellA (W0 := W0) ?_ _ ?_ ?_, cellA (W0 := W0) ?_ _ ?_ ?_, cellA (W0 := W0) ?_ _ ?_ ?_, cellA (W0 := W0) ?_ _ ?_ ?_, cellA (W0 := W0) ?_ _ ?_ ?_, cellA (W0 := W0) ?_ _ ?_ ?_, cellA (W0 := W0) ?_ _ ?_ ?_, cellA (W0 := W0) ?_ _ ?_ ?_, cellA (W0 := W0) ?_ _ ?_ ?_, cellA (W0 := W0) ?_ _ ?_ ?_, cellA (W0 := W0) ?_ _ ?_ ?_, cellA (W0 := W0) ?_ _ ?_ ?_⟩ <;> first | assumption | omega)
      | ((try go_split_ands); refine ⟨keepAd (W0 := W0) ?_ _, cellAd (W0 := W0) ?_ _ ?_ ?_, cellAd (W0 := W0) ?_ _ ?_ ?_, cellAd (W0 := W0) ?_ _ ?_ ?_, cellAd (W0 := W0) ?_ _ ?_ ?_, cellAd (W0 := W0) ?_ _ ?_ ?_, cellAd (W0 := W0) ?_ _ ?_ ?_, cellAd (W0 := W0) ?_ _ ?_ ?_, cellAd (W0 := W0) ?_ _ ?_ ?_, cellAd (W0 := W0) ?_ _ ?_ ?_, cellAd (W0 := W0) ?_ _ ?_ ?_, cellAd (W0 := W0) ?_ _ ?_ ?_, cellAd (W0 := W0) ?_ _ ?_ ?_, cellAd (W0 := W0) ?_ _ ?_ ?_, cellAd (W0 := W0) ?_ _ ?_ ?_, cellAd (W0 := W0) ?_ _ ?_ ?_, cellAd (W0 := W0) ?_ _ ?_ ?_, cellAd (W0 := W0) ?_ _ ?_ ?_, cellAd (W0 := W0) ?_ _ ?_ ?_, cellAd (W0 := W0) ?_ _ ?_ ?_, cellAd (W0 := W0) ?_ _ ?_ ?_, cellAd (W0 := W0) ?_ _ ?_ ?_, cellAd (W0 := W0) ?_ _ ?_ ?_⟩ <;> first | assumption | omega | exact Below.refl _ _)
      | ((try go_split_ands); (with_reducible refine ⟨keep3 (W0 := W0) ?_ ?_ _ _ _, cell3 (W0 := W0) ?_ _ _ _ ?_ ?_, cell3 (W0 := W0) ?_ _ _ _ ?_ ?_, cell3 (W0 := W0) ?_ _ _ _ ?_ ?_, cell3 (W0 := W0) ?_ _ _ _ ?_ ?_, cell3 (W0 := W0) ?_ _ _ _ ?_ ?_, cell3 (W0 := W0) ?_ _ _ _ ?_ ?_, cell3 (W0 := W0) ?_ _ _ _ ?_ ?_, cell3 (W0 := W0) ?_ _ _ _ ?_ ?_, cell3 (W0 := W0) ?_ _ _ _ ?_ ?_, cell3 (W0 := W0) ?_ _ _ _ ?_ ?_, cell3 (W0 := W0) ?_ _ _ _ ?_ ?_, cell3 (W0 := W0) ?_ _ _ _ ?_ ?_, cell3 (W0 := W0) ?_ _ _ _ ?_ ?_, cell3 (W0 := W0) ?_ _ _ _ ?_ ?_, cell3 (W0 := W0) ?_ _ _ _ ?_ ?_, cell3 (W0 := W0) ?_ _ _ _ ?_ ?_, cell3 (W0 := W0) ?_ _ _ _ ?_ ?_, cell3 (W0 := W0) ?_ _ _ _ ?_ ?_, cell3 (W0 := W0) ?_ _ _ _ ?_ ?_, cell3 (W0 := W0) ?_ _ _ _ ?_ ?_, cell3 (W0 := W0) ?_ _ _ _ ?_ ?_, cell3 (W0 := W0) ?_ _ _ _ ?_ ?_⟩) <;> first | assumption | omega | exact Nat.le_refl _)
      | ((try go_split_ands); refine ⟨keep2 (W0 := W0) ?_ ?_ _ _, cell2 (W0 := W0) ?_ _ _ ?_ ?_, cell2 (W0 := W0) ?_ _ _ ?_ ?_, cell2 (W0 := W0) ?_ _ _ ?_ ?_, cell2 (W0 := W0) ?_ _ _ ?_ ?_, cell2 (W0 := W0) ?_ _ _ ?_ ?_, cell2 (W0 := W0) ?_ _ _ ?_ ?_, cell2 (W0 := W0) ?_ _ _ ?_ ?_, cell2 (W0 := W0) ?_ _ _ ?_ ?_, cell2 (W0 := W0) ?_ _ _ ?_ ?_, cell2 (W0 := W0) ?_ _ _ ?_ ?_, cell2 (W0 := W0) ?_ _ _ ?_ ?_, cell2 (W0 := W0) ?_ _ _ ?_ ?_, cell2 (W0 := W0) ?_ _ _ ?_ ?_, cell2 (W0 := W0) ?_ _ _ ?_ ?_, cell2 (W0 := W0) ?_ _ _ ?_ ?_, cell2 (W0 := W0) ?_ _ _ ?_ ?_, cell2 (W0 := W0) ?_ _ _ ?_ ?_, cell2 (W0 := W0) ?_ _ _ ?_ ?_, cell2 (W0 := W0) ?_ _ _ ?_ ?_, cell2 (W0 := W0) ?_ _ _ ?_ ?_, cell2 (W0 := W0) ?_ _ _ ?_ ?_, cell2 (W0 := W0) ?_ _ _ ?_ ?_⟩ <;> first | assumption | omega | exact Nat.le_refl _)
      | ((try go_split_ands); refine ⟨keepZ (W0 := W0) ?_ ?_ _, cellZ (W0 := W0) ?_ _ ?_ ?_, cellZ (W0 := W0) ?_ _ ?_ ?_, cellZ (W0 := W0) ?_ _ ?_ ?_, cellZ (W0 := W0) ?_ _ ?_ ?_, cellZ (W0 := W0) ?_ _ ?_ ?_, cellZ (W0 := W0) ?_ _ ?_ ?_, cellZ (W0 := W0) ?_ _ ?_ ?_, cellZ (W0 := W0) ?_ _ ?_ ?_, cellZ (W0 := W0) ?_ _ ?_ ?_, cellZ (W0 := W0) ?_ _ ?_ ?_, cellZ (W0 := W0) ?_ _ ?_ ?_, cellZ (W0 := W0) ?_ _ ?_ ?_, cellZ (W0 := W0) ?_ _ ?_ ?_, cellZ (W0 := W0) ?_ _ ?_ ?_, cellZ (W0 := W0) ?_ _ ?_ ?_, cellZ (W0 := W0) ?_ _ ?_ ?_, cellZ (W0 := W0) ?_ _ ?_ ?_, cellZ (W0 := W0) ?_ _ ?_ ?_, cellZ (W0 := W0) ?_ _ ?_ ?_, cellZ (W0 := W0) ?_ _ ?_ ?_, cellZ (W0 := W0) ?_ _ ?_ ?_, cellZ (W0 := W0) ?_ _ ?_ ?_⟩ <;> first | assumption | omega | exact Nat.le_refl _ | exact ⟨_, by assumption⟩))
    (first | (go_at_call 42; (with_reducible refine (H1.out _).mono ?_); rintro e w1 ⟨rfl, hb1⟩; (try go_split_ands); have hge : W0.heap.size ≤ w1.heap.size := (by first | (refine (keepS (W0 := W0) ?_ hb1).size; assumption) | exact (hb1.size : W0.heap.size ≤ w1.heap.size)); (try have hrow := row_call hb1 hrow); (try have hrow := row_new hb1); (try have hrow := row_newd hb1); have hl1 := lt_below hb1; obtain ⟨hc1, hf1⟩ := bcell hb1; (try (have hrc := row_cellA hrow; clear hc1 hf1)); (try have hrf := row_frozA hrow)) | (go_at_call 43; (with_reducible refine (H2.out _).mono ?_); rintro e w1 ⟨rfl, hb1⟩; (try go_split_ands); have hge : W0.heap.size ≤ w1.heap.size := (by first | (refine (keepS (W0 := W0) ?_ hb1).size; assumption) | exact (hb1.size : W0.heap.size ≤ w1.heap.size)); (try have hrow := row_call hb1 hrow); (try have hrow := row_new hb1); (try have hrow := row_newd hb1); have hl1 := lt_below hb1; obtain ⟨hc1, hf1⟩ := bcell hb1; (try (have hrc := row_cellA hrow; clear hc1 hf1)); (try have hrf := row_frozA hrow)) | (go_at_call 43; (with_reducible refine (H3.out _).mono ?_); rintro e w1 ⟨rfl, hb1⟩; (try go_split_ands); have hge : W0.heap.size ≤ w1.heap.size := (by first | (refine (keepS (W0 := W0) ?_ hb1).size; assumption) | exact (hb1.size : W0.heap.size ≤ w1.heap.size)); (try have hrow := row_call hb1 hrow); (try have hrow := row_new hb1); (try have hrow := row_newd hb1); have hl1 := lt_below hb1; obtain ⟨hc1, hf1⟩ := bcell hb1; (try (have hrc := row_cellA hrow; clear hc1 hf1)); (try have hrf := row_frozA hrow)) | (go_at_call 43; (with_reducible refine (H4.out _).mono ?_); rintro e w1 ⟨rfl, hb1⟩; (try go_split_ands); have hge : W0.heap.size ≤ w1.heap.size := (by first | (refine (keepS (W0 := W0) ?_ hb1).size; assumption) | exact (hb1.size : W0.heap.size ≤ w1.heap.size)); (try have hrow := row_call hb1 hrow); (try have hrow := row_new hb1); (try have hrow := row_newd hb1); have hl1 := lt_below hb1; obtain ⟨hc1, hf1⟩ := bcell hb1; (try (have hrc := row_cellA hrow; clear hc1 hf1)); (try have hrf := row_frozA hrow)) | (go_at_call 43; (with_reducible refine (H5.out _).mono ?_); rintro e w1 ⟨rfl, hb1⟩; (try go_split_ands); have hge : W0.heap.size ≤ w1.heap.size := (by first | (refine (keepS (W0 := W0) ?_ hb1).size; assumption) | exact (hb1.size : W0.heap.size ≤ w1.heap.size)); (try have hrow := row_call hb1 hrow); (try have hrow := row_new hb1); (try have hrow := row_newd hb1); have hl1 := lt_below hb1; obtain ⟨hc1, hf1⟩ := bcell hb1; (try (have hrc := row_cellA hrow; clear hc1 hf1)); (try have hrf := row_frozA hrow)) | (go_at_call 41; refine (H6.out _ _ (by simp [go_sem]) (by simp [go_sem]) (by simp [go_sem]) (by simp [go_sem]) (by simp [go_sem])).mono ?_; rintro e w1 ⟨rfl, hb1⟩; (try go_split_ands); have hge : W0.heap.size ≤ w1.heap.size := (by first | (refine (keepS (W0 := W0) ?_ hb1).size; assumption) | exact (hb1.size : W0.heap.size ≤ w1.heap.size)); (try have hrow := row_call hb1 hrow); (try have hrow := row_new hb1); (try have hrow := row_newd hb1); have hl1 := lt_below hb1; obtain ⟨hc1, hf1⟩ := bcell hb1; (try (have hrc := row_cellA hrow; clear hc1 hf1)); (try have hrf := row_frozA hrow)))
      all_goals (try go_split_ands)
      all_goals (go_wp2_with fail; go_meet; refine ⟨rfl, ?_⟩)
      all_goals first | (with_reducible assumption) | (with_reducible exact heap_alloc_new _ _) | (with_reducible exact row_set3 (by assumption) _ _ _) | assumption | exact heap_alloc_new _ _ | exact row_set (by assumption) _ _
    case rest =>
      obtain ⟨rfl, hB⟩ := hcut
      obtain ⟨V2, rfl⟩ : ∃ V, V = wc := ⟨_, rfl⟩
      clear A1_0 A1_1 A1_2 A1_3 A1_4 A1_5 A1_6 zA1 D1_0 D1_1 D1_2 D1_3 D1_4 D1_5 D1_6 zD1 K1_0 K1_1 K1_2 K1_3 zK1 K2_0 K2_1 K2_2 K2_3 zK2
      replace A1 := Lib.hid (row_call hB A1.out)
      replace D1 := Lib.hid (row_call hB D1.out)
      replace K1 := Lib.hid (row_call hB K1.out)
      replace K2 := Lib.hid (row_call hB K2.out)
      have B2 := Lib.hid (HB0.out.trans (hB.mono HB0.out.size))
      clear hB
      have A1_0 : V2.cell? ⟨w.heap.size, 0, none⟩ = some (.int .i64 y) := cell_of_row _ _ _ _ _ _ A1.out
      have A1_1 : V2.cell? ⟨w.heap.size, 1, none⟩ = some (.int .i64 m) := cell_of_row _ _ _ _ _ _ A1.out
      have A1_2 : V2.cell? ⟨w.heap.size, 2, none⟩ = some (.int .i64 d) := cell_of_row _ _ _ _ _ _ A1.out
      have A1_3 : V2.cell? ⟨w.heap.size, 3, none⟩ = some (.int .i64 h) := cell_of_row _ _ _ _ _ _ A1.out
      have A1_4 : V2.cell? ⟨w.heap.size, 4, none⟩ = some (.int .i64 i) := cell_of_row _ _ _ _ _ _ A1.out
      have A1_5 : V2.cell? ⟨w.heap.size, 5, none⟩ = some (.int .i64 s) := cell_of_row _ _ _ _ _ _ A1.out
      have A1_6 : V2.cell? ⟨w.heap.size, 6, none⟩ = some (.int .i64 n) := cell_of_row _ _ _ _ _ _ A1.out
      have zA1 := lt_of_heap A1.out
      have D1_0 : V2.cell? ⟨w.heap.size + 1, 0, none⟩ = some (.int .i64 y') := cell_of_row _ _ _ _ _ _ D1.out
      have D1_1 : V2.cell? ⟨w.heap.size + 1, 1, none⟩ = some (.int .i64 m') := cell_of_row _ _ _ _ _ _ D1.out
      have D1_2 : V2.cell? ⟨w.heap.size + 1, 2, none⟩ = some (.int .i64 d') := cell_of_row _ _ _ _ _ _ D1.out
      have D1_3 : V2.cell? ⟨w.heap.size + 1, 3, none⟩ = some (.int .i64 h') := cell_of_row _ _ _ _ _ _ D1.out
      have D1_4 : V2.cell? ⟨w.heap.size + 1, 4, none⟩ = some (.int .i64 i') := cell_of_row _ _ _ _ _ _ D1.out
      have D1_5 : V2.cell? ⟨w.heap.size + 1, 5, none⟩ = some (.int .i64 s') := cell_of_row _ _ _ _ _ _ D1.out
      have D1_6 : V2.cell? ⟨w.heap.size + 1, 6, none⟩ = some (.int .i64 n') := cell_of_row _ _ _ _ _ _ D1.out
      have zD1 := lt_of_heap D1.out
      have K1_0 : V2.cell? ⟨gK1, 0, none⟩ = some (.int .i64 h) := cell_of_row _ _ _ _ _ _ K1.out
      have K1_1 : V2.cell? ⟨gK1, 1, none⟩ = some (.int .i64 i) := cell_of_row _ _ _ _ _ _ K1.out
      have K1_2 : V2.cell? ⟨gK1, 2, none⟩ = some (.int .i64 s) := cell_of_row _ _ _ _ _ _ K1.out
      have K1_3 : V2.cell? ⟨gK1, 3, none⟩ = some (.int .i64 n) := cell_of_row _ _ _ _ _ _ K1.out
      have zK1 := lt_of_heap K1.out
      have K2_0 : V2.cell? ⟨gK2, 0, none⟩ = some (.int .i64 h') := cell_of_row _ _ _ _ _ _ K2.out
      have K2_1 : V2.cell? ⟨gK2, 1, none⟩ = some (.int .i64 i') := cell_of_row _ _ _ _ _ _ K2.out
      have K2_2 : V2.cell? ⟨gK2, 2, none⟩ = some (.int .i64 s') := cell_of_row _ _ _ _ _ _ K2.out
      have K2_3 : V2.cell? ⟨gK2, 3, none⟩ = some (.int .i64 n') := cell_of_row _ _ _ _ _ _ K2.out
      have zK2 := lt_of_heap K2.out
      go_wp2
      go_ret
      exact ⟨rfl, B2.out⟩
theorem ut_new {y m d h i s n y' m' d' h' i' s' n' : Int} (c1 : ckT y m d h i s n = 0) (c2 : ckT y' m' d' h' i' s' n' = 0) (hu : utE y m d h i s n y' m' d' h' i' s' n' = 0) :
    nanos (dnI y m d * 86400 - dnI y' m' d' * 86400) (scK h i s * 1000000000 + n - (scK h' i' s' * 1000000000 + n')) = nanos (nuT y m d h i s) n - nanos (nuT y' m' d' h' i' s') n' ∧
    duS (nanos (nuT y m d h i s) n - nanos (nuT y' m' d' h' i' s') n') = utS y m d h i s n y' m' d' h' i' s' n' ∧ duN (nanos (nuT y m d h i s) n - nanos (nuT y' m' d' h' i' s') n') = utN y m d h i s n y' m' d' h' i' s' n' ∧ duE (nanos (nuT y m d h i s) n - nanos (nuT y' m' d' h' i' s') n') = 0 := by
  obtain ⟨q1, k1⟩ := isCiv_back c1
  obtain ⟨q2, k2⟩ := isCiv_back c2
  have hf : fsI (ckI (nuT y m d h i s) n) (ckI (nuT y' m' d' h' i' s') n') = 0 := by rw [k1, k2]; unfold fsI; rfl
  obtain ⟨s1, s2⟩ := sb_ok hf
  obtain ⟨w1, r1, r2⟩ := of_ckI k1
  obtain ⟨w2, r3, r4⟩ := of_ckI k2
  have w1 := of_wmB w1
  have w2 := of_wmB w2
  have hn : nanos (nuT y m d h i s) n - nanos (nuT y' m' d' h' i' s') n' = (nuT y m d h i s - nuT y' m' d' h' i' s') * 1000000000 + (n - n') := by unfold nanos; omega
  obtain ⟨u1, u2, u3⟩ := dd_yes (T := nanos (nuT y m d h i s) n - nanos (nuT y' m' d' h' i' s') n') (by rw [hn]; omega)
  refine ⟨?_, ?_, ?_, u3⟩
  · unfold nanos nuT; omega
  · rw [u1]; unfold utS; rw [if_pos hu, s1]
  · rw [u2]; unfold utN; rw [if_pos hu, s2]
set_option maxHeartbeats 3200000 in
set_option maxRecDepth 100000 in
theorem ptSub_is (y m d h i s n y' m' d' h' i' s' n' : Int) (w : World) (hM : TB w) :
    Calls Tryd.prog 16 #[.agg #[.int .i64 y, .int .i64 m, .int .i64 d, .int .i64 h, .int .i64 i, .int .i64 s, .int .i64 n], .agg #[.int .i64 y', .int .i64 m', .int .i64 d', .int .i64 h', .int .i64 i', .int .i64 s', .int .i64 n']] w fun e w' => e = .returned (.tuple #[.agg #[.int .i64 (utS y m d h i s n y' m' d' h' i' s' n'), .int .i64 (utN y m d h i s n y' m' d' h' i' s' n')], .int .i64 (utE y m d h i s n y' m' d' h' i' s' n')]) ∧ Below w.heap.size w w' := by
  have X1 := pRead_any y m d h i s n
  have X2 := pRead_any y' m' d' h' i' s' n'
  have X3 := fun w => pLesser_any (ckT y m d h i s n) (ckT y' m' d' h' i' s' n') w (ckT_pos y m d h i s n) (ckT_pos y' m' d' h' i' s' n')
  by_cases hu : utE y m d h i s n y' m' d' h' i' s' n' = 0
  · obtain ⟨c1, c2⟩ := fsI_none hu
    obtain ⟨t1, t2, t3, t4⟩ := ut_new c1 c2 hu
    obtain ⟨ok, _, hy, hm, hd⟩ := of_ckT c1
    obtain ⟨ok', _, hy', hm', hd'⟩ := of_ckT c2
    have b := dn_bd (y := y) (m := m) (d := d) (by omega) hm hd
    have b' := dn_bd (y := y') (m := m') (d := d') (by omega) hm' hd'
    have b2 := scK_bd ok
    have b2' := scK_bd ok'
    have n1 : 0 ≤ n ∧ n < 1000000000 := by unfold okK at ok; omega
    have n1' : 0 ≤ n' ∧ n' < 1000000000 := by unfold okK at ok'; omega
    have X4 := pMid_any (dnI y m d) (by omega) (by omega)
    have X5 := pMid_any (dnI y' m' d') (by omega) (by omega)
    have X6 := dNew_any (dnI y m d * 86400 - dnI y' m' d' * 86400) (scK h i s * 1000000000 + n - (scK h' i' s' * 1000000000 + n')) (by unfold in64; omega) (by unfold in64; omega)
    rw [t1, t2, t3, t4] at X6
    have g1 : IntKind.i64.wrap (dnI y m d * 86400 - dnI y' m' d' * 86400) = dnI y m d * 86400 - dnI y' m' d' * 86400 := by rw [IntKind.wrap_i64]; omega
    have g2 : IntKind.i64.wrap (scK h i s * 1000000000 + n - (scK h' i' s' * 1000000000 + n')) = scK h i s * 1000000000 + n - (scK h' i' s' * 1000000000 + n') := by rw [IntKind.wrap_i64]; omega
    rw [(rd_ok c1).1, (rd_ok c1).2, c1] at X1
    rw [(rd_ok c2).1, (rd_ok c2).2, c2] at X2
    rw [c1, c2, show fsI 0 0 = 0 by unfold fsI; rfl] at X3
    rw [hu]
    have H1 := Lib.hid X1
    have H2 := Lib.hid X2
    have H3 := Lib.hid X3
    have H4 := Lib.hid X4
    have H5 := Lib.hid X5
    have H6 := Lib.hid X6
    clear X1 X2 X3 X4 X5 X6 c1 c2 t1 t2 t3 t4 ok hy hm hd ok' hy' hm' hd' b b' b2 b2' n1 n1' hu
    generalize utS y m d h i s n y' m' d' h' i' s' n' = S at *
    generalize utN y m d h i s n y' m' d' h' i' s' n' = N at *
    generalize dnI y m d = D1 at *
    generalize dnI y' m' d' = D2 at *
    generalize scK h i s * 1000000000 + n = N1 at *
    generalize scK h' i' s' * 1000000000 + n' = N2 at *
    generalize D1 * 86400 = M1 at *
    generalize D2 * 86400 = M2 at *
    replace hM := Lib.hid hM
    go_enter Tryd.func16, Tryd.ntmps16
    refine wp_shut ?_
    go_wp2_with fail
    
    refine (H1.out _ (by first | exact tb_keep hM ((((Below.refl w.heap.size w).alloc (Nat.le_refl _) _).alloc (by simp <;> omega) _).alloc (by simp <;> omega) _))).mono ?_
    rintro e V1 ⟨rfl, hb1⟩
    have B1 := Lib.hid (((((Below.refl w.heap.size w).alloc (Nat.le_refl _) _).alloc (by simp <;> omega) _).alloc (by simp <;> omega) _).trans (hb1.mono (by first | assumption | (simp <;> omega) | (simp; done))))
    have A1 := Lib.hid (row_call hb1 (row_alloc (row_alloc (heap_alloc_new _ _) _) _))
    have E1 := Lib.hid (row_at (k' := w.heap.size + 1) (by simp) (row_call hb1 (row_alloc (heap_alloc_new _ _) _)))
    have Z1 := Lib.hid (row_at (k' := w.heap.size + 1 + 1) (by simp) (row_call hb1 (heap_alloc_new _ _)))
    clear hb1
    have A1_0 : V1.cell? ⟨w.heap.size, 0, none⟩ = some (.int .i64 y) := cell_of_row _ _ _ _ _ _ A1.out
    have A1_1 : V1.cell? ⟨w.heap.size, 1, none⟩ = some (.int .i64 m) := cell_of_row _ _ _ _ _ _ A1.out
    have A1_2 : V1.cell? ⟨w.heap.size, 2, none⟩ = some (.int .i64 d) := cell_of_row _ _ _ _ _ _ A1.out
    have A1_3 : V1.cell? ⟨w.heap.size, 3, none⟩ = some (.int .i64 h) := cell_of_row _ _ _ _ _ _ A1.out
    have A1_4 : V1.cell? ⟨w.heap.size, 4, none⟩ = some (.int .i64 i) := cell_of_row _ _ _ _ _ _ A1.out
    have A1_5 : V1.cell? ⟨w.heap.size, 5, none⟩ = some (.int .i64 s) := cell_of_row _ _ _ _ _ _ A1.out
    have A1_6 : V1.cell? ⟨w.heap.size, 6, none⟩ = some (.int .i64 n) := cell_of_row _ _ _ _ _ _ A1.out
    have E1_0 : V1.cell? ⟨w.heap.size + 1, 0, none⟩ = some (.int .i64 y') := cell_of_row _ _ _ _ _ _ E1.out
    have E1_1 : V1.cell? ⟨w.heap.size + 1, 1, none⟩ = some (.int .i64 m') := cell_of_row _ _ _ _ _ _ E1.out
    have E1_2 : V1.cell? ⟨w.heap.size + 1, 2, none⟩ = some (.int .i64 d') := cell_of_row _ _ _ _ _ _ E1.out
    have E1_3 : V1.cell? ⟨w.heap.size + 1, 3, none⟩ = some (.int .i64 h') := cell_of_row _ _ _ _ _ _ E1.out
    have E1_4 : V1.cell? ⟨w.heap.size + 1, 4, none⟩ = some (.int .i64 i') := cell_of_row _ _ _ _ _ _ E1.out
    have E1_5 : V1.cell? ⟨w.heap.size + 1, 5, none⟩ = some (.int .i64 s') := cell_of_row _ _ _ _ _ _ E1.out
    have E1_6 : V1.cell? ⟨w.heap.size + 1, 6, none⟩ = some (.int .i64 n') := cell_of_row _ _ _ _ _ _ E1.out
    have Z1_0 : V1.cell? ⟨w.heap.size + 1 + 1, 0, none⟩ = some (.int .i64 0) := cell_of_row _ _ _ _ _ _ Z1.out
    have Z1_1 : V1.cell? ⟨w.heap.size + 1 + 1, 1, none⟩ = some (.int .i64 0) := cell_of_row _ _ _ _ _ _ Z1.out
    have Z1_f0 : V1.frozen? ⟨w.heap.size + 1 + 1, 0, none⟩ = false := by simp [World.frozen?, Z1.out]
    have Z1_f1 : V1.frozen? ⟨w.heap.size + 1 + 1, 1, none⟩ = false := by simp [World.frozen?, Z1.out]
    have zA1 := lt_of_heap A1.out
    have zE1 := lt_of_heap E1.out
    have zZ1 := lt_of_heap Z1.out
    go_simp
    go_wp2_with fail
    refine (H2.out _ (by first | exact tb_keep hM ((B1.out).alloc (B1.out.size) _))).mono ?_
    rintro e V2 ⟨rfl, hb2⟩
    clear A1_0 A1_1 A1_2 A1_3 A1_4 A1_5 A1_6 zA1 E1_0 E1_1 E1_2 E1_3 E1_4 E1_5 E1_6 zE1 Z1_0 Z1_1 Z1_f0 Z1_f1 zZ1
    have nA1R1 := Lib.hid (lt_of_heap A1.out)
    have nE1R1 := Lib.hid (lt_of_heap E1.out)
    have nZ1R1 := Lib.hid (lt_of_heap Z1.out)
    have B2 := Lib.hid (((B1.out).alloc (B1.out.size) _).trans (hb2.mono (by have := B1.out.size; first | assumption | (simp <;> omega) | (simp; done))))
    replace A1 := Lib.hid (row_call hb2 (row_alloc A1.out _))
    replace E1 := Lib.hid (row_call hb2 (row_alloc E1.out _))
    replace Z1 := Lib.hid (row_call hb2 (row_alloc Z1.out _))
    have R1 := Lib.hid (row_call hb2 (heap_alloc_new _ _))
    clear hb2
    have A1_0 : V2.cell? ⟨w.heap.size, 0, none⟩ = some (.int .i64 y) := cell_of_row _ _ _ _ _ _ A1.out
    have A1_1 : V2.cell? ⟨w.heap.size, 1, none⟩ = some (.int .i64 m) := cell_of_row _ _ _ _ _ _ A1.out
    have A1_2 : V2.cell? ⟨w.heap.size, 2, none⟩ = some (.int .i64 d) := cell_of_row _ _ _ _ _ _ A1.out
    have A1_3 : V2.cell? ⟨w.heap.size, 3, none⟩ = some (.int .i64 h) := cell_of_row _ _ _ _ _ _ A1.out
    have A1_4 : V2.cell? ⟨w.heap.size, 4, none⟩ = some (.int .i64 i) := cell_of_row _ _ _ _ _ _ A1.out
    have A1_5 : V2.cell? ⟨w.heap.size, 5, none⟩ = some (.int .i64 s) := cell_of_row _ _ _ _ _ _ A1.out
    have A1_6 : V2.cell? ⟨w.heap.size, 6, none⟩ = some (.int .i64 n) := cell_of_row _ _ _ _ _ _ A1.out
    have E1_0 : V2.cell? ⟨w.heap.size + 1, 0, none⟩ = some (.int .i64 y') := cell_of_row _ _ _ _ _ _ E1.out
    have E1_1 : V2.cell? ⟨w.heap.size + 1, 1, none⟩ = some (.int .i64 m') := cell_of_row _ _ _ _ _ _ E1.out
    have E1_2 : V2.cell? ⟨w.heap.size + 1, 2, none⟩ = some (.int .i64 d') := cell_of_row _ _ _ _ _ _ E1.out
    have E1_3 : V2.cell? ⟨w.heap.size + 1, 3, none⟩ = some (.int .i64 h') := cell_of_row _ _ _ _ _ _ E1.out
    have E1_4 : V2.cell? ⟨w.heap.size + 1, 4, none⟩ = some (.int .i64 i') := cell_of_row _ _ _ _ _ _ E1.out
    have E1_5 : V2.cell? ⟨w.heap.size + 1, 5, none⟩ = some (.int .i64 s') := cell_of_row _ _ _ _ _ _ E1.out
    have E1_6 : V2.cell? ⟨w.heap.size + 1, 6, none⟩ = some (.int .i64 n') := cell_of_row _ _ _ _ _ _ E1.out
    have Z1_0 : V2.cell? ⟨w.heap.size + 1 + 1, 0, none⟩ = some (.int .i64 0) := cell_of_row _ _ _ _ _ _ Z1.out
    have Z1_1 : V2.cell? ⟨w.heap.size + 1 + 1, 1, none⟩ = some (.int .i64 0) := cell_of_row _ _ _ _ _ _ Z1.out
    have Z1_f0 : V2.frozen? ⟨w.heap.size + 1 + 1, 0, none⟩ = false := by simp [World.frozen?, Z1.out]
    have Z1_f1 : V2.frozen? ⟨w.heap.size + 1 + 1, 1, none⟩ = false := by simp [World.frozen?, Z1.out]
    have R1_0 : V2.cell? ⟨V1.heap.size, 0, none⟩ = some (.int .i64 D1) := cell_of_row _ _ _ _ _ _ R1.out
    have R1_1 : V2.cell? ⟨V1.heap.size, 1, none⟩ = some (.int .i64 N1) := cell_of_row _ _ _ _ _ _ R1.out
    have zA1 := lt_of_heap A1.out
    have zE1 := lt_of_heap E1.out
    have zZ1 := lt_of_heap Z1.out
    have zR1 := lt_of_heap R1.out
    go_simp
    go_wp2_with fail
    refine (H3.out _).mono ?_
    rintro e V3 ⟨rfl, hb3⟩
    clear A1_0 A1_1 A1_2 A1_3 A1_4 A1_5 A1_6 zA1 E1_0 E1_1 E1_2 E1_3 E1_4 E1_5 E1_6 zE1 Z1_0 Z1_1 Z1_f0 Z1_f1 zZ1 R1_0 R1_1 zR1
    have nA1R2 := Lib.hid (lt_of_heap A1.out)
    have nE1R2 := Lib.hid (lt_of_heap E1.out)
    have nZ1R2 := Lib.hid (lt_of_heap Z1.out)
    have nR1R2 := Lib.hid (lt_of_heap R1.out)
    have B3 := Lib.hid (((B2.out).alloc (B2.out.size) _).trans (hb3.mono (by have := B2.out.size; first | assumption | (simp <;> omega) | (simp; done))))
    replace A1 := Lib.hid (row_call hb3 (row_alloc A1.out _))
    replace E1 := Lib.hid (row_call hb3 (row_alloc E1.out _))
    replace Z1 := Lib.hid (row_call hb3 (row_alloc Z1.out _))
    replace R1 := Lib.hid (row_call hb3 (row_alloc R1.out _))
    have R2 := Lib.hid (row_call hb3 (heap_alloc_new _ _))
    clear hb3
    have A1_0 : V3.cell? ⟨w.heap.size, 0, none⟩ = some (.int .i64 y) := cell_of_row _ _ _ _ _ _ A1.out
    have A1_1 : V3.cell? ⟨w.heap.size, 1, none⟩ = some (.int .i64 m) := cell_of_row _ _ _ _ _ _ A1.out
    have A1_2 : V3.cell? ⟨w.heap.size, 2, none⟩ = some (.int .i64 d) := cell_of_row _ _ _ _ _ _ A1.out
    have A1_3 : V3.cell? ⟨w.heap.size, 3, none⟩ = some (.int .i64 h) := cell_of_row _ _ _ _ _ _ A1.out
    have A1_4 : V3.cell? ⟨w.heap.size, 4, none⟩ = some (.int .i64 i) := cell_of_row _ _ _ _ _ _ A1.out
    have A1_5 : V3.cell? ⟨w.heap.size, 5, none⟩ = some (.int .i64 s) := cell_of_row _ _ _ _ _ _ A1.out
    have A1_6 : V3.cell? ⟨w.heap.size, 6, none⟩ = some (.int .i64 n) := cell_of_row _ _ _ _ _ _ A1.out
    have E1_0 : V3.cell? ⟨w.heap.size + 1, 0, none⟩ = some (.int .i64 y') := cell_of_row _ _ _ _ _ _ E1.out
    have E1_1 : V3.cell? ⟨w.heap.size + 1, 1, none⟩ = some (.int .i64 m') := cell_of_row _ _ _ _ _ _ E1.out
    have E1_2 : V3.cell? ⟨w.heap.size + 1, 2, none⟩ = some (.int .i64 d') := cell_of_row _ _ _ _ _ _ E1.out
    have E1_3 : V3.cell? ⟨w.heap.size + 1, 3, none⟩ = some (.int .i64 h') := cell_of_row _ _ _ _ _ _ E1.out
    have E1_4 : V3.cell? ⟨w.heap.size + 1, 4, none⟩ = some (.int .i64 i') := cell_of_row _ _ _ _ _ _ E1.out
    have E1_5 : V3.cell? ⟨w.heap.size + 1, 5, none⟩ = some (.int .i64 s') := cell_of_row _ _ _ _ _ _ E1.out
    have E1_6 : V3.cell? ⟨w.heap.size + 1, 6, none⟩ = some (.int .i64 n') := cell_of_row _ _ _ _ _ _ E1.out
    have Z1_0 : V3.cell? ⟨w.heap.size + 1 + 1, 0, none⟩ = some (.int .i64 0) := cell_of_row _ _ _ _ _ _ Z1.out
    have Z1_1 : V3.cell? ⟨w.heap.size + 1 + 1, 1, none⟩ = some (.int .i64 0) := cell_of_row _ _ _ _ _ _ Z1.out
    have Z1_f0 : V3.frozen? ⟨w.heap.size + 1 + 1, 0, none⟩ = false := by simp [World.frozen?, Z1.out]
    have Z1_f1 : V3.frozen? ⟨w.heap.size + 1 + 1, 1, none⟩ = false := by simp [World.frozen?, Z1.out]
    have R1_0 : V3.cell? ⟨V1.heap.size, 0, none⟩ = some (.int .i64 D1) := cell_of_row _ _ _ _ _ _ R1.out
    have R1_1 : V3.cell? ⟨V1.heap.size, 1, none⟩ = some (.int .i64 N1) := cell_of_row _ _ _ _ _ _ R1.out
    have R2_0 : V3.cell? ⟨V2.heap.size, 0, none⟩ = some (.int .i64 D2) := cell_of_row _ _ _ _ _ _ R2.out
    have R2_1 : V3.cell? ⟨V2.heap.size, 1, none⟩ = some (.int .i64 N2) := cell_of_row _ _ _ _ _ _ R2.out
    have zA1 := lt_of_heap A1.out
    have zE1 := lt_of_heap E1.out
    have zZ1 := lt_of_heap Z1.out
    have zR1 := lt_of_heap R1.out
    have zR2 := lt_of_heap R2.out
    go_simp
    go_wp2_with fail
    obtain ⟨W0, hW0⟩ : ∃ W0, W0 = V3 := ⟨_, rfl⟩
    replace A1 := Lib.hid (row_by hW0 A1.out)
    replace E1 := Lib.hid (row_by hW0 E1.out)
    replace Z1 := Lib.hid (row_by hW0 Z1.out)
    replace R1 := Lib.hid (row_by hW0 R1.out)
    replace R2 := Lib.hid (row_by hW0 R2.out)
    clear A1_0 A1_1 A1_2 A1_3 A1_4 A1_5 A1_6 zA1 E1_0 E1_1 E1_2 E1_3 E1_4 E1_5 E1_6 zE1 Z1_0 Z1_1 Z1_f0 Z1_f1 zZ1 R1_0 R1_1 zR1 R2_0 R2_1 zR2
    have A1_0 : W0.cell? ⟨w.heap.size, 0, none⟩ = some (.int .i64 y) := cell_of_row _ _ _ _ _ _ A1.out
    have A1_1 : W0.cell? ⟨w.heap.size, 1, none⟩ = some (.int .i64 m) := cell_of_row _ _ _ _ _ _ A1.out
    have A1_2 : W0.cell? ⟨w.heap.size, 2, none⟩ = some (.int .i64 d) := cell_of_row _ _ _ _ _ _ A1.out
    have A1_3 : W0.cell? ⟨w.heap.size, 3, none⟩ = some (.int .i64 h) := cell_of_row _ _ _ _ _ _ A1.out
    have A1_4 : W0.cell? ⟨w.heap.size, 4, none⟩ = some (.int .i64 i) := cell_of_row _ _ _ _ _ _ A1.out
    have A1_5 : W0.cell? ⟨w.heap.size, 5, none⟩ = some (.int .i64 s) := cell_of_row _ _ _ _ _ _ A1.out
    have A1_6 : W0.cell? ⟨w.heap.size, 6, none⟩ = some (.int .i64 n) := cell_of_row _ _ _ _ _ _ A1.out
    have zA1 := lt_of_heap A1.out
    have E1_0 : W0.cell? ⟨w.heap.size + 1, 0, none⟩ = some (.int .i64 y') := cell_of_row _ _ _ _ _ _ E1.out
    have E1_1 : W0.cell? ⟨w.heap.size + 1, 1, none⟩ = some (.int .i64 m') := cell_of_row _ _ _ _ _ _ E1.out
    have E1_2 : W0.cell? ⟨w.heap.size + 1, 2, none⟩ = some (.int .i64 d') := cell_of_row _ _ _ _ _ _ E1.out
    have E1_3 : W0.cell? ⟨w.heap.size + 1, 3, none⟩ = some (.int .i64 h') := cell_of_row _ _ _ _ _ _ E1.out
    have E1_4 : W0.cell? ⟨w.heap.size + 1, 4, none⟩ = some (.int .i64 i') := cell_of_row _ _ _ _ _ _ E1.out
    have E1_5 : W0.cell? ⟨w.heap.size + 1, 5, none⟩ = some (.int .i64 s') := cell_of_row _ _ _ _ _ _ E1.out
    have E1_6 : W0.cell? ⟨w.heap.size + 1, 6, none⟩ = some (.int .i64 n') := cell_of_row _ _ _ _ _ _ E1.out
    have zE1 := lt_of_heap E1.out
    have Z1_0 : W0.cell? ⟨w.heap.size + 1 + 1, 0, none⟩ = some (.int .i64 0) := cell_of_row _ _ _ _ _ _ Z1.out
    have Z1_1 : W0.cell? ⟨w.heap.size + 1 + 1, 1, none⟩ = some (.int .i64 0) := cell_of_row _ _ _ _ _ _ Z1.out
    have zZ1 := lt_of_heap Z1.out
    have R1_0 : W0.cell? ⟨V1.heap.size, 0, none⟩ = some (.int .i64 D1) := cell_of_row _ _ _ _ _ _ R1.out
    have R1_1 : W0.cell? ⟨V1.heap.size, 1, none⟩ = some (.int .i64 N1) := cell_of_row _ _ _ _ _ _ R1.out
    have zR1 := lt_of_heap R1.out
    have R2_0 : W0.cell? ⟨V2.heap.size, 0, none⟩ = some (.int .i64 D2) := cell_of_row _ _ _ _ _ _ R2.out
    have R2_1 : W0.cell? ⟨V2.heap.size, 1, none⟩ = some (.int .i64 N2) := cell_of_row _ _ _ _ _ _ R2.out
    have zR2 := lt_of_heap R2.out
    have HB0 := Lib.hid (below_by hW0 (B3.out))
    have zW0 := HB0.out.size
    have HW0 := Lib.hid hW0
    clear hW0
    try go_simp
    rw [← HW0.out]
    refine region_plan (S := fun w2 => w2.cell? ⟨V1.heap.size, 0, none⟩ = some (.int .i64 D1) ∧ w2.cell? ⟨V1.heap.size, 1, none⟩ = some (.int .i64 N1) ∧ w2.cell? ⟨V2.heap.size, 0, none⟩ = some (.int .i64 D2) ∧ w2.cell? ⟨V2.heap.size, 1, none⟩ = some (.int .i64 N2)) [(0, true), (1, true), (3, true), (4, true), (7, true), (8, true), (9, true), (10, true), (11, true), (2, false), (5, false), (6, true), (12, false), (13, true), (14, true), (15, false), (16, true)] (by as_aux_lemma => kernel_rfl) (by as_aux_lemma => kernel_rfl) (by as_aux_lemma => kernel_rfl) (by as_aux_lemma => kernel_rfl) ⟨(by rw [World.cell?_drew]; exact R1_0), (by rw [World.cell?_drew]; exact R1_1), (by rw [World.cell?_drew]; exact R2_0), (by rw [World.cell?_drew]; exact R2_1)⟩ ?_
    have Y0 := Lib.hid (Below.refl W0.heap.size W0).drew
    refine plan_yes (v := ?v1_1) (by simp only [List.getElem?_toArray, List.getElem?_cons_zero, List.getElem?_cons_succ]; exact rfl) (Or.inl ⟨by as_aux_lemma => rfl, ?hy1_1⟩) ?rest1_1
    case hy1_1 => (intro w2 hSw; (try dsimp only at hSw); obtain ⟨s0, s1, s2, s3⟩ := hSw; go_simp; try with_reducible rfl)
    try simp only [Act.put, List.setIfInBounds_toArray, List.set_cons_zero, List.set_cons_succ]
    refine plan_yes (v := ?v2_1) (by simp only [List.getElem?_toArray, List.getElem?_cons_zero, List.getElem?_cons_succ]; exact rfl) (Or.inl ⟨by as_aux_lemma => rfl, ?hy2_1⟩) ?rest2_1
    case hy2_1 => (intro w2 hSw; (try dsimp only at hSw); obtain ⟨s0, s1, s2, s3⟩ := hSw; go_simp; try with_reducible rfl)
    try simp only [Act.put, List.setIfInBounds_toArray, List.set_cons_zero, List.set_cons_succ]
    refine plan_yes (v := ?v3_1) (by simp only [List.getElem?_toArray, List.getElem?_cons_zero, List.getElem?_cons_succ]; exact rfl) (Or.inl ⟨by as_aux_lemma => rfl, ?hy3_1⟩) ?rest3_1
    case hy3_1 => (intro w2 hSw; (try dsimp only at hSw); obtain ⟨s0, s1, s2, s3⟩ := hSw; go_simp; try with_reducible rfl)
    try simp only [Act.put, List.setIfInBounds_toArray, List.set_cons_zero, List.set_cons_succ]
    refine plan_yes (v := ?v4_1) (by simp only [List.getElem?_toArray, List.getElem?_cons_zero, List.getElem?_cons_succ]; exact rfl) (Or.inl ⟨by as_aux_lemma => rfl, ?hy4_1⟩) ?rest4_1
    case hy4_1 => (intro w2 hSw; (try dsimp only at hSw); obtain ⟨s0, s1, s2, s3⟩ := hSw; go_simp; try with_reducible rfl)
    try simp only [Act.put, List.setIfInBounds_toArray, List.set_cons_zero, List.set_cons_succ]
    refine plan_yes (v := ?v5_1) (by simp only [List.getElem?_toArray, List.getElem?_cons_zero, List.getElem?_cons_succ]; exact rfl) (Or.inl ⟨by as_aux_lemma => rfl, ?hy5_1⟩) ?rest5_1
    case hy5_1 => (intro w2 hSw; (try dsimp only at hSw); obtain ⟨s0, s1, s2, s3⟩ := hSw; go_simp; try with_reducible rfl)
    try simp only [Act.put, List.setIfInBounds_toArray, List.set_cons_zero, List.set_cons_succ]
    refine plan_yes (v := ?v6_1) (by simp only [List.getElem?_toArray, List.getElem?_cons_zero, List.getElem?_cons_succ]; exact rfl) (Or.inl ⟨by as_aux_lemma => rfl, ?hy6_1⟩) ?rest6_1
    case hy6_1 => (intro w2 hSw; (try dsimp only at hSw); obtain ⟨s0, s1, s2, s3⟩ := hSw; go_simp; try with_reducible rfl)
    try simp only [Act.put, List.setIfInBounds_toArray, List.set_cons_zero, List.set_cons_succ]
    refine plan_yes (v := ?v7_1) (by simp only [List.getElem?_toArray, List.getElem?_cons_zero, List.getElem?_cons_succ]; exact rfl) (Or.inl ⟨by as_aux_lemma => rfl, ?hy7_1⟩) ?rest7_1
    case hy7_1 => (intro w2 hSw; (try dsimp only at hSw); obtain ⟨s0, s1, s2, s3⟩ := hSw; go_simp; try with_reducible rfl)
    try simp only [Act.put, List.setIfInBounds_toArray, List.set_cons_zero, List.set_cons_succ]
    refine plan_yes (v := ?v8_1) (by simp only [List.getElem?_toArray, List.getElem?_cons_zero, List.getElem?_cons_succ]; exact rfl) (Or.inl ⟨by as_aux_lemma => rfl, ?hy8_1⟩) ?rest8_1
    case hy8_1 => (intro w2 hSw; (try dsimp only at hSw); obtain ⟨s0, s1, s2, s3⟩ := hSw; go_simp; try with_reducible rfl)
    try simp only [Act.put, List.setIfInBounds_toArray, List.set_cons_zero, List.set_cons_succ]
    refine plan_yes (v := ?v9_1) (by simp only [List.getElem?_toArray, List.getElem?_cons_zero, List.getElem?_cons_succ]; exact rfl) (Or.inl ⟨by as_aux_lemma => rfl, ?hy9_1⟩) ?rest9_1
    case hy9_1 => (intro w2 hSw; (try dsimp only at hSw); obtain ⟨s0, s1, s2, s3⟩ := hSw; go_simp; try with_reducible rfl)
    try simp only [Act.put, List.setIfInBounds_toArray, List.set_cons_zero, List.set_cons_succ]
    refine plan_calls (by simp only [List.getElem?_toArray, List.getElem?_cons_zero, List.getElem?_cons_succ]; exact rfl) (by as_aux_lemma => rfl) (fun K hK => ?_)
    go_simp
    refine (H4.out _).mono ?_
    rintro e Y1w ⟨rfl, hb1⟩
    have Y1 := Lib.hid (keepS (W0 := W0) Y0.out hb1)
    clear hb1
    refine hK.out _ _ ⟨((Y1.out.cell (p := ⟨V1.heap.size, 0, none⟩) zR1).trans R1_0), ((Y1.out.cell (p := ⟨V1.heap.size, 1, none⟩) zR1).trans R1_1), ((Y1.out.cell (p := ⟨V2.heap.size, 0, none⟩) zR2).trans R2_0), ((Y1.out.cell (p := ⟨V2.heap.size, 1, none⟩) zR2).trans R2_1)⟩ ?_
    clear hK K
    try simp only [Act.put, List.setIfInBounds_toArray, List.set_cons_zero, List.set_cons_succ]
    as_aux_lemma =>
     refine plan_calls (by simp only [List.getElem?_toArray, List.getElem?_cons_zero, List.getElem?_cons_succ]; exact rfl) (by as_aux_lemma => rfl) (fun K hK => ?_)
     go_simp
     refine (H5.out _).mono ?_
     rintro e Y2w ⟨rfl, hb1⟩
     have Y2 := Lib.hid (keepS (W0 := W0) Y1.out hb1)
     clear hb1
     refine hK.out _ _ ⟨((Y2.out.cell (p := ⟨V1.heap.size, 0, none⟩) zR1).trans R1_0), ((Y2.out.cell (p := ⟨V1.heap.size, 1, none⟩) zR1).trans R1_1), ((Y2.out.cell (p := ⟨V2.heap.size, 0, none⟩) zR2).trans R2_0), ((Y2.out.cell (p := ⟨V2.heap.size, 1, none⟩) zR2).trans R2_1)⟩ ?_
     clear hK K
     try simp only [Act.put, List.setIfInBounds_toArray, List.set_cons_zero, List.set_cons_succ]
     as_aux_lemma =>
      refine plan_yes (v := ?v10_1) (by simp only [List.getElem?_toArray, List.getElem?_cons_zero, List.getElem?_cons_succ]; exact rfl) (Or.inl ⟨by as_aux_lemma => rfl, ?hy10_1⟩) ?rest10_1
      case hy10_1 => (intro w2 hSw; (try dsimp only at hSw); obtain ⟨s0, s1, s2, s3⟩ := hSw; go_simp; try with_reducible rfl)
      try simp only [Act.put, List.setIfInBounds_toArray, List.set_cons_zero, List.set_cons_succ]
      refine plan_calls (by simp only [List.getElem?_toArray, List.getElem?_cons_zero, List.getElem?_cons_succ]; exact rfl) (by as_aux_lemma => rfl) (fun K hK => ?_)
      go_simp
      refine (H6.out _).mono ?_
      rintro e Y3w ⟨rfl, hb1⟩
      have Y3 := Lib.hid (keepS (W0 := W0) Y2.out hb1)
      clear hb1
      refine hK.out _ _ ⟨((Y3.out.cell (p := ⟨V1.heap.size, 0, none⟩) zR1).trans R1_0), ((Y3.out.cell (p := ⟨V1.heap.size, 1, none⟩) zR1).trans R1_1), ((Y3.out.cell (p := ⟨V2.heap.size, 0, none⟩) zR2).trans R2_0), ((Y3.out.cell (p := ⟨V2.heap.size, 1, none⟩) zR2).trans R2_1)⟩ ?_
      clear hK K
      try simp only [Act.put, List.setIfInBounds_toArray, List.set_cons_zero, List.set_cons_succ]
      as_aux_lemma =>
       refine plan_yes (v := ?v11_1) (by simp only [List.getElem?_toArray, List.getElem?_cons_zero, List.getElem?_cons_succ]; exact rfl) (Or.inl ⟨by as_aux_lemma => rfl, ?hy11_1⟩) ?rest11_1
       case hy11_1 => (intro w2 hSw; (try dsimp only at hSw); obtain ⟨s0, s1, s2, s3⟩ := hSw; go_simp; try with_reducible rfl)
       try simp only [Act.put, List.setIfInBounds_toArray, List.set_cons_zero, List.set_cons_succ]
       refine plan_yes (v := ?v12_1) (by simp only [List.getElem?_toArray, List.getElem?_cons_zero, List.getElem?_cons_succ]; exact rfl) (Or.inl ⟨by as_aux_lemma => rfl, ?hy12_1⟩) ?rest12_1
       case hy12_1 => (intro w2 hSw; (try dsimp only at hSw); obtain ⟨s0, s1, s2, s3⟩ := hSw; go_simp; try with_reducible rfl)
       try simp only [Act.put, List.setIfInBounds_toArray, List.set_cons_zero, List.set_cons_succ]
       replace A1 := Lib.hid (row_call Y3.out A1.out)
       replace E1 := Lib.hid (row_call Y3.out E1.out)
       replace Z1 := Lib.hid (row_call Y3.out Z1.out)
       replace R1 := Lib.hid (row_call Y3.out R1.out)
       replace R2 := Lib.hid (row_call Y3.out R2.out)
       have Bc := Lib.hid (HB0.out.trans (Y3.out.mono zW0))
       refine plan_calls (by simp only [List.getElem?_toArray, List.getElem?_cons_zero, List.getElem?_cons_succ]; exact rfl) (by as_aux_lemma => rfl) (fun K hK => ?_)
       refine wp_store_row 42 _ _ rfl (w.heap.size + 1 + 1) #[Value.int .i64 S, Value.int .i64 N] (by rfl) (by rfl) _ _ Z1.out (by kernel_rfl) rfl (by simp [Value.oneCell']) ?_
       refine hK.out _ _ ⟨(cell_of_row _ _ _ _ _ _ (row_otherR (by first | omega | (have := nR1Z1.out; omega) | (have := nZ1R1.out; omega)) R1.out _)), (cell_of_row _ _ _ _ _ _ (row_otherR (by first | omega | (have := nR1Z1.out; omega) | (have := nZ1R1.out; omega)) R1.out _)), (cell_of_row _ _ _ _ _ _ (row_otherR (by first | omega | (have := nR2Z1.out; omega) | (have := nZ1R2.out; omega)) R2.out _)), (cell_of_row _ _ _ _ _ _ (row_otherR (by first | omega | (have := nR2Z1.out; omega) | (have := nZ1R2.out; omega)) R2.out _))⟩ ?_
       clear hK K
       try simp only [Act.put, List.setIfInBounds_toArray, List.set_cons_zero, List.set_cons_succ]
       obtain ⟨Y1s, hYs⟩ : ∃ V, V = Y3w.setRow (w.heap.size + 1 + 1) #[Value.int .i64 S, Value.int .i64 N] := ⟨_, rfl⟩
       rw [← hYs]
       replace A1 := Lib.hid (row_by hYs (row_otherR (by first | omega | (have := nA1Z1.out; omega) | (have := nZ1A1.out; omega)) A1.out _))
       replace E1 := Lib.hid (row_by hYs (row_otherR (by first | omega | (have := nE1Z1.out; omega) | (have := nZ1E1.out; omega)) E1.out _))
       replace Z1 := Lib.hid (row_by hYs (setRow_heap _ _ _ _ _ _ Z1.out))
       replace R1 := Lib.hid (row_by hYs (row_otherR (by first | omega | (have := nR1Z1.out; omega) | (have := nZ1R1.out; omega)) R1.out _))
       replace R2 := Lib.hid (row_by hYs (row_otherR (by first | omega | (have := nR2Z1.out; omega) | (have := nZ1R2.out; omega)) R2.out _))
       replace Bc := Lib.hid (below_by hYs (keepRow Bc.out (by omega) _))
       clear hYs
       refine plan_yes (v := ?v13_1) (by simp only [List.getElem?_toArray, List.getElem?_cons_zero, List.getElem?_cons_succ]; exact rfl) (Or.inl ⟨by as_aux_lemma => rfl, ?hy13_1⟩) ?rest13_1
       case hy13_1 => (intro w2 hSw; (try dsimp only at hSw); obtain ⟨s0, s1, s2, s3⟩ := hSw; go_simp; try with_reducible rfl)
       try simp only [Act.put, List.setIfInBounds_toArray, List.set_cons_zero, List.set_cons_succ]
       refine plan_done (NoPanic.normal ?_)
       have B4 := Bc
       clear Bc A1_0 A1_1 A1_2 A1_3 A1_4 A1_5 A1_6 E1_0 E1_1 E1_2 E1_3 E1_4 E1_5 E1_6 Z1_0 Z1_1 R1_0 R1_1 R2_0 R2_1 zA1 zE1 zZ1 zR1 zR2 Y0 Y1 Y2 Y3
       obtain ⟨V4, rfl⟩ : ∃ V, V = Y1s := ⟨_, rfl⟩
       have A1_0 : V4.cell? ⟨w.heap.size, 0, none⟩ = some (.int .i64 y) := cell_of_row _ _ _ _ _ _ A1.out
       have A1_1 : V4.cell? ⟨w.heap.size, 1, none⟩ = some (.int .i64 m) := cell_of_row _ _ _ _ _ _ A1.out
       have A1_2 : V4.cell? ⟨w.heap.size, 2, none⟩ = some (.int .i64 d) := cell_of_row _ _ _ _ _ _ A1.out
       have A1_3 : V4.cell? ⟨w.heap.size, 3, none⟩ = some (.int .i64 h) := cell_of_row _ _ _ _ _ _ A1.out
       have A1_4 : V4.cell? ⟨w.heap.size, 4, none⟩ = some (.int .i64 i) := cell_of_row _ _ _ _ _ _ A1.out
       have A1_5 : V4.cell? ⟨w.heap.size, 5, none⟩ = some (.int .i64 s) := cell_of_row _ _ _ _ _ _ A1.out
       have A1_6 : V4.cell? ⟨w.heap.size, 6, none⟩ = some (.int .i64 n) := cell_of_row _ _ _ _ _ _ A1.out
       have zA1 := lt_of_heap A1.out
       have E1_0 : V4.cell? ⟨w.heap.size + 1, 0, none⟩ = some (.int .i64 y') := cell_of_row _ _ _ _ _ _ E1.out
       have E1_1 : V4.cell? ⟨w.heap.size + 1, 1, none⟩ = some (.int .i64 m') := cell_of_row _ _ _ _ _ _ E1.out
       have E1_2 : V4.cell? ⟨w.heap.size + 1, 2, none⟩ = some (.int .i64 d') := cell_of_row _ _ _ _ _ _ E1.out
       have E1_3 : V4.cell? ⟨w.heap.size + 1, 3, none⟩ = some (.int .i64 h') := cell_of_row _ _ _ _ _ _ E1.out
       have E1_4 : V4.cell? ⟨w.heap.size + 1, 4, none⟩ = some (.int .i64 i') := cell_of_row _ _ _ _ _ _ E1.out
       have E1_5 : V4.cell? ⟨w.heap.size + 1, 5, none⟩ = some (.int .i64 s') := cell_of_row _ _ _ _ _ _ E1.out
       have E1_6 : V4.cell? ⟨w.heap.size + 1, 6, none⟩ = some (.int .i64 n') := cell_of_row _ _ _ _ _ _ E1.out
       have zE1 := lt_of_heap E1.out
       have Z1_0 : V4.cell? ⟨w.heap.size + 1 + 1, 0, none⟩ = some (.int .i64 S) := cell_of_row _ _ _ _ _ _ Z1.out
       have Z1_f0 : V4.frozen? ⟨w.heap.size + 1 + 1, 0, none⟩ = false := (by simp [World.frozen?, Z1.out])
       have Z1_1 : V4.cell? ⟨w.heap.size + 1 + 1, 1, none⟩ = some (.int .i64 N) := cell_of_row _ _ _ _ _ _ Z1.out
       have Z1_f1 : V4.frozen? ⟨w.heap.size + 1 + 1, 1, none⟩ = false := (by simp [World.frozen?, Z1.out])
       have zZ1 := lt_of_heap Z1.out
       have R1_0 : V4.cell? ⟨V1.heap.size, 0, none⟩ = some (.int .i64 D1) := cell_of_row _ _ _ _ _ _ R1.out
       have R1_1 : V4.cell? ⟨V1.heap.size, 1, none⟩ = some (.int .i64 N1) := cell_of_row _ _ _ _ _ _ R1.out
       have zR1 := lt_of_heap R1.out
       have R2_0 : V4.cell? ⟨V2.heap.size, 0, none⟩ = some (.int .i64 D2) := cell_of_row _ _ _ _ _ _ R2.out
       have R2_1 : V4.cell? ⟨V2.heap.size, 1, none⟩ = some (.int .i64 N2) := cell_of_row _ _ _ _ _ _ R2.out
       have zR2 := lt_of_heap R2.out
       try go_simp
       go_wp2
       refine shut_ret (v := .tuple #[.agg #[.int .i64 S, .int .i64 N], .int .i64 0]) (by simp [results, Tryd.results16, go_sem, zZ1, Z1_0, Z1_1]) rfl ⟨rfl, ?_⟩
       exact B4.out
  · have u1 : utS y m d h i s n y' m' d' h' i' s' n' = 0 := by unfold utS; rw [if_neg hu]
    have u2 : utN y m d h i s n y' m' d' h' i' s' n' = 0 := by unfold utN; rw [if_neg hu]
    rw [u1, u2]
    rw [show fsI (ckT y m d h i s n) (ckT y' m' d' h' i' s' n') = utE y m d h i s n y' m' d' h' i' s' n' from rfl] at X3
    have H1 := Lib.hid X1
    have H2 := Lib.hid X2
    have H3 := Lib.hid X3
    clear X1 X2 X3 u1 u2
    generalize utE y m d h i s n y' m' d' h' i' s' n' = E at *
    generalize ckT y m d h i s n = C1 at *
    generalize ckT y' m' d' h' i' s' n' = C2 at *
    generalize rdD y m d h i s n = D1 at *
    generalize rdN y m d h i s n = N1 at *
    generalize rdD y' m' d' h' i' s' n' = D2 at *
    generalize rdN y' m' d' h' i' s' n' = N2 at *
    have f1 : (E != 0) = true := by rw [bne_iff_ne]; exact hu
    replace hM := Lib.hid hM
    go_enter Tryd.func16, Tryd.ntmps16
    refine wp_shut ?_
    go_wp2_with fail
    
    refine (H1.out _ (by first | exact tb_keep hM ((((Below.refl w.heap.size w).alloc (Nat.le_refl _) _).alloc (by simp <;> omega) _).alloc (by simp <;> omega) _))).mono ?_
    rintro e V1 ⟨rfl, hb1⟩
    have B1 := Lib.hid (((((Below.refl w.heap.size w).alloc (Nat.le_refl _) _).alloc (by simp <;> omega) _).alloc (by simp <;> omega) _).trans (hb1.mono (by first | assumption | (simp <;> omega) | (simp; done))))
    have A1 := Lib.hid (row_call hb1 (row_alloc (row_alloc (heap_alloc_new _ _) _) _))
    have E1 := Lib.hid (row_at (k' := w.heap.size + 1) (by simp) (row_call hb1 (row_alloc (heap_alloc_new _ _) _)))
    have Z1 := Lib.hid (row_at (k' := w.heap.size + 1 + 1) (by simp) (row_call hb1 (heap_alloc_new _ _)))
    clear hb1
    have A1_0 : V1.cell? ⟨w.heap.size, 0, none⟩ = some (.int .i64 y) := cell_of_row _ _ _ _ _ _ A1.out
    have A1_1 : V1.cell? ⟨w.heap.size, 1, none⟩ = some (.int .i64 m) := cell_of_row _ _ _ _ _ _ A1.out
    have A1_2 : V1.cell? ⟨w.heap.size, 2, none⟩ = some (.int .i64 d) := cell_of_row _ _ _ _ _ _ A1.out
    have A1_3 : V1.cell? ⟨w.heap.size, 3, none⟩ = some (.int .i64 h) := cell_of_row _ _ _ _ _ _ A1.out
    have A1_4 : V1.cell? ⟨w.heap.size, 4, none⟩ = some (.int .i64 i) := cell_of_row _ _ _ _ _ _ A1.out
    have A1_5 : V1.cell? ⟨w.heap.size, 5, none⟩ = some (.int .i64 s) := cell_of_row _ _ _ _ _ _ A1.out
    have A1_6 : V1.cell? ⟨w.heap.size, 6, none⟩ = some (.int .i64 n) := cell_of_row _ _ _ _ _ _ A1.out
    have E1_0 : V1.cell? ⟨w.heap.size + 1, 0, none⟩ = some (.int .i64 y') := cell_of_row _ _ _ _ _ _ E1.out
    have E1_1 : V1.cell? ⟨w.heap.size + 1, 1, none⟩ = some (.int .i64 m') := cell_of_row _ _ _ _ _ _ E1.out
    have E1_2 : V1.cell? ⟨w.heap.size + 1, 2, none⟩ = some (.int .i64 d') := cell_of_row _ _ _ _ _ _ E1.out
    have E1_3 : V1.cell? ⟨w.heap.size + 1, 3, none⟩ = some (.int .i64 h') := cell_of_row _ _ _ _ _ _ E1.out
    have E1_4 : V1.cell? ⟨w.heap.size + 1, 4, none⟩ = some (.int .i64 i') := cell_of_row _ _ _ _ _ _ E1.out
    have E1_5 : V1.cell? ⟨w.heap.size + 1, 5, none⟩ = some (.int .i64 s') := cell_of_row _ _ _ _ _ _ E1.out
    have E1_6 : V1.cell? ⟨w.heap.size + 1, 6, none⟩ = some (.int .i64 n') := cell_of_row _ _ _ _ _ _ E1.out
    have Z1_0 : V1.cell? ⟨w.heap.size + 1 + 1, 0, none⟩ = some (.int .i64 0) := cell_of_row _ _ _ _ _ _ Z1.out
    have Z1_1 : V1.cell? ⟨w.heap.size + 1 + 1, 1, none⟩ = some (.int .i64 0) := cell_of_row _ _ _ _ _ _ Z1.out
    have Z1_f0 : V1.frozen? ⟨w.heap.size + 1 + 1, 0, none⟩ = false := by simp [World.frozen?, Z1.out]
    have Z1_f1 : V1.frozen? ⟨w.heap.size + 1 + 1, 1, none⟩ = false := by simp [World.frozen?, Z1.out]
    have zA1 := lt_of_heap A1.out
    have zE1 := lt_of_heap E1.out
    have zZ1 := lt_of_heap Z1.out
    go_simp
    go_wp2_with fail
    refine (H2.out _ (by first | exact tb_keep hM ((B1.out).alloc (B1.out.size) _))).mono ?_
    rintro e V2 ⟨rfl, hb2⟩
    clear A1_0 A1_1 A1_2 A1_3 A1_4 A1_5 A1_6 zA1 E1_0 E1_1 E1_2 E1_3 E1_4 E1_5 E1_6 zE1 Z1_0 Z1_1 Z1_f0 Z1_f1 zZ1
    have nA1R1 := Lib.hid (lt_of_heap A1.out)
    have nE1R1 := Lib.hid (lt_of_heap E1.out)
    have nZ1R1 := Lib.hid (lt_of_heap Z1.out)
    have B2 := Lib.hid (((B1.out).alloc (B1.out.size) _).trans (hb2.mono (by have := B1.out.size; first | assumption | (simp <;> omega) | (simp; done))))
    replace A1 := Lib.hid (row_call hb2 (row_alloc A1.out _))
    replace E1 := Lib.hid (row_call hb2 (row_alloc E1.out _))
    replace Z1 := Lib.hid (row_call hb2 (row_alloc Z1.out _))
    have R1 := Lib.hid (row_call hb2 (heap_alloc_new _ _))
    clear hb2
    have A1_0 : V2.cell? ⟨w.heap.size, 0, none⟩ = some (.int .i64 y) := cell_of_row _ _ _ _ _ _ A1.out
    have A1_1 : V2.cell? ⟨w.heap.size, 1, none⟩ = some (.int .i64 m) := cell_of_row _ _ _ _ _ _ A1.out
    have A1_2 : V2.cell? ⟨w.heap.size, 2, none⟩ = some (.int .i64 d) := cell_of_row _ _ _ _ _ _ A1.out
    have A1_3 : V2.cell? ⟨w.heap.size, 3, none⟩ = some (.int .i64 h) := cell_of_row _ _ _ _ _ _ A1.out
    have A1_4 : V2.cell? ⟨w.heap.size, 4, none⟩ = some (.int .i64 i) := cell_of_row _ _ _ _ _ _ A1.out
    have A1_5 : V2.cell? ⟨w.heap.size, 5, none⟩ = some (.int .i64 s) := cell_of_row _ _ _ _ _ _ A1.out
    have A1_6 : V2.cell? ⟨w.heap.size, 6, none⟩ = some (.int .i64 n) := cell_of_row _ _ _ _ _ _ A1.out
    have E1_0 : V2.cell? ⟨w.heap.size + 1, 0, none⟩ = some (.int .i64 y') := cell_of_row _ _ _ _ _ _ E1.out
    have E1_1 : V2.cell? ⟨w.heap.size + 1, 1, none⟩ = some (.int .i64 m') := cell_of_row _ _ _ _ _ _ E1.out
    have E1_2 : V2.cell? ⟨w.heap.size + 1, 2, none⟩ = some (.int .i64 d') := cell_of_row _ _ _ _ _ _ E1.out
    have E1_3 : V2.cell? ⟨w.heap.size + 1, 3, none⟩ = some (.int .i64 h') := cell_of_row _ _ _ _ _ _ E1.out
    have E1_4 : V2.cell? ⟨w.heap.size + 1, 4, none⟩ = some (.int .i64 i') := cell_of_row _ _ _ _ _ _ E1.out
    have E1_5 : V2.cell? ⟨w.heap.size + 1, 5, none⟩ = some (.int .i64 s') := cell_of_row _ _ _ _ _ _ E1.out
    have E1_6 : V2.cell? ⟨w.heap.size + 1, 6, none⟩ = some (.int .i64 n') := cell_of_row _ _ _ _ _ _ E1.out
    have Z1_0 : V2.cell? ⟨w.heap.size + 1 + 1, 0, none⟩ = some (.int .i64 0) := cell_of_row _ _ _ _ _ _ Z1.out
    have Z1_1 : V2.cell? ⟨w.heap.size + 1 + 1, 1, none⟩ = some (.int .i64 0) := cell_of_row _ _ _ _ _ _ Z1.out
    have Z1_f0 : V2.frozen? ⟨w.heap.size + 1 + 1, 0, none⟩ = false := by simp [World.frozen?, Z1.out]
    have Z1_f1 : V2.frozen? ⟨w.heap.size + 1 + 1, 1, none⟩ = false := by simp [World.frozen?, Z1.out]
    have R1_0 : V2.cell? ⟨V1.heap.size, 0, none⟩ = some (.int .i64 D1) := cell_of_row _ _ _ _ _ _ R1.out
    have R1_1 : V2.cell? ⟨V1.heap.size, 1, none⟩ = some (.int .i64 N1) := cell_of_row _ _ _ _ _ _ R1.out
    have zA1 := lt_of_heap A1.out
    have zE1 := lt_of_heap E1.out
    have zZ1 := lt_of_heap Z1.out
    have zR1 := lt_of_heap R1.out
    go_simp
    go_wp2_with fail
    refine (H3.out _).mono ?_
    rintro e V3 ⟨rfl, hb3⟩
    clear A1_0 A1_1 A1_2 A1_3 A1_4 A1_5 A1_6 zA1 E1_0 E1_1 E1_2 E1_3 E1_4 E1_5 E1_6 zE1 Z1_0 Z1_1 Z1_f0 Z1_f1 zZ1 R1_0 R1_1 zR1
    have nA1R2 := Lib.hid (lt_of_heap A1.out)
    have nE1R2 := Lib.hid (lt_of_heap E1.out)
    have nZ1R2 := Lib.hid (lt_of_heap Z1.out)
    have nR1R2 := Lib.hid (lt_of_heap R1.out)
    have B3 := Lib.hid (((B2.out).alloc (B2.out.size) _).trans (hb3.mono (by have := B2.out.size; first | assumption | (simp <;> omega) | (simp; done))))
    replace A1 := Lib.hid (row_call hb3 (row_alloc A1.out _))
    replace E1 := Lib.hid (row_call hb3 (row_alloc E1.out _))
    replace Z1 := Lib.hid (row_call hb3 (row_alloc Z1.out _))
    replace R1 := Lib.hid (row_call hb3 (row_alloc R1.out _))
    have R2 := Lib.hid (row_call hb3 (heap_alloc_new _ _))
    clear hb3
    have A1_0 : V3.cell? ⟨w.heap.size, 0, none⟩ = some (.int .i64 y) := cell_of_row _ _ _ _ _ _ A1.out
    have A1_1 : V3.cell? ⟨w.heap.size, 1, none⟩ = some (.int .i64 m) := cell_of_row _ _ _ _ _ _ A1.out
    have A1_2 : V3.cell? ⟨w.heap.size, 2, none⟩ = some (.int .i64 d) := cell_of_row _ _ _ _ _ _ A1.out
    have A1_3 : V3.cell? ⟨w.heap.size, 3, none⟩ = some (.int .i64 h) := cell_of_row _ _ _ _ _ _ A1.out
    have A1_4 : V3.cell? ⟨w.heap.size, 4, none⟩ = some (.int .i64 i) := cell_of_row _ _ _ _ _ _ A1.out
    have A1_5 : V3.cell? ⟨w.heap.size, 5, none⟩ = some (.int .i64 s) := cell_of_row _ _ _ _ _ _ A1.out
    have A1_6 : V3.cell? ⟨w.heap.size, 6, none⟩ = some (.int .i64 n) := cell_of_row _ _ _ _ _ _ A1.out
    have E1_0 : V3.cell? ⟨w.heap.size + 1, 0, none⟩ = some (.int .i64 y') := cell_of_row _ _ _ _ _ _ E1.out
    have E1_1 : V3.cell? ⟨w.heap.size + 1, 1, none⟩ = some (.int .i64 m') := cell_of_row _ _ _ _ _ _ E1.out
    have E1_2 : V3.cell? ⟨w.heap.size + 1, 2, none⟩ = some (.int .i64 d') := cell_of_row _ _ _ _ _ _ E1.out
    have E1_3 : V3.cell? ⟨w.heap.size + 1, 3, none⟩ = some (.int .i64 h') := cell_of_row _ _ _ _ _ _ E1.out
    have E1_4 : V3.cell? ⟨w.heap.size + 1, 4, none⟩ = some (.int .i64 i') := cell_of_row _ _ _ _ _ _ E1.out
    have E1_5 : V3.cell? ⟨w.heap.size + 1, 5, none⟩ = some (.int .i64 s') := cell_of_row _ _ _ _ _ _ E1.out
    have E1_6 : V3.cell? ⟨w.heap.size + 1, 6, none⟩ = some (.int .i64 n') := cell_of_row _ _ _ _ _ _ E1.out
    have Z1_0 : V3.cell? ⟨w.heap.size + 1 + 1, 0, none⟩ = some (.int .i64 0) := cell_of_row _ _ _ _ _ _ Z1.out
    have Z1_1 : V3.cell? ⟨w.heap.size + 1 + 1, 1, none⟩ = some (.int .i64 0) := cell_of_row _ _ _ _ _ _ Z1.out
    have Z1_f0 : V3.frozen? ⟨w.heap.size + 1 + 1, 0, none⟩ = false := by simp [World.frozen?, Z1.out]
    have Z1_f1 : V3.frozen? ⟨w.heap.size + 1 + 1, 1, none⟩ = false := by simp [World.frozen?, Z1.out]
    have R1_0 : V3.cell? ⟨V1.heap.size, 0, none⟩ = some (.int .i64 D1) := cell_of_row _ _ _ _ _ _ R1.out
    have R1_1 : V3.cell? ⟨V1.heap.size, 1, none⟩ = some (.int .i64 N1) := cell_of_row _ _ _ _ _ _ R1.out
    have R2_0 : V3.cell? ⟨V2.heap.size, 0, none⟩ = some (.int .i64 D2) := cell_of_row _ _ _ _ _ _ R2.out
    have R2_1 : V3.cell? ⟨V2.heap.size, 1, none⟩ = some (.int .i64 N2) := cell_of_row _ _ _ _ _ _ R2.out
    have zA1 := lt_of_heap A1.out
    have zE1 := lt_of_heap E1.out
    have zZ1 := lt_of_heap Z1.out
    have zR1 := lt_of_heap R1.out
    have zR2 := lt_of_heap R2.out
    go_simp
    go_wp2
    refine shut_ret (v := .tuple #[.agg #[.int .i64 0, .int .i64 0], .int .i64 E]) (by simp [results, Tryd.results16, go_sem, zZ1, Z1_0, Z1_1]) rfl ⟨rfl, ?_⟩
    exact keep2 B3.out (by omega) _ _
end Go.Proofs.YtaoljjhhbmblhaaDoor
