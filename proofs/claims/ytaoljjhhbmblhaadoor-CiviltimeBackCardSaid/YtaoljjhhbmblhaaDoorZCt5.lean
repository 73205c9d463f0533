/- Several texts in one: CtL. -/
import Derived.Test.YtaoljjhhbmblhaaDoorZRef1
import Derived.Test.YtaoljjhhbmblhaaDoorZInst1
import Derived.Test.YtaoljjhhbmblhaaDoorZCt4
namespace Go.Proofs.YtaoljjhhbmblhaaDoor
set_option linter.unusedVariables false
set_option linter.unusedSimpArgs false
open Go.ChangeShapes Go.WideShapes Go.ChangeAt Go.RowKit
theorem ex_ct1 : seT 1970 1 2 0 0 1 0 = 86401 ∧ ckT 1970 1 2 0 0 1 0 = 0 := by decide +kernel
theorem ex_ct2 : IsCiv (-1) 5 1969 12 31 23 59 59 5 0 := Or.inr (Or.inr ⟨by decide, by decide, by decide, by decide, by decide +kernel, by decide, by decide, by decide +kernel, by decide, by decide, by decide, rfl, rfl⟩)
theorem ex_ct3 : AtIs 9999 12 31 23 59 59 999999999 0 1 0 0 0 0 0 0 0 8 := Or.inl ⟨by decide +kernel, rfl, rfl, rfl, rfl, rfl, rfl, rfl, by decide +kernel⟩
set_option maxHeartbeats 3200000 in
set_option maxRecDepth 100000 in
theorem awake9_any (w : World) (hM : TB w) : Calls Tryd.prog 13 #[] w fun e w' => e = .returned (.bool true) ∧ Below w.heap.size w w' := by
  have X1 := ptSecs_any 1970 1 2 0 0 1 0
  rw [ex_ct1.1, ex_ct1.2] at X1
  have H1 := Lib.hid X1
  have H2 := Lib.hid (ptOf_is ex_ct2)
  have H3 := Lib.hid (ptAdd_is ex_ct3 (by unfold in64; decide) (by unfold in64; decide))
  clear X1
  replace hM := Lib.hid hM
  go_enter Tryd.func13, Tryd.ntmps13
  go_wp2_with fail
  
  refine (H1.out _ (by first | exact tb_keep hM (Below.refl w.heap.size w) | exact tb_keep hM ((Below.refl w.heap.size w).alloc (Nat.le_refl _) _) | exact tb_keep hM (((Below.refl w.heap.size w).alloc (Nat.le_refl _) _).alloc (by simp <;> omega) _) | exact tb_keep hM ((((Below.refl w.heap.size w).alloc (Nat.le_refl _) _).alloc (by simp <;> omega) _).alloc (by simp <;> omega) _))).mono ?_
  rintro e V1 ⟨rfl, hb1⟩
  have B1 : Hid (Below w.heap.size w V1) := by first | exact Lib.hid ((Below.refl w.heap.size w).trans (hb1.mono (by first | assumption | (simp <;> omega) | (simp; done)))) | exact Lib.hid (((Below.refl w.heap.size w).alloc (Nat.le_refl _) _).trans (hb1.mono (by first | assumption | (simp <;> omega) | (simp; done)))) | exact Lib.hid ((((Below.refl w.heap.size w).alloc (Nat.le_refl _) _).alloc (by simp <;> omega) _).trans (hb1.mono (by first | assumption | (simp <;> omega) | (simp; done)))) | exact Lib.hid (((((Below.refl w.heap.size w).alloc (Nat.le_refl _) _).alloc (by simp <;> omega) _).alloc (by simp <;> omega) _).trans (hb1.mono (by first | assumption | (simp <;> omega) | (simp; done))))
  clear hb1
  go_simp
  go_wp2_with fail
  refine (H2.out _ (by first | exact tb_keep hM (B1.out) | exact tb_keep hM ((B1.out).alloc (B1.out.size) _) | exact tb_keep hM (((B1.out).alloc (B1.out.size) _).alloc (by have := B1.out.size; simp <;> omega) _) | exact tb_keep hM ((((B1.out).alloc (B1.out.size) _).alloc (by have := B1.out.size; simp <;> omega) _).alloc (by have := B1.out.size; simp <;> omega) _))).mono ?_
  rintro e V2 ⟨rfl, hb2⟩
  have B2 : Hid (Below w.heap.size w V2) := by first | exact Lib.hid ((B1.out).trans (hb2.mono (by have := B1.out.size; first | assumption | (simp <;> omega) | (simp; done)))) | exact Lib.hid (((B1.out).alloc (B1.out.size) _).trans (hb2.mono (by have := B1.out.size; first | assumption | (simp <;> omega) | (simp; done)))) | exact Lib.hid ((((B1.out).alloc (B1.out.size) _).alloc (by have := B1.out.size; simp <;> omega) _).trans (hb2.mono (by have := B1.out.size; first | assumption | (simp <;> omega) | (simp; done)))) | exact Lib.hid (((((B1.out).alloc (B1.out.size) _).alloc (by have := B1.out.size; simp <;> omega) _).alloc (by have := B1.out.size; simp <;> omega) _).trans (hb2.mono (by have := B1.out.size; first | assumption | (simp <;> omega) | (simp; done))))
  clear hb2
  go_simp
  go_wp2_with fail
  refine (H3.out _ (by first | exact tb_keep hM ((B2.out).alloc (B2.out.size) _))).mono ?_
  rintro e V3 ⟨rfl, hb3⟩
  have B3 := Lib.hid (((B2.out).alloc (B2.out.size) _).trans (hb3.mono (by have := B2.out.size; first | assumption | (simp <;> omega) | (simp; done))))
  have X1 := Lib.hid (row_call hb3 (heap_alloc_new _ _))
  clear hb3
  have X1_0 : V3.cell? ⟨V2.heap.size, 0, none⟩ = some (.int .i64 1969) := cell_of_row _ _ _ _ _ _ X1.out
  have X1_1 : V3.cell? ⟨V2.heap.size, 1, none⟩ = some (.int .i64 12) := cell_of_row _ _ _ _ _ _ X1.out
  have X1_2 : V3.cell? ⟨V2.heap.size, 2, none⟩ = some (.int .i64 31) := cell_of_row _ _ _ _ _ _ X1.out
  have X1_3 : V3.cell? ⟨V2.heap.size, 3, none⟩ = some (.int .i64 23) := cell_of_row _ _ _ _ _ _ X1.out
  have X1_4 : V3.cell? ⟨V2.heap.size, 4, none⟩ = some (.int .i64 59) := cell_of_row _ _ _ _ _ _ X1.out
  have X1_5 : V3.cell? ⟨V2.heap.size, 5, none⟩ = some (.int .i64 59) := cell_of_row _ _ _ _ _ _ X1.out
  have X1_6 : V3.cell? ⟨V2.heap.size, 6, none⟩ = some (.int .i64 5) := cell_of_row _ _ _ _ _ _ X1.out
  have zX1 := lt_of_heap X1.out
  go_simp
  go_wp2
  go_ret
  exact ⟨rfl, by first | exact B3.out | exact B3.out.alloc B3.out.size _⟩
set_option maxHeartbeats 3200000 in
set_option maxRecDepth 100000 in
theorem civiltimeSecs_walk (y m d h i s n S N : Int) (w : World) (hM : TB w) : Calls Tryd.prog 3 #[.agg #[.int .i64 y, .int .i64 m, .int .i64 d, .int .i64 h, .int .i64 i, .int .i64 s, .int .i64 n], .int .i64 S, .int .i64 N] w fun e w' => e = .returned (.bool true) ∧ Below w.heap.size w w' := by
  obtain ⟨r0, r1, r2, r3, r4, r5, r6, E, hc⟩ := isCiv_ex S N
  have H1 := Lib.hid (ptSecs_any y m d h i s n)
  have H2 := Lib.hid (rtSecs_any y m d h i s n)
  have H3 := Lib.hid (ptOf_is hc)
  have H4 := Lib.hid (rtOf_is hc)
  have H5 := Lib.hid (ptCheck_any y m d h i s n)
  have H6 := Lib.hid (rtCheck_any y m d h i s n)
  have HK := Lib.hid awake9_any
  clear hc
  generalize ckT y m d h i s n = F at *
  generalize seT y m d h i s n = G at *
  replace hM := Lib.hid hM
  go_enter Tryd.func3, Tryd.ntmps3
  go_wp2_with fail
  
  refine (H1.out _ (by first | exact tb_keep hM ((Below.refl w.heap.size w).alloc (Nat.le_refl _) _))).mono ?_
  rintro e V1 ⟨rfl, hb1⟩
  have B1 := Lib.hid (((Below.refl w.heap.size w).alloc (Nat.le_refl _) _).trans (hb1.mono (by first | assumption | (simp <;> omega) | (simp; done))))
  have A1 := Lib.hid (row_call hb1 (heap_alloc_new _ _))
  clear hb1
  have A1_0 : V1.cell? ⟨w.heap.size, 0, none⟩ = some (.int .i64 y) := cell_of_row _ _ _ _ _ _ A1.out
  have A1_1 : V1.cell? ⟨w.heap.size, 1, none⟩ = some (.int .i64 m) := cell_of_row _ _ _ _ _ _ A1.out
  have A1_2 : V1.cell? ⟨w.heap.size, 2, none⟩ = some (.int .i64 d) := cell_of_row _ _ _ _ _ _ A1.out
  have A1_3 : V1.cell? ⟨w.heap.size, 3, none⟩ = some (.int .i64 h) := cell_of_row _ _ _ _ _ _ A1.out
  have A1_4 : V1.cell? ⟨w.heap.size, 4, none⟩ = some (.int .i64 i) := cell_of_row _ _ _ _ _ _ A1.out
  have A1_5 : V1.cell? ⟨w.heap.size, 5, none⟩ = some (.int .i64 s) := cell_of_row _ _ _ _ _ _ A1.out
  have A1_6 : V1.cell? ⟨w.heap.size, 6, none⟩ = some (.int .i64 n) := cell_of_row _ _ _ _ _ _ A1.out
  have zA1 := lt_of_heap A1.out
  go_simp
  go_wp2_with fail
  refine (H2.out _).mono ?_
  rintro e V2 ⟨rfl, hb2⟩
  clear A1_0 A1_1 A1_2 A1_3 A1_4 A1_5 A1_6 zA1
  have B2 : Hid (Below w.heap.size w V2) := by first | exact Lib.hid ((B1.out).trans (hb2.mono (by have := B1.out.size; first | assumption | (simp <;> omega) | (simp; done)))) | exact Lib.hid (((B1.out).alloc (B1.out.size) _).trans (hb2.mono (by have := B1.out.size; first | assumption | (simp <;> omega) | (simp; done)))) | exact Lib.hid ((((B1.out).alloc (B1.out.size) _).alloc (by have := B1.out.size; simp <;> omega) _).trans (hb2.mono (by have := B1.out.size; first | assumption | (simp <;> omega) | (simp; done)))) | exact Lib.hid (((((B1.out).alloc (B1.out.size) _).alloc (by have := B1.out.size; simp <;> omega) _).alloc (by have := B1.out.size; simp <;> omega) _).trans (hb2.mono (by have := B1.out.size; first | assumption | (simp <;> omega) | (simp; done))))
  first | replace A1 := Lib.hid (row_call hb2 A1.out) | replace A1 := Lib.hid (row_call hb2 (row_alloc A1.out _)) | replace A1 := Lib.hid (row_call hb2 (row_alloc (row_alloc A1.out _) _)) | replace A1 := Lib.hid (row_call hb2 (row_alloc (row_alloc (row_alloc A1.out _) _) _))
  clear hb2
  have A1_0 : V2.cell? ⟨w.heap.size, 0, none⟩ = some (.int .i64 y) := cell_of_row _ _ _ _ _ _ A1.out
  have A1_1 : V2.cell? ⟨w.heap.size, 1, none⟩ = some (.int .i64 m) := cell_of_row _ _ _ _ _ _ A1.out
  have A1_2 : V2.cell? ⟨w.heap.size, 2, none⟩ = some (.int .i64 d) := cell_of_row _ _ _ _ _ _ A1.out
  have A1_3 : V2.cell? ⟨w.heap.size, 3, none⟩ = some (.int .i64 h) := cell_of_row _ _ _ _ _ _ A1.out
  have A1_4 : V2.cell? ⟨w.heap.size, 4, none⟩ = some (.int .i64 i) := cell_of_row _ _ _ _ _ _ A1.out
  have A1_5 : V2.cell? ⟨w.heap.size, 5, none⟩ = some (.int .i64 s) := cell_of_row _ _ _ _ _ _ A1.out
  have A1_6 : V2.cell? ⟨w.heap.size, 6, none⟩ = some (.int .i64 n) := cell_of_row _ _ _ _ _ _ A1.out
  have zA1 := lt_of_heap A1.out
  go_simp
  go_wp2_with fail
  refine (H3.out _ (by first | exact tb_keep hM (B2.out) | exact tb_keep hM ((B2.out).alloc (B2.out.size) _) | exact tb_keep hM (((B2.out).alloc (B2.out.size) _).alloc (by have := B2.out.size; simp <;> omega) _) | exact tb_keep hM ((((B2.out).alloc (B2.out.size) _).alloc (by have := B2.out.size; simp <;> omega) _).alloc (by have := B2.out.size; simp <;> omega) _))).mono ?_
  rintro e V3 ⟨rfl, hb3⟩
  clear A1_0 A1_1 A1_2 A1_3 A1_4 A1_5 A1_6 zA1
  have B3 : Hid (Below w.heap.size w V3) := by first | exact Lib.hid ((B2.out).trans (hb3.mono (by have := B2.out.size; first | assumption | (simp <;> omega) | (simp; done)))) | exact Lib.hid (((B2.out).alloc (B2.out.size) _).trans (hb3.mono (by have := B2.out.size; first | assumption | (simp <;> omega) | (simp; done)))) | exact Lib.hid ((((B2.out).alloc (B2.out.size) _).alloc (by have := B2.out.size; simp <;> omega) _).trans (hb3.mono (by have := B2.out.size; first | assumption | (simp <;> omega) | (simp; done)))) | exact Lib.hid (((((B2.out).alloc (B2.out.size) _).alloc (by have := B2.out.size; simp <;> omega) _).alloc (by have := B2.out.size; simp <;> omega) _).trans (hb3.mono (by have := B2.out.size; first | assumption | (simp <;> omega) | (simp; done))))
  first | replace A1 := Lib.hid (row_call hb3 A1.out) | replace A1 := Lib.hid (row_call hb3 (row_alloc A1.out _)) | replace A1 := Lib.hid (row_call hb3 (row_alloc (row_alloc A1.out _) _)) | replace A1 := Lib.hid (row_call hb3 (row_alloc (row_alloc (row_alloc A1.out _) _) _))
  clear hb3
  have A1_0 : V3.cell? ⟨w.heap.size, 0, none⟩ = some (.int .i64 y) := cell_of_row _ _ _ _ _ _ A1.out
  have A1_1 : V3.cell? ⟨w.heap.size, 1, none⟩ = some (.int .i64 m) := cell_of_row _ _ _ _ _ _ A1.out
  have A1_2 : V3.cell? ⟨w.heap.size, 2, none⟩ = some (.int .i64 d) := cell_of_row _ _ _ _ _ _ A1.out
  have A1_3 : V3.cell? ⟨w.heap.size, 3, none⟩ = some (.int .i64 h) := cell_of_row _ _ _ _ _ _ A1.out
  have A1_4 : V3.cell? ⟨w.heap.size, 4, none⟩ = some (.int .i64 i) := cell_of_row _ _ _ _ _ _ A1.out
  have A1_5 : V3.cell? ⟨w.heap.size, 5, none⟩ = some (.int .i64 s) := cell_of_row _ _ _ _ _ _ A1.out
  have A1_6 : V3.cell? ⟨w.heap.size, 6, none⟩ = some (.int .i64 n) := cell_of_row _ _ _ _ _ _ A1.out
  have zA1 := lt_of_heap A1.out
  go_simp
  go_wp2_with fail
  refine (H4.out _).mono ?_
  rintro e V4 ⟨rfl, hb4⟩
  clear A1_0 A1_1 A1_2 A1_3 A1_4 A1_5 A1_6 zA1
  have nA1X1 := Lib.hid (lt_of_heap A1.out)
  have B4 := Lib.hid (((B3.out).alloc (B3.out.size) _).trans (hb4.mono (by have := B3.out.size; first | assumption | (simp <;> omega) | (simp; done))))
  replace A1 := Lib.hid (row_call hb4 (row_alloc A1.out _))
  have X1 := Lib.hid (row_call hb4 (heap_alloc_new _ _))
  clear hb4
  have A1_0 : V4.cell? ⟨w.heap.size, 0, none⟩ = some (.int .i64 y) := cell_of_row _ _ _ _ _ _ A1.out
  have A1_1 : V4.cell? ⟨w.heap.size, 1, none⟩ = some (.int .i64 m) := cell_of_row _ _ _ _ _ _ A1.out
  have A1_2 : V4.cell? ⟨w.heap.size, 2, none⟩ = some (.int .i64 d) := cell_of_row _ _ _ _ _ _ A1.out
  have A1_3 : V4.cell? ⟨w.heap.size, 3, none⟩ = some (.int .i64 h) := cell_of_row _ _ _ _ _ _ A1.out
  have A1_4 : V4.cell? ⟨w.heap.size, 4, none⟩ = some (.int .i64 i) := cell_of_row _ _ _ _ _ _ A1.out
  have A1_5 : V4.cell? ⟨w.heap.size, 5, none⟩ = some (.int .i64 s) := cell_of_row _ _ _ _ _ _ A1.out
  have A1_6 : V4.cell? ⟨w.heap.size, 6, none⟩ = some (.int .i64 n) := cell_of_row _ _ _ _ _ _ A1.out
  have X1_0 : V4.cell? ⟨V3.heap.size, 0, none⟩ = some (.int .i64 r0) := cell_of_row _ _ _ _ _ _ X1.out
  have X1_1 : V4.cell? ⟨V3.heap.size, 1, none⟩ = some (.int .i64 r1) := cell_of_row _ _ _ _ _ _ X1.out
  have X1_2 : V4.cell? ⟨V3.heap.size, 2, none⟩ = some (.int .i64 r2) := cell_of_row _ _ _ _ _ _ X1.out
  have X1_3 : V4.cell? ⟨V3.heap.size, 3, none⟩ = some (.int .i64 r3) := cell_of_row _ _ _ _ _ _ X1.out
  have X1_4 : V4.cell? ⟨V3.heap.size, 4, none⟩ = some (.int .i64 r4) := cell_of_row _ _ _ _ _ _ X1.out
  have X1_5 : V4.cell? ⟨V3.heap.size, 5, none⟩ = some (.int .i64 r5) := cell_of_row _ _ _ _ _ _ X1.out
  have X1_6 : V4.cell? ⟨V3.heap.size, 6, none⟩ = some (.int .i64 r6) := cell_of_row _ _ _ _ _ _ X1.out
  have zA1 := lt_of_heap A1.out
  have zX1 := lt_of_heap X1.out
  go_simp
  go_wp2_with fail
  obtain ⟨W0, hW0⟩ : ∃ W0, W0 = (V4.alloc (Obj.cells #[Value.int .i64 r0, Value.int .i64 r1, Value.int .i64 r2, Value.int .i64 r3, Value.int .i64 r4, Value.int .i64 r5, Value.int .i64 r6] 27)) := ⟨_, rfl⟩
  replace A1 := Lib.hid (row_by hW0 (row_alloc A1.out _))
  replace X1 := Lib.hid (row_by hW0 (row_alloc X1.out _))
  have Y1 := Lib.hid (row_at (k' := V4.heap.size) (by simp) (row_by hW0 (heap_alloc_new _ _)))
  clear A1_0 A1_1 A1_2 A1_3 A1_4 A1_5 A1_6 zA1 X1_0 X1_1 X1_2 X1_3 X1_4 X1_5 X1_6 zX1
  have A1_0 : W0.cell? ⟨w.heap.size, 0, none⟩ = some (.int .i64 y) := cell_of_row _ _ _ _ _ _ A1.out
  have A1_1 : W0.cell? ⟨w.heap.size, 1, none⟩ = some (.int .i64 m) := cell_of_row _ _ _ _ _ _ A1.out
  have A1_2 : W0.cell? ⟨w.heap.size, 2, none⟩ = some (.int .i64 d) := cell_of_row _ _ _ _ _ _ A1.out
  have A1_3 : W0.cell? ⟨w.heap.size, 3, none⟩ = some (.int .i64 h) := cell_of_row _ _ _ _ _ _ A1.out
  have A1_4 : W0.cell? ⟨w.heap.size, 4, none⟩ = some (.int .i64 i) := cell_of_row _ _ _ _ _ _ A1.out
  have A1_5 : W0.cell? ⟨w.heap.size, 5, none⟩ = some (.int .i64 s) := cell_of_row _ _ _ _ _ _ A1.out
  have A1_6 : W0.cell? ⟨w.heap.size, 6, none⟩ = some (.int .i64 n) := cell_of_row _ _ _ _ _ _ A1.out
  have zA1 := lt_of_heap A1.out
  have X1_0 : W0.cell? ⟨V3.heap.size, 0, none⟩ = some (.int .i64 r0) := cell_of_row _ _ _ _ _ _ X1.out
  have X1_1 : W0.cell? ⟨V3.heap.size, 1, none⟩ = some (.int .i64 r1) := cell_of_row _ _ _ _ _ _ X1.out
  have X1_2 : W0.cell? ⟨V3.heap.size, 2, none⟩ = some (.int .i64 r2) := cell_of_row _ _ _ _ _ _ X1.out
  have X1_3 : W0.cell? ⟨V3.heap.size, 3, none⟩ = some (.int .i64 r3) := cell_of_row _ _ _ _ _ _ X1.out
  have X1_4 : W0.cell? ⟨V3.heap.size, 4, none⟩ = some (.int .i64 r4) := cell_of_row _ _ _ _ _ _ X1.out
  have X1_5 : W0.cell? ⟨V3.heap.size, 5, none⟩ = some (.int .i64 r5) := cell_of_row _ _ _ _ _ _ X1.out
  have X1_6 : W0.cell? ⟨V3.heap.size, 6, none⟩ = some (.int .i64 r6) := cell_of_row _ _ _ _ _ _ X1.out
  have zX1 := lt_of_heap X1.out
  have Y1_0 : W0.cell? ⟨V4.heap.size, 0, none⟩ = some (.int .i64 r0) := cell_of_row _ _ _ _ _ _ Y1.out
  have Y1_1 : W0.cell? ⟨V4.heap.size, 1, none⟩ = some (.int .i64 r1) := cell_of_row _ _ _ _ _ _ Y1.out
  have Y1_2 : W0.cell? ⟨V4.heap.size, 2, none⟩ = some (.int .i64 r2) := cell_of_row _ _ _ _ _ _ Y1.out
  have Y1_3 : W0.cell? ⟨V4.heap.size, 3, none⟩ = some (.int .i64 r3) := cell_of_row _ _ _ _ _ _ Y1.out
  have Y1_4 : W0.cell? ⟨V4.heap.size, 4, none⟩ = some (.int .i64 r4) := cell_of_row _ _ _ _ _ _ Y1.out
  have Y1_5 : W0.cell? ⟨V4.heap.size, 5, none⟩ = some (.int .i64 r5) := cell_of_row _ _ _ _ _ _ Y1.out
  have Y1_6 : W0.cell? ⟨V4.heap.size, 6, none⟩ = some (.int .i64 r6) := cell_of_row _ _ _ _ _ _ Y1.out
  have zY1 := lt_of_heap Y1.out
  have HB0 := Lib.hid (below_by hW0 ((B4.out).alloc (B4.out.size) _))
  have zW0 := HB0.out.size
  have HW0 := Lib.hid hW0
  clear hW0
  try go_simp
  rw [← HW0.out]
  have hk0 : ∀ w2, Below W0.heap.size W0 w2 → w2.cell? ⟨w.heap.size, 0, none⟩ = some (.int .i64 y) := fun w2 hb => (by rw [hb.cell (p := ⟨w.heap.size, 0, none⟩) (by assumption)]; assumption)
  have hk1 : ∀ w2, Below W0.heap.size W0 w2 → w2.cell? ⟨w.heap.size, 1, none⟩ = some (.int .i64 m) := fun w2 hb => (by rw [hb.cell (p := ⟨w.heap.size, 1, none⟩) (by assumption)]; assumption)
  have hk2 : ∀ w2, Below W0.heap.size W0 w2 → w2.cell? ⟨w.heap.size, 2, none⟩ = some (.int .i64 d) := fun w2 hb => (by rw [hb.cell (p := ⟨w.heap.size, 2, none⟩) (by assumption)]; assumption)
  have hk3 : ∀ w2, Below W0.heap.size W0 w2 → w2.cell? ⟨w.heap.size, 3, none⟩ = some (.int .i64 h) := fun w2 hb => (by rw [hb.cell (p := ⟨w.heap.size, 3, none⟩) (by assumption)]; assumption)
  have hk4 : ∀ w2, Below W0.heap.size W0 w2 → w2.cell? ⟨w.heap.size, 4, none⟩ = some (.int .i64 i) := fun w2 hb => (by rw [hb.cell (p := ⟨w.heap.size, 4, none⟩) (by assumption)]; assumption)
  have hk5 : ∀ w2, Below W0.heap.size W0 w2 → w2.cell? ⟨w.heap.size, 5, none⟩ = some (.int .i64 s) := fun w2 hb => (by rw [hb.cell (p := ⟨w.heap.size, 5, none⟩) (by assumption)]; assumption)
  have hk6 : ∀ w2, Below W0.heap.size W0 w2 → w2.cell? ⟨w.heap.size, 6, none⟩ = some (.int .i64 n) := fun w2 hb => (by rw [hb.cell (p := ⟨w.heap.size, 6, none⟩) (by assumption)]; assumption)
  have hk7 : ∀ w2, Below W0.heap.size W0 w2 → w2.cell? ⟨V3.heap.size, 0, none⟩ = some (.int .i64 r0) := fun w2 hb => (by rw [hb.cell (p := ⟨V3.heap.size, 0, none⟩) (by assumption)]; assumption)
  have hk8 : ∀ w2, Below W0.heap.size W0 w2 → w2.cell? ⟨V3.heap.size, 1, none⟩ = some (.int .i64 r1) := fun w2 hb => (by rw [hb.cell (p := ⟨V3.heap.size, 1, none⟩) (by assumption)]; assumption)
  have hk9 : ∀ w2, Below W0.heap.size W0 w2 → w2.cell? ⟨V3.heap.size, 2, none⟩ = some (.int .i64 r2) := fun w2 hb => (by rw [hb.cell (p := ⟨V3.heap.size, 2, none⟩) (by assumption)]; assumption)
  have hk10 : ∀ w2, Below W0.heap.size W0 w2 → w2.cell? ⟨V3.heap.size, 3, none⟩ = some (.int .i64 r3) := fun w2 hb => (by rw [hb.cell (p := ⟨V3.heap.size, 3, none⟩) (by assumption)]; assumption)
  have hk11 : ∀ w2, Below W0.heap.size W0 w2 → w2.cell? ⟨V3.heap.size, 4, none⟩ = some (.int .i64 r4) := fun w2 hb => (by rw [hb.cell (p := ⟨V3.heap.size, 4, none⟩) (by assumption)]; assumption)
  have hk12 : ∀ w2, Below W0.heap.size W0 w2 → w2.cell? ⟨V3.heap.size, 5, none⟩ = some (.int .i64 r5) := fun w2 hb => (by rw [hb.cell (p := ⟨V3.heap.size, 5, none⟩) (by assumption)]; assumption)
  have hk13 : ∀ w2, Below W0.heap.size W0 w2 → w2.cell? ⟨V3.heap.size, 6, none⟩ = some (.int .i64 r6) := fun w2 hb => (by rw [hb.cell (p := ⟨V3.heap.size, 6, none⟩) (by assumption)]; assumption)
  have hk14 : ∀ w2, Below W0.heap.size W0 w2 → w2.cell? ⟨V4.heap.size, 0, none⟩ = some (.int .i64 r0) := fun w2 hb => (by rw [hb.cell (p := ⟨V4.heap.size, 0, none⟩) (by assumption)]; assumption)
  have hk15 : ∀ w2, Below W0.heap.size W0 w2 → w2.cell? ⟨V4.heap.size, 1, none⟩ = some (.int .i64 r1) := fun w2 hb => (by rw [hb.cell (p := ⟨V4.heap.size, 1, none⟩) (by assumption)]; assumption)
  have hk16 : ∀ w2, Below W0.heap.size W0 w2 → w2.cell? ⟨V4.heap.size, 2, none⟩ = some (.int .i64 r2) := fun w2 hb => (by rw [hb.cell (p := ⟨V4.heap.size, 2, none⟩) (by assumption)]; assumption)
  have hk17 : ∀ w2, Below W0.heap.size W0 w2 → w2.cell? ⟨V4.heap.size, 3, none⟩ = some (.int .i64 r3) := fun w2 hb => (by rw [hb.cell (p := ⟨V4.heap.size, 3, none⟩) (by assumption)]; assumption)
  have hk18 : ∀ w2, Below W0.heap.size W0 w2 → w2.cell? ⟨V4.heap.size, 4, none⟩ = some (.int .i64 r4) := fun w2 hb => (by rw [hb.cell (p := ⟨V4.heap.size, 4, none⟩) (by assumption)]; assumption)
  have hk19 : ∀ w2, Below W0.heap.size W0 w2 → w2.cell? ⟨V4.heap.size, 5, none⟩ = some (.int .i64 r5) := fun w2 hb => (by rw [hb.cell (p := ⟨V4.heap.size, 5, none⟩) (by assumption)]; assumption)
  have hk20 : ∀ w2, Below W0.heap.size W0 w2 → w2.cell? ⟨V4.heap.size, 6, none⟩ = some (.int .i64 r6) := fun w2 hb => (by rw [hb.cell (p := ⟨V4.heap.size, 6, none⟩) (by assumption)]; assumption)
  clear A1_0 A1_1 A1_2 A1_3 A1_4 A1_5 A1_6 X1_0 X1_1 X1_2 X1_3 X1_4 X1_5 X1_6 Y1_0 Y1_1 Y1_2 Y1_3 Y1_4 Y1_5 Y1_6
  refine region_plan (S := fun w2 => Below W0.heap.size W0 w2) [(0, true), (1, true), (2, true), (3, true), (4, true), (5, true), (6, true), (7, true), (8, true), (9, true), (10, true), (11, true), (12, true), (13, true), (14, true), (15, true), (16, true), (17, true), (18, true), (19, true), (21, true), (20, false), (22, false), (23, true), (24, true), (25, true), (26, false), (27, true), (28, true)] (by as_aux_lemma => kernel_rfl) (by as_aux_lemma => kernel_rfl) (by as_aux_lemma => kernel_rfl) (by as_aux_lemma => kernel_rfl) (Below.refl W0.heap.size W0).drew ?_
  have Y0 := Lib.hid (Below.refl W0.heap.size W0).drew
  refine plan_yes (v := ?v1) (by simp only [List.getElem?_toArray, List.getElem?_cons_zero, List.getElem?_cons_succ]; exact rfl) (Or.inl ⟨by as_aux_lemma => rfl, ?hy1⟩) ?rest1
  case hy1 => (intro w2 hSw; (try dsimp only at hSw); go_simp; try with_reducible rfl)
  try simp only [Act.put, List.setIfInBounds_toArray, List.set_cons_zero, List.set_cons_succ]
  refine plan_yes (v := ?v2) (by simp only [List.getElem?_toArray, List.getElem?_cons_zero, List.getElem?_cons_succ]; exact rfl) (Or.inl ⟨by as_aux_lemma => rfl, ?hy2⟩) ?rest2
  case hy2 => (intro w2 hSw; (try dsimp only at hSw); go_simp; try with_reducible rfl)
  try simp only [Act.put, List.setIfInBounds_toArray, List.set_cons_zero, List.set_cons_succ]
  refine plan_yes (v := ?v3) (by simp only [List.getElem?_toArray, List.getElem?_cons_zero, List.getElem?_cons_succ]; exact rfl) (Or.inl ⟨by as_aux_lemma => rfl, ?hy3⟩) ?rest3
  case hy3 => (intro w2 hSw; (try dsimp only at hSw); go_simp; try with_reducible rfl)
  try simp only [Act.put, List.setIfInBounds_toArray, List.set_cons_zero, List.set_cons_succ]
  refine plan_yes (v := ?v4) (by simp only [List.getElem?_toArray, List.getElem?_cons_zero, List.getElem?_cons_succ]; exact rfl) (Or.inl ⟨by as_aux_lemma => rfl, ?hy4⟩) ?rest4
  case hy4 => (intro w2 hSw; (try dsimp only at hSw); go_simp; try with_reducible rfl)
  try simp only [Act.put, List.setIfInBounds_toArray, List.set_cons_zero, List.set_cons_succ]
  refine plan_yes (v := ?v5) (by simp only [List.getElem?_toArray, List.getElem?_cons_zero, List.getElem?_cons_succ]; exact rfl) (Or.inl ⟨by as_aux_lemma => rfl, ?hy5⟩) ?rest5
  case hy5 => (intro w2 hSw; (try dsimp only at hSw); go_simp; try with_reducible rfl)
  try simp only [Act.put, List.setIfInBounds_toArray, List.set_cons_zero, List.set_cons_succ]
  refine plan_yes (v := ?v6) (by simp only [List.getElem?_toArray, List.getElem?_cons_zero, List.getElem?_cons_succ]; exact rfl) (Or.inl ⟨by as_aux_lemma => rfl, ?hy6⟩) ?rest6
  case hy6 => (intro w2 hSw; (try dsimp only at hSw); go_simp; try with_reducible rfl)
  try simp only [Act.put, List.setIfInBounds_toArray, List.set_cons_zero, List.set_cons_succ]
  refine plan_yes (v := ?v7) (by simp only [List.getElem?_toArray, List.getElem?_cons_zero, List.getElem?_cons_succ]; exact rfl) (Or.inl ⟨by as_aux_lemma => rfl, ?hy7⟩) ?rest7
  case hy7 => (intro w2 hSw; (try dsimp only at hSw); go_simp; try with_reducible rfl)
  try simp only [Act.put, List.setIfInBounds_toArray, List.set_cons_zero, List.set_cons_succ]
  refine plan_yes (v := ?v8) (by simp only [List.getElem?_toArray, List.getElem?_cons_zero, List.getElem?_cons_succ]; exact rfl) (Or.inl ⟨by as_aux_lemma => rfl, ?hy8⟩) ?rest8
  case hy8 => (intro w2 hSw; (try dsimp only at hSw); go_simp; try with_reducible rfl)
  try simp only [Act.put, List.setIfInBounds_toArray, List.set_cons_zero, List.set_cons_succ]
  refine plan_yes (v := ?v9) (by simp only [List.getElem?_toArray, List.getElem?_cons_zero, List.getElem?_cons_succ]; exact rfl) (Or.inl ⟨by as_aux_lemma => rfl, ?hy9⟩) ?rest9
  case hy9 => (intro w2 hSw; (try dsimp only at hSw); go_simp; try with_reducible rfl)
  try simp only [Act.put, List.setIfInBounds_toArray, List.set_cons_zero, List.set_cons_succ]
  refine plan_yes (v := ?v10) (by simp only [List.getElem?_toArray, List.getElem?_cons_zero, List.getElem?_cons_succ]; exact rfl) (Or.inl ⟨by as_aux_lemma => rfl, ?hy10⟩) ?rest10
  case hy10 => (intro w2 hSw; (try dsimp only at hSw); go_simp; try with_reducible rfl)
  try simp only [Act.put, List.setIfInBounds_toArray, List.set_cons_zero, List.set_cons_succ]
  refine plan_yes (v := ?v11) (by simp only [List.getElem?_toArray, List.getElem?_cons_zero, List.getElem?_cons_succ]; exact rfl) (Or.inl ⟨by as_aux_lemma => rfl, ?hy11⟩) ?rest11
  case hy11 => (intro w2 hSw; (try dsimp only at hSw); go_simp; try with_reducible rfl)
  try simp only [Act.put, List.setIfInBounds_toArray, List.set_cons_zero, List.set_cons_succ]
  refine plan_yes (v := .bool true) (by simp only [List.getElem?_toArray, List.getElem?_cons_zero, List.getElem?_cons_succ]; exact rfl) (Or.inl ⟨by as_aux_lemma => rfl, ?hy12⟩) ?rest12
  case hy12 => (intro w2 hSw; first | (apply eql_wide; rfl; rfl; rfl) | (apply eql_inst; rfl; rfl; rfl) | (apply eql_dur; rfl; rfl; rfl) | (apply eql_clock; rfl; rfl; rfl) | (apply eql_date; rfl; rfl; rfl) | (apply eql_civil; rfl; rfl; rfl))
  try simp only [Act.put, List.setIfInBounds_toArray, List.set_cons_zero, List.set_cons_succ]
  refine plan_yes (v := ?v13) (by simp only [List.getElem?_toArray, List.getElem?_cons_zero, List.getElem?_cons_succ]; exact rfl) (Or.inl ⟨by as_aux_lemma => rfl, ?hy13⟩) ?rest13
  case hy13 => (intro w2 hSw; (try dsimp only at hSw); go_simp; try with_reducible rfl)
  try simp only [Act.put, List.setIfInBounds_toArray, List.set_cons_zero, List.set_cons_succ]
  refine plan_yes (v := ?v14) (by simp only [List.getElem?_toArray, List.getElem?_cons_zero, List.getElem?_cons_succ]; exact rfl) (Or.inl ⟨by as_aux_lemma => rfl, ?hy14⟩) ?rest14
  case hy14 => (intro w2 hSw; (try dsimp only at hSw); go_simp; try with_reducible rfl)
  try simp only [Act.put, List.setIfInBounds_toArray, List.set_cons_zero, List.set_cons_succ]
  refine plan_yes (v := ?v15) (by simp only [List.getElem?_toArray, List.getElem?_cons_zero, List.getElem?_cons_succ]; exact rfl) (Or.inl ⟨by as_aux_lemma => rfl, ?hy15⟩) ?rest15
  case hy15 => (intro w2 hSw; (try dsimp only at hSw); go_simp; try with_reducible rfl)
  try simp only [Act.put, List.setIfInBounds_toArray, List.set_cons_zero, List.set_cons_succ]
  refine plan_yes (v := ?v16) (by simp only [List.getElem?_toArray, List.getElem?_cons_zero, List.getElem?_cons_succ]; exact rfl) (Or.inl ⟨by as_aux_lemma => rfl, ?hy16⟩) ?rest16
  case hy16 => (intro w2 hSw; (try dsimp only at hSw); go_simp; try with_reducible rfl)
  try simp only [Act.put, List.setIfInBounds_toArray, List.set_cons_zero, List.set_cons_succ]
  refine plan_yes (v := ?v17) (by simp only [List.getElem?_toArray, List.getElem?_cons_zero, List.getElem?_cons_succ]; exact rfl) (Or.inl ⟨by as_aux_lemma => rfl, ?hy17⟩) ?rest17
  case hy17 => (intro w2 hSw; (try dsimp only at hSw); go_simp; try with_reducible rfl)
  try simp only [Act.put, List.setIfInBounds_toArray, List.set_cons_zero, List.set_cons_succ]
  refine plan_yes (v := ?v18) (by simp only [List.getElem?_toArray, List.getElem?_cons_zero, List.getElem?_cons_succ]; exact rfl) (Or.inl ⟨by as_aux_lemma => rfl, ?hy18⟩) ?rest18
  case hy18 => (intro w2 hSw; (try dsimp only at hSw); go_simp; try with_reducible rfl)
  try simp only [Act.put, List.setIfInBounds_toArray, List.set_cons_zero, List.set_cons_succ]
  refine plan_yes (v := ?v19) (by simp only [List.getElem?_toArray, List.getElem?_cons_zero, List.getElem?_cons_succ]; exact rfl) (Or.inl ⟨by as_aux_lemma => rfl, ?hy19⟩) ?rest19
  case hy19 => (intro w2 hSw; (try dsimp only at hSw); go_simp; try with_reducible rfl)
  try simp only [Act.put, List.setIfInBounds_toArray, List.set_cons_zero, List.set_cons_succ]
  refine plan_yes (v := ?v20) (by simp only [List.getElem?_toArray, List.getElem?_cons_zero, List.getElem?_cons_succ]; exact rfl) (Or.inl ⟨by as_aux_lemma => rfl, ?hy20⟩) ?rest20
  case hy20 => (intro w2 hSw; (try dsimp only at hSw); go_simp; try with_reducible rfl)
  try simp only [Act.put, List.setIfInBounds_toArray, List.set_cons_zero, List.set_cons_succ]
  refine plan_yes (v := ?v21) (by simp only [List.getElem?_toArray, List.getElem?_cons_zero, List.getElem?_cons_succ]; exact rfl) (Or.inl ⟨by as_aux_lemma => rfl, ?hy21⟩) ?rest21
  case hy21 => (intro w2 hSw; (try dsimp only at hSw); go_simp; try with_reducible rfl)
  try simp only [Act.put, List.setIfInBounds_toArray, List.set_cons_zero, List.set_cons_succ]
  refine plan_calls (by simp only [List.getElem?_toArray, List.getElem?_cons_zero, List.getElem?_cons_succ]; exact rfl) (by as_aux_lemma => rfl) (fun K hK => ?_)
  go_simp
  refine (H5.out _ (tb_keep (Lib.hid (tb_keep hM HB0.out)) Y0.out)).mono ?_
  rintro e Y1w ⟨rfl, hb1⟩
  have Y1 := Lib.hid (keepS (W0 := W0) Y0.out hb1)
  clear hb1
  refine hK.out _ _ Y1.out ?_
  clear hK K
  try simp only [Act.put, List.setIfInBounds_toArray, List.set_cons_zero, List.set_cons_succ]
  as_aux_lemma =>
   refine plan_calls (by simp only [List.getElem?_toArray, List.getElem?_cons_zero, List.getElem?_cons_succ]; exact rfl) (by as_aux_lemma => rfl) (fun K hK => ?_)
   go_simp
   refine (H6.out _).mono ?_
   rintro e Y2w ⟨rfl, hb1⟩
   have Y2 := Lib.hid (keepS (W0 := W0) Y1.out hb1)
   clear hb1
   refine hK.out _ _ Y2.out ?_
   clear hK K
   try simp only [Act.put, List.setIfInBounds_toArray, List.set_cons_zero, List.set_cons_succ]
   as_aux_lemma =>
    refine plan_yes (v := ?v22) (by simp only [List.getElem?_toArray, List.getElem?_cons_zero, List.getElem?_cons_succ]; exact rfl) (Or.inl ⟨by as_aux_lemma => rfl, ?hy22⟩) ?rest22
    case hy22 => (intro w2 hSw; (try dsimp only at hSw); go_simp; try with_reducible rfl)
    try simp only [Act.put, List.setIfInBounds_toArray, List.set_cons_zero, List.set_cons_succ]
    refine plan_yes (v := ?v23) (by simp only [List.getElem?_toArray, List.getElem?_cons_zero, List.getElem?_cons_succ]; exact rfl) (Or.inl ⟨by as_aux_lemma => rfl, ?hy23⟩) ?rest23
    case hy23 => (intro w2 hSw; (try dsimp only at hSw); go_simp; try with_reducible rfl)
    try simp only [Act.put, List.setIfInBounds_toArray, List.set_cons_zero, List.set_cons_succ]
    refine plan_yes (v := ?v24) (by simp only [List.getElem?_toArray, List.getElem?_cons_zero, List.getElem?_cons_succ]; exact rfl) (Or.inl ⟨by as_aux_lemma => rfl, ?hy24⟩) ?rest24
    case hy24 => (intro w2 hSw; (try dsimp only at hSw); go_simp; try with_reducible rfl)
    try simp only [Act.put, List.setIfInBounds_toArray, List.set_cons_zero, List.set_cons_succ]
    refine plan_calls (by simp only [List.getElem?_toArray, List.getElem?_cons_zero, List.getElem?_cons_succ]; exact rfl) (by as_aux_lemma => rfl) (fun K hK => ?_)
    go_simp
    refine (HK.out _ (tb_keep (Lib.hid (tb_keep hM HB0.out)) Y2.out)).mono ?_
    rintro e Y3w ⟨rfl, hb1⟩
    have Y3 := Lib.hid (keepS (W0 := W0) Y2.out hb1)
    clear hb1
    refine hK.out _ _ Y3.out ?_
    clear hK K
    try simp only [Act.put, List.setIfInBounds_toArray, List.set_cons_zero, List.set_cons_succ]
    as_aux_lemma =>
     refine plan_yes (v := ?v25) (by simp only [List.getElem?_toArray, List.getElem?_cons_zero, List.getElem?_cons_succ]; exact rfl) (Or.inl ⟨by as_aux_lemma => rfl, ?hy25⟩) ?rest25
     case hy25 => (intro w2 hSw; (try dsimp only at hSw); go_simp; try with_reducible rfl)
     try simp only [Act.put, List.setIfInBounds_toArray, List.set_cons_zero, List.set_cons_succ]
     refine plan_yes (v := ?v26) (by simp only [List.getElem?_toArray, List.getElem?_cons_zero, List.getElem?_cons_succ]; exact rfl) (Or.inl ⟨by as_aux_lemma => rfl, ?hy26⟩) ?rest26
     case hy26 => (intro w2 hSw; (try dsimp only at hSw); go_simp; try with_reducible rfl)
     try simp only [Act.put, List.setIfInBounds_toArray, List.set_cons_zero, List.set_cons_succ]
     refine plan_done (NoPanic.normal ?_)
     have B0 := Y3.out
     have BW := Lib.hid (HB0.out.trans (B0.mono zW0))
     go_simp
     go_wp2
     go_ret
     exact ⟨rfl, BW.out⟩
set_option maxHeartbeats 3200000 in
set_option maxRecDepth 100000 in
theorem civiltimeSums_walk (y m d h i s n y' m' d' h' i' s' n' c k : Int) (bc : in64 c) (bk : in64 k) (w : World) (hM : TB w) :
    Calls Tryd.prog 4 #[.agg #[.int .i64 y, .int .i64 m, .int .i64 d, .int .i64 h, .int .i64 i, .int .i64 s, .int .i64 n], .agg #[.int .i64 y', .int .i64 m', .int .i64 d', .int .i64 h', .int .i64 i', .int .i64 s', .int .i64 n'], .agg #[.int .i64 c, .int .i64 k]] w fun e w' => e = .returned (.bool true) ∧ Below w.heap.size w w' := by
  obtain ⟨r0, r1, r2, r3, r4, r5, r6, E, hc⟩ := atIs_ex y m d h i s n c k
  have H1 := Lib.hid (ptAdd_is hc bc bk)
  have H2 := Lib.hid (rtAdd_is hc bc bk)
  have H3 := Lib.hid (ptSub_is y m d h i s n y' m' d' h' i' s' n')
  have H4 := Lib.hid (rtSub_is y m d h i s n y' m' d' h' i' s' n')
  have H5 := Lib.hid (ptCmp_any y m d h i s n y' m' d' h' i' s' n')
  have H6 := Lib.hid (rtCmp_any y m d h i s n y' m' d' h' i' s' n')
  have HK := Lib.hid awake9_any
  clear hc bc bk
  generalize utS y m d h i s n y' m' d' h' i' s' n' = S at *
  generalize utN y m d h i s n y' m' d' h' i' s' n' = N at *
  generalize utE y m d h i s n y' m' d' h' i' s' n' = F at *
  generalize ordT y m d h i s n y' m' d' h' i' s' n' = o at *
  replace hM := Lib.hid hM
  go_enter Tryd.func4, Tryd.ntmps4
  go_wp2_with fail
  
  refine (H1.out _ (by first | exact tb_keep hM ((((Below.refl w.heap.size w).alloc (Nat.le_refl _) _).alloc (by simp <;> omega) _).alloc (by simp <;> omega) _))).mono ?_
  rintro e V1 ⟨rfl, hb1⟩
  have B1 := Lib.hid (((((Below.refl w.heap.size w).alloc (Nat.le_refl _) _).alloc (by simp <;> omega) _).alloc (by simp <;> omega) _).trans (hb1.mono (by first | assumption | (simp <;> omega) | (simp; done))))
  have A1 := Lib.hid (row_call hb1 (row_alloc (row_alloc (heap_alloc_new _ _) _) _))
  have C1 := Lib.hid (row_at (k' := w.heap.size + 1) (by simp) (row_call hb1 (row_alloc (heap_alloc_new _ _) _)))
  have D1 := Lib.hid (row_at (k' := w.heap.size + 1 + 1) (by simp) (row_call hb1 (heap_alloc_new _ _)))
  clear hb1
  have A1_0 : V1.cell? ⟨w.heap.size, 0, none⟩ = some (.int .i64 y) := cell_of_row _ _ _ _ _ _ A1.out
  have A1_1 : V1.cell? ⟨w.heap.size, 1, none⟩ = some (.int .i64 m) := cell_of_row _ _ _ _ _ _ A1.out
  have A1_2 : V1.cell? ⟨w.heap.size, 2, none⟩ = some (.int .i64 d) := cell_of_row _ _ _ _ _ _ A1.out
  have A1_3 : V1.cell? ⟨w.heap.size, 3, none⟩ = some (.int .i64 h) := cell_of_row _ _ _ _ _ _ A1.out
  have A1_4 : V1.cell? ⟨w.heap.size, 4, none⟩ = some (.int .i64 i) := cell_of_row _ _ _ _ _ _ A1.out
  have A1_5 : V1.cell? ⟨w.heap.size, 5, none⟩ = some (.int .i64 s) := cell_of_row _ _ _ _ _ _ A1.out
  have A1_6 : V1.cell? ⟨w.heap.size, 6, none⟩ = some (.int .i64 n) := cell_of_row _ _ _ _ _ _ A1.out
  have C1_0 : V1.cell? ⟨w.heap.size + 1, 0, none⟩ = some (.int .i64 y') := cell_of_row _ _ _ _ _ _ C1.out
  have C1_1 : V1.cell? ⟨w.heap.size + 1, 1, none⟩ = some (.int .i64 m') := cell_of_row _ _ _ _ _ _ C1.out
  have C1_2 : V1.cell? ⟨w.heap.size + 1, 2, none⟩ = some (.int .i64 d') := cell_of_row _ _ _ _ _ _ C1.out
  have C1_3 : V1.cell? ⟨w.heap.size + 1, 3, none⟩ = some (.int .i64 h') := cell_of_row _ _ _ _ _ _ C1.out
  have C1_4 : V1.cell? ⟨w.heap.size + 1, 4, none⟩ = some (.int .i64 i') := cell_of_row _ _ _ _ _ _ C1.out
  have C1_5 : V1.cell? ⟨w.heap.size + 1, 5, none⟩ = some (.int .i64 s') := cell_of_row _ _ _ _ _ _ C1.out
  have C1_6 : V1.cell? ⟨w.heap.size + 1, 6, none⟩ = some (.int .i64 n') := cell_of_row _ _ _ _ _ _ C1.out
  have D1_0 : V1.cell? ⟨w.heap.size + 1 + 1, 0, none⟩ = some (.int .i64 c) := cell_of_row _ _ _ _ _ _ D1.out
  have D1_1 : V1.cell? ⟨w.heap.size + 1 + 1, 1, none⟩ = some (.int .i64 k) := cell_of_row _ _ _ _ _ _ D1.out
  have zA1 := lt_of_heap A1.out
  have zC1 := lt_of_heap C1.out
  have zD1 := lt_of_heap D1.out
  go_simp
  go_wp2_with fail
  refine (H2.out _).mono ?_
  rintro e V2 ⟨rfl, hb2⟩
  clear A1_0 A1_1 A1_2 A1_3 A1_4 A1_5 A1_6 zA1 C1_0 C1_1 C1_2 C1_3 C1_4 C1_5 C1_6 zC1 D1_0 D1_1 zD1
  have nA1X1 := Lib.hid (lt_of_heap A1.out)
  have nC1X1 := Lib.hid (lt_of_heap C1.out)
  have nD1X1 := Lib.hid (lt_of_heap D1.out)
  have B2 := Lib.hid (((B1.out).alloc (B1.out.size) _).trans (hb2.mono (by have := B1.out.size; first | assumption | (simp <;> omega) | (simp; done))))
  replace A1 := Lib.hid (row_call hb2 (row_alloc A1.out _))
  replace C1 := Lib.hid (row_call hb2 (row_alloc C1.out _))
  replace D1 := Lib.hid (row_call hb2 (row_alloc D1.out _))
  have X1 := Lib.hid (row_call hb2 (heap_alloc_new _ _))
  clear hb2
  have A1_0 : V2.cell? ⟨w.heap.size, 0, none⟩ = some (.int .i64 y) := cell_of_row _ _ _ _ _ _ A1.out
  have A1_1 : V2.cell? ⟨w.heap.size, 1, none⟩ = some (.int .i64 m) := cell_of_row _ _ _ _ _ _ A1.out
  have A1_2 : V2.cell? ⟨w.heap.size, 2, none⟩ = some (.int .i64 d) := cell_of_row _ _ _ _ _ _ A1.out
  have A1_3 : V2.cell? ⟨w.heap.size, 3, none⟩ = some (.int .i64 h) := cell_of_row _ _ _ _ _ _ A1.out
  have A1_4 : V2.cell? ⟨w.heap.size, 4, none⟩ = some (.int .i64 i) := cell_of_row _ _ _ _ _ _ A1.out
  have A1_5 : V2.cell? ⟨w.heap.size, 5, none⟩ = some (.int .i64 s) := cell_of_row _ _ _ _ _ _ A1.out
  have A1_6 : V2.cell? ⟨w.heap.size, 6, none⟩ = some (.int .i64 n) := cell_of_row _ _ _ _ _ _ A1.out
  have C1_0 : V2.cell? ⟨w.heap.size + 1, 0, none⟩ = some (.int .i64 y') := cell_of_row _ _ _ _ _ _ C1.out
  have C1_1 : V2.cell? ⟨w.heap.size + 1, 1, none⟩ = some (.int .i64 m') := cell_of_row _ _ _ _ _ _ C1.out
  have C1_2 : V2.cell? ⟨w.heap.size + 1, 2, none⟩ = some (.int .i64 d') := cell_of_row _ _ _ _ _ _ C1.out
  have C1_3 : V2.cell? ⟨w.heap.size + 1, 3, none⟩ = some (.int .i64 h') := cell_of_row _ _ _ _ _ _ C1.out
  have C1_4 : V2.cell? ⟨w.heap.size + 1, 4, none⟩ = some (.int .i64 i') := cell_of_row _ _ _ _ _ _ C1.out
  have C1_5 : V2.cell? ⟨w.heap.size + 1, 5, none⟩ = some (.int .i64 s') := cell_of_row _ _ _ _ _ _ C1.out
  have C1_6 : V2.cell? ⟨w.heap.size + 1, 6, none⟩ = some (.int .i64 n') := cell_of_row _ _ _ _ _ _ C1.out
  have D1_0 : V2.cell? ⟨w.heap.size + 1 + 1, 0, none⟩ = some (.int .i64 c) := cell_of_row _ _ _ _ _ _ D1.out
  have D1_1 : V2.cell? ⟨w.heap.size + 1 + 1, 1, none⟩ = some (.int .i64 k) := cell_of_row _ _ _ _ _ _ D1.out
  have X1_0 : V2.cell? ⟨V1.heap.size, 0, none⟩ = some (.int .i64 r0) := cell_of_row _ _ _ _ _ _ X1.out
  have X1_1 : V2.cell? ⟨V1.heap.size, 1, none⟩ = some (.int .i64 r1) := cell_of_row _ _ _ _ _ _ X1.out
  have X1_2 : V2.cell? ⟨V1.heap.size, 2, none⟩ = some (.int .i64 r2) := cell_of_row _ _ _ _ _ _ X1.out
  have X1_3 : V2.cell? ⟨V1.heap.size, 3, none⟩ = some (.int .i64 r3) := cell_of_row _ _ _ _ _ _ X1.out
  have X1_4 : V2.cell? ⟨V1.heap.size, 4, none⟩ = some (.int .i64 r4) := cell_of_row _ _ _ _ _ _ X1.out
  have X1_5 : V2.cell? ⟨V1.heap.size, 5, none⟩ = some (.int .i64 r5) := cell_of_row _ _ _ _ _ _ X1.out
  have X1_6 : V2.cell? ⟨V1.heap.size, 6, none⟩ = some (.int .i64 r6) := cell_of_row _ _ _ _ _ _ X1.out
  have zA1 := lt_of_heap A1.out
  have zC1 := lt_of_heap C1.out
  have zD1 := lt_of_heap D1.out
  have zX1 := lt_of_heap X1.out
  go_simp
  go_wp2_with fail
  refine (H3.out _ (by first | exact tb_keep hM ((B2.out).alloc (B2.out.size) _))).mono ?_
  rintro e V3 ⟨rfl, hb3⟩
  clear A1_0 A1_1 A1_2 A1_3 A1_4 A1_5 A1_6 zA1 C1_0 C1_1 C1_2 C1_3 C1_4 C1_5 C1_6 zC1 D1_0 D1_1 zD1 X1_0 X1_1 X1_2 X1_3 X1_4 X1_5 X1_6 zX1
  have nA1Y1 := Lib.hid (lt_of_heap A1.out)
  have nC1Y1 := Lib.hid (lt_of_heap C1.out)
  have nD1Y1 := Lib.hid (lt_of_heap D1.out)
  have nX1Y1 := Lib.hid (lt_of_heap X1.out)
  have B3 := Lib.hid (((B2.out).alloc (B2.out.size) _).trans (hb3.mono (by have := B2.out.size; first | assumption | (simp <;> omega) | (simp; done))))
  replace A1 := Lib.hid (row_call hb3 (row_alloc A1.out _))
  replace C1 := Lib.hid (row_call hb3 (row_alloc C1.out _))
  replace D1 := Lib.hid (row_call hb3 (row_alloc D1.out _))
  replace X1 := Lib.hid (row_call hb3 (row_alloc X1.out _))
  have Y1 := Lib.hid (row_call hb3 (heap_alloc_new _ _))
  clear hb3
  have A1_0 : V3.cell? ⟨w.heap.size, 0, none⟩ = some (.int .i64 y) := cell_of_row _ _ _ _ _ _ A1.out
  have A1_1 : V3.cell? ⟨w.heap.size, 1, none⟩ = some (.int .i64 m) := cell_of_row _ _ _ _ _ _ A1.out
  have A1_2 : V3.cell? ⟨w.heap.size, 2, none⟩ = some (.int .i64 d) := cell_of_row _ _ _ _ _ _ A1.out
  have A1_3 : V3.cell? ⟨w.heap.size, 3, none⟩ = some (.int .i64 h) := cell_of_row _ _ _ _ _ _ A1.out
  have A1_4 : V3.cell? ⟨w.heap.size, 4, none⟩ = some (.int .i64 i) := cell_of_row _ _ _ _ _ _ A1.out
  have A1_5 : V3.cell? ⟨w.heap.size, 5, none⟩ = some (.int .i64 s) := cell_of_row _ _ _ _ _ _ A1.out
  have A1_6 : V3.cell? ⟨w.heap.size, 6, none⟩ = some (.int .i64 n) := cell_of_row _ _ _ _ _ _ A1.out
  have C1_0 : V3.cell? ⟨w.heap.size + 1, 0, none⟩ = some (.int .i64 y') := cell_of_row _ _ _ _ _ _ C1.out
  have C1_1 : V3.cell? ⟨w.heap.size + 1, 1, none⟩ = some (.int .i64 m') := cell_of_row _ _ _ _ _ _ C1.out
  have C1_2 : V3.cell? ⟨w.heap.size + 1, 2, none⟩ = some (.int .i64 d') := cell_of_row _ _ _ _ _ _ C1.out
  have C1_3 : V3.cell? ⟨w.heap.size + 1, 3, none⟩ = some (.int .i64 h') := cell_of_row _ _ _ _ _ _ C1.out
  have C1_4 : V3.cell? ⟨w.heap.size + 1, 4, none⟩ = some (.int .i64 i') := cell_of_row _ _ _ _ _ _ C1.out
  have C1_5 : V3.cell? ⟨w.heap.size + 1, 5, none⟩ = some (.int .i64 s') := cell_of_row _ _ _ _ _ _ C1.out
  have C1_6 : V3.cell? ⟨w.heap.size + 1, 6, none⟩ = some (.int .i64 n') := cell_of_row _ _ _ _ _ _ C1.out
  have D1_0 : V3.cell? ⟨w.heap.size + 1 + 1, 0, none⟩ = some (.int .i64 c) := cell_of_row _ _ _ _ _ _ D1.out
  have D1_1 : V3.cell? ⟨w.heap.size + 1 + 1, 1, none⟩ = some (.int .i64 k) := cell_of_row _ _ _ _ _ _ D1.out
  have X1_0 : V3.cell? ⟨V1.heap.size, 0, none⟩ = some (.int .i64 r0) := cell_of_row _ _ _ _ _ _ X1.out
  have X1_1 : V3.cell? ⟨V1.heap.size, 1, none⟩ = some (.int .i64 r1) := cell_of_row _ _ _ _ _ _ X1.out
  have X1_2 : V3.cell? ⟨V1.heap.size, 2, none⟩ = some (.int .i64 r2) := cell_of_row _ _ _ _ _ _ X1.out
  have X1_3 : V3.cell? ⟨V1.heap.size, 3, none⟩ = some (.int .i64 r3) := cell_of_row _ _ _ _ _ _ X1.out
  have X1_4 : V3.cell? ⟨V1.heap.size, 4, none⟩ = some (.int .i64 r4) := cell_of_row _ _ _ _ _ _ X1.out
  have X1_5 : V3.cell? ⟨V1.heap.size, 5, none⟩ = some (.int .i64 r5) := cell_of_row _ _ _ _ _ _ X1.out
  have X1_6 : V3.cell? ⟨V1.heap.size, 6, none⟩ = some (.int .i64 r6) := cell_of_row _ _ _ _ _ _ X1.out
  have Y1_0 : V3.cell? ⟨V2.heap.size, 0, none⟩ = some (.int .i64 r0) := cell_of_row _ _ _ _ _ _ Y1.out
  have Y1_1 : V3.cell? ⟨V2.heap.size, 1, none⟩ = some (.int .i64 r1) := cell_of_row _ _ _ _ _ _ Y1.out
  have Y1_2 : V3.cell? ⟨V2.heap.size, 2, none⟩ = some (.int .i64 r2) := cell_of_row _ _ _ _ _ _ Y1.out
  have Y1_3 : V3.cell? ⟨V2.heap.size, 3, none⟩ = some (.int .i64 r3) := cell_of_row _ _ _ _ _ _ Y1.out
  have Y1_4 : V3.cell? ⟨V2.heap.size, 4, none⟩ = some (.int .i64 r4) := cell_of_row _ _ _ _ _ _ Y1.out
  have Y1_5 : V3.cell? ⟨V2.heap.size, 5, none⟩ = some (.int .i64 r5) := cell_of_row _ _ _ _ _ _ Y1.out
  have Y1_6 : V3.cell? ⟨V2.heap.size, 6, none⟩ = some (.int .i64 r6) := cell_of_row _ _ _ _ _ _ Y1.out
  have zA1 := lt_of_heap A1.out
  have zC1 := lt_of_heap C1.out
  have zD1 := lt_of_heap D1.out
  have zX1 := lt_of_heap X1.out
  have zY1 := lt_of_heap Y1.out
  go_simp
  go_wp2_with fail
  refine (H4.out _).mono ?_
  rintro e V4 ⟨rfl, hb4⟩
  clear A1_0 A1_1 A1_2 A1_3 A1_4 A1_5 A1_6 zA1 C1_0 C1_1 C1_2 C1_3 C1_4 C1_5 C1_6 zC1 D1_0 D1_1 zD1 X1_0 X1_1 X1_2 X1_3 X1_4 X1_5 X1_6 zX1 Y1_0 Y1_1 Y1_2 Y1_3 Y1_4 Y1_5 Y1_6 zY1
  have nA1U1 := Lib.hid (lt_of_heap A1.out)
  have nC1U1 := Lib.hid (lt_of_heap C1.out)
  have nD1U1 := Lib.hid (lt_of_heap D1.out)
  have nX1U1 := Lib.hid (lt_of_heap X1.out)
  have nY1U1 := Lib.hid (lt_of_heap Y1.out)
  have B4 := Lib.hid (((B3.out).alloc (B3.out.size) _).trans (hb4.mono (by have := B3.out.size; first | assumption | (simp <;> omega) | (simp; done))))
  replace A1 := Lib.hid (row_call hb4 (row_alloc A1.out _))
  replace C1 := Lib.hid (row_call hb4 (row_alloc C1.out _))
  replace D1 := Lib.hid (row_call hb4 (row_alloc D1.out _))
  replace X1 := Lib.hid (row_call hb4 (row_alloc X1.out _))
  replace Y1 := Lib.hid (row_call hb4 (row_alloc Y1.out _))
  have U1 := Lib.hid (row_call hb4 (heap_alloc_new _ _))
  clear hb4
  have A1_0 : V4.cell? ⟨w.heap.size, 0, none⟩ = some (.int .i64 y) := cell_of_row _ _ _ _ _ _ A1.out
  have A1_1 : V4.cell? ⟨w.heap.size, 1, none⟩ = some (.int .i64 m) := cell_of_row _ _ _ _ _ _ A1.out
  have A1_2 : V4.cell? ⟨w.heap.size, 2, none⟩ = some (.int .i64 d) := cell_of_row _ _ _ _ _ _ A1.out
  have A1_3 : V4.cell? ⟨w.heap.size, 3, none⟩ = some (.int .i64 h) := cell_of_row _ _ _ _ _ _ A1.out
  have A1_4 : V4.cell? ⟨w.heap.size, 4, none⟩ = some (.int .i64 i) := cell_of_row _ _ _ _ _ _ A1.out
  have A1_5 : V4.cell? ⟨w.heap.size, 5, none⟩ = some (.int .i64 s) := cell_of_row _ _ _ _ _ _ A1.out
  have A1_6 : V4.cell? ⟨w.heap.size, 6, none⟩ = some (.int .i64 n) := cell_of_row _ _ _ _ _ _ A1.out
  have C1_0 : V4.cell? ⟨w.heap.size + 1, 0, none⟩ = some (.int .i64 y') := cell_of_row _ _ _ _ _ _ C1.out
  have C1_1 : V4.cell? ⟨w.heap.size + 1, 1, none⟩ = some (.int .i64 m') := cell_of_row _ _ _ _ _ _ C1.out
  have C1_2 : V4.cell? ⟨w.heap.size + 1, 2, none⟩ = some (.int .i64 d') := cell_of_row _ _ _ _ _ _ C1.out
  have C1_3 : V4.cell? ⟨w.heap.size + 1, 3, none⟩ = some (.int .i64 h') := cell_of_row _ _ _ _ _ _ C1.out
  have C1_4 : V4.cell? ⟨w.heap.size + 1, 4, none⟩ = some (.int .i64 i') := cell_of_row _ _ _ _ _ _ C1.out
  have C1_5 : V4.cell? ⟨w.heap.size + 1, 5, none⟩ = some (.int .i64 s') := cell_of_row _ _ _ _ _ _ C1.out
  have C1_6 : V4.cell? ⟨w.heap.size + 1, 6, none⟩ = some (.int .i64 n') := cell_of_row _ _ _ _ _ _ C1.out
  have D1_0 : V4.cell? ⟨w.heap.size + 1 + 1, 0, none⟩ = some (.int .i64 c) := cell_of_row _ _ _ _ _ _ D1.out
  have D1_1 : V4.cell? ⟨w.heap.size + 1 + 1, 1, none⟩ = some (.int .i64 k) := cell_of_row _ _ _ _ _ _ D1.out
  have X1_0 : V4.cell? ⟨V1.heap.size, 0, none⟩ = some (.int .i64 r0) := cell_of_row _ _ _ _ _ _ X1.out
  have X1_1 : V4.cell? ⟨V1.heap.size, 1, none⟩ = some (.int .i64 r1) := cell_of_row _ _ _ _ _ _ X1.out
  have X1_2 : V4.cell? ⟨V1.heap.size, 2, none⟩ = some (.int .i64 r2) := cell_of_row _ _ _ _ _ _ X1.out
  have X1_3 : V4.cell? ⟨V1.heap.size, 3, none⟩ = some (.int .i64 r3) := cell_of_row _ _ _ _ _ _ X1.out
  have X1_4 : V4.cell? ⟨V1.heap.size, 4, none⟩ = some (.int .i64 r4) := cell_of_row _ _ _ _ _ _ X1.out
  have X1_5 : V4.cell? ⟨V1.heap.size, 5, none⟩ = some (.int .i64 r5) := cell_of_row _ _ _ _ _ _ X1.out
  have X1_6 : V4.cell? ⟨V1.heap.size, 6, none⟩ = some (.int .i64 r6) := cell_of_row _ _ _ _ _ _ X1.out
  have Y1_0 : V4.cell? ⟨V2.heap.size, 0, none⟩ = some (.int .i64 r0) := cell_of_row _ _ _ _ _ _ Y1.out
  have Y1_1 : V4.cell? ⟨V2.heap.size, 1, none⟩ = some (.int .i64 r1) := cell_of_row _ _ _ _ _ _ Y1.out
  have Y1_2 : V4.cell? ⟨V2.heap.size, 2, none⟩ = some (.int .i64 r2) := cell_of_row _ _ _ _ _ _ Y1.out
  have Y1_3 : V4.cell? ⟨V2.heap.size, 3, none⟩ = some (.int .i64 r3) := cell_of_row _ _ _ _ _ _ Y1.out
  have Y1_4 : V4.cell? ⟨V2.heap.size, 4, none⟩ = some (.int .i64 r4) := cell_of_row _ _ _ _ _ _ Y1.out
  have Y1_5 : V4.cell? ⟨V2.heap.size, 5, none⟩ = some (.int .i64 r5) := cell_of_row _ _ _ _ _ _ Y1.out
  have Y1_6 : V4.cell? ⟨V2.heap.size, 6, none⟩ = some (.int .i64 r6) := cell_of_row _ _ _ _ _ _ Y1.out
  have U1_0 : V4.cell? ⟨V3.heap.size, 0, none⟩ = some (.int .i64 S) := cell_of_row _ _ _ _ _ _ U1.out
  have U1_1 : V4.cell? ⟨V3.heap.size, 1, none⟩ = some (.int .i64 N) := cell_of_row _ _ _ _ _ _ U1.out
  have zA1 := lt_of_heap A1.out
  have zC1 := lt_of_heap C1.out
  have zD1 := lt_of_heap D1.out
  have zX1 := lt_of_heap X1.out
  have zY1 := lt_of_heap Y1.out
  have zU1 := lt_of_heap U1.out
  go_simp
  go_wp2_with fail
  obtain ⟨W0, hW0⟩ : ∃ W0, W0 = (V4.alloc (Obj.cells #[Value.int .i64 S, Value.int .i64 N] 42)) := ⟨_, rfl⟩
  replace A1 := Lib.hid (row_by hW0 (row_alloc A1.out _))
  replace C1 := Lib.hid (row_by hW0 (row_alloc C1.out _))
  replace D1 := Lib.hid (row_by hW0 (row_alloc D1.out _))
  replace X1 := Lib.hid (row_by hW0 (row_alloc X1.out _))
  replace Y1 := Lib.hid (row_by hW0 (row_alloc Y1.out _))
  replace U1 := Lib.hid (row_by hW0 (row_alloc U1.out _))
  have V1r := Lib.hid (row_at (k' := V4.heap.size) (by simp) (row_by hW0 (heap_alloc_new _ _)))
  clear A1_0 A1_1 A1_2 A1_3 A1_4 A1_5 A1_6 zA1 C1_0 C1_1 C1_2 C1_3 C1_4 C1_5 C1_6 zC1 D1_0 D1_1 zD1 X1_0 X1_1 X1_2 X1_3 X1_4 X1_5 X1_6 zX1 Y1_0 Y1_1 Y1_2 Y1_3 Y1_4 Y1_5 Y1_6 zY1 U1_0 U1_1 zU1
  have A1_0 : W0.cell? ⟨w.heap.size, 0, none⟩ = some (.int .i64 y) := cell_of_row _ _ _ _ _ _ A1.out
  have A1_1 : W0.cell? ⟨w.heap.size, 1, none⟩ = some (.int .i64 m) := cell_of_row _ _ _ _ _ _ A1.out
  have A1_2 : W0.cell? ⟨w.heap.size, 2, none⟩ = some (.int .i64 d) := cell_of_row _ _ _ _ _ _ A1.out
  have A1_3 : W0.cell? ⟨w.heap.size, 3, none⟩ = some (.int .i64 h) := cell_of_row _ _ _ _ _ _ A1.out
  have A1_4 : W0.cell? ⟨w.heap.size, 4, none⟩ = some (.int .i64 i) := cell_of_row _ _ _ _ _ _ A1.out
  have A1_5 : W0.cell? ⟨w.heap.size, 5, none⟩ = some (.int .i64 s) := cell_of_row _ _ _ _ _ _ A1.out
  have A1_6 : W0.cell? ⟨w.heap.size, 6, none⟩ = some (.int .i64 n) := cell_of_row _ _ _ _ _ _ A1.out
  have zA1 := lt_of_heap A1.out
  have C1_0 : W0.cell? ⟨w.heap.size + 1, 0, none⟩ = some (.int .i64 y') := cell_of_row _ _ _ _ _ _ C1.out
  have C1_1 : W0.cell? ⟨w.heap.size + 1, 1, none⟩ = some (.int .i64 m') := cell_of_row _ _ _ _ _ _ C1.out
  have C1_2 : W0.cell? ⟨w.heap.size + 1, 2, none⟩ = some (.int .i64 d') := cell_of_row _ _ _ _ _ _ C1.out
  have C1_3 : W0.cell? ⟨w.heap.size + 1, 3, none⟩ = some (.int .i64 h') := cell_of_row _ _ _ _ _ _ C1.out
  have C1_4 : W0.cell? ⟨w.heap.size + 1, 4, none⟩ = some (.int .i64 i') := cell_of_row _ _ _ _ _ _ C1.out
  have C1_5 : W0.cell? ⟨w.heap.size + 1, 5, none⟩ = some (.int .i64 s') := cell_of_row _ _ _ _ _ _ C1.out
  have C1_6 : W0.cell? ⟨w.heap.size + 1, 6, none⟩ = some (.int .i64 n') := cell_of_row _ _ _ _ _ _ C1.out
  have zC1 := lt_of_heap C1.out
  have D1_0 : W0.cell? ⟨w.heap.size + 1 + 1, 0, none⟩ = some (.int .i64 c) := cell_of_row _ _ _ _ _ _ D1.out
  have D1_1 : W0.cell? ⟨w.heap.size + 1 + 1, 1, none⟩ = some (.int .i64 k) := cell_of_row _ _ _ _ _ _ D1.out
  have zD1 := lt_of_heap D1.out
  have X1_0 : W0.cell? ⟨V1.heap.size, 0, none⟩ = some (.int .i64 r0) := cell_of_row _ _ _ _ _ _ X1.out
  have X1_1 : W0.cell? ⟨V1.heap.size, 1, none⟩ = some (.int .i64 r1) := cell_of_row _ _ _ _ _ _ X1.out
  have X1_2 : W0.cell? ⟨V1.heap.size, 2, none⟩ = some (.int .i64 r2) := cell_of_row _ _ _ _ _ _ X1.out
  have X1_3 : W0.cell? ⟨V1.heap.size, 3, none⟩ = some (.int .i64 r3) := cell_of_row _ _ _ _ _ _ X1.out
  have X1_4 : W0.cell? ⟨V1.heap.size, 4, none⟩ = some (.int .i64 r4) := cell_of_row _ _ _ _ _ _ X1.out
  have X1_5 : W0.cell? ⟨V1.heap.size, 5, none⟩ = some (.int .i64 r5) := cell_of_row _ _ _ _ _ _ X1.out
  have X1_6 : W0.cell? ⟨V1.heap.size, 6, none⟩ = some (.int .i64 r6) := cell_of_row _ _ _ _ _ _ X1.out
  have zX1 := lt_of_heap X1.out
  have Y1_0 : W0.cell? ⟨V2.heap.size, 0, none⟩ = some (.int .i64 r0) := cell_of_row _ _ _ _ _ _ Y1.out
  have Y1_1 : W0.cell? ⟨V2.heap.size, 1, none⟩ = some (.int .i64 r1) := cell_of_row _ _ _ _ _ _ Y1.out
  have Y1_2 : W0.cell? ⟨V2.heap.size, 2, none⟩ = some (.int .i64 r2) := cell_of_row _ _ _ _ _ _ Y1.out
  have Y1_3 : W0.cell? ⟨V2.heap.size, 3, none⟩ = some (.int .i64 r3) := cell_of_row _ _ _ _ _ _ Y1.out
  have Y1_4 : W0.cell? ⟨V2.heap.size, 4, none⟩ = some (.int .i64 r4) := cell_of_row _ _ _ _ _ _ Y1.out
  have Y1_5 : W0.cell? ⟨V2.heap.size, 5, none⟩ = some (.int .i64 r5) := cell_of_row _ _ _ _ _ _ Y1.out
  have Y1_6 : W0.cell? ⟨V2.heap.size, 6, none⟩ = some (.int .i64 r6) := cell_of_row _ _ _ _ _ _ Y1.out
  have zY1 := lt_of_heap Y1.out
  have U1_0 : W0.cell? ⟨V3.heap.size, 0, none⟩ = some (.int .i64 S) := cell_of_row _ _ _ _ _ _ U1.out
  have U1_1 : W0.cell? ⟨V3.heap.size, 1, none⟩ = some (.int .i64 N) := cell_of_row _ _ _ _ _ _ U1.out
  have zU1 := lt_of_heap U1.out
  have V1r_0 : W0.cell? ⟨V4.heap.size, 0, none⟩ = some (.int .i64 S) := cell_of_row _ _ _ _ _ _ V1r.out
  have V1r_1 : W0.cell? ⟨V4.heap.size, 1, none⟩ = some (.int .i64 N) := cell_of_row _ _ _ _ _ _ V1r.out
  have zV1r := lt_of_heap V1r.out
  have HB0 := Lib.hid (below_by hW0 ((B4.out).alloc (B4.out.size) _))
  have zW0 := HB0.out.size
  have HW0 := Lib.hid hW0
  clear hW0
  try go_simp
  rw [← HW0.out]
  have hk0 : ∀ w2, Below W0.heap.size W0 w2 → w2.cell? ⟨w.heap.size, 0, none⟩ = some (.int .i64 y) := fun w2 hb => (by rw [hb.cell (p := ⟨w.heap.size, 0, none⟩) (by assumption)]; assumption)
  have hk1 : ∀ w2, Below W0.heap.size W0 w2 → w2.cell? ⟨w.heap.size, 1, none⟩ = some (.int .i64 m) := fun w2 hb => (by rw [hb.cell (p := ⟨w.heap.size, 1, none⟩) (by assumption)]; assumption)
  have hk2 : ∀ w2, Below W0.heap.size W0 w2 → w2.cell? ⟨w.heap.size, 2, none⟩ = some (.int .i64 d) := fun w2 hb => (by rw [hb.cell (p := ⟨w.heap.size, 2, none⟩) (by assumption)]; assumption)
  have hk3 : ∀ w2, Below W0.heap.size W0 w2 → w2.cell? ⟨w.heap.size, 3, none⟩ = some (.int .i64 h) := fun w2 hb => (by rw [hb.cell (p := ⟨w.heap.size, 3, none⟩) (by assumption)]; assumption)
  have hk4 : ∀ w2, Below W0.heap.size W0 w2 → w2.cell? ⟨w.heap.size, 4, none⟩ = some (.int .i64 i) := fun w2 hb => (by rw [hb.cell (p := ⟨w.heap.size, 4, none⟩) (by assumption)]; assumption)
  have hk5 : ∀ w2, Below W0.heap.size W0 w2 → w2.cell? ⟨w.heap.size, 5, none⟩ = some (.int .i64 s) := fun w2 hb => (by rw [hb.cell (p := ⟨w.heap.size, 5, none⟩) (by assumption)]; assumption)
  have hk6 : ∀ w2, Below W0.heap.size W0 w2 → w2.cell? ⟨w.heap.size, 6, none⟩ = some (.int .i64 n) := fun w2 hb => (by rw [hb.cell (p := ⟨w.heap.size, 6, none⟩) (by assumption)]; assumption)
  have hk7 : ∀ w2, Below W0.heap.size W0 w2 → w2.cell? ⟨w.heap.size + 1, 0, none⟩ = some (.int .i64 y') := fun w2 hb => (by rw [hb.cell (p := ⟨w.heap.size + 1, 0, none⟩) (by assumption)]; assumption)
  have hk8 : ∀ w2, Below W0.heap.size W0 w2 → w2.cell? ⟨w.heap.size + 1, 1, none⟩ = some (.int .i64 m') := fun w2 hb => (by rw [hb.cell (p := ⟨w.heap.size + 1, 1, none⟩) (by assumption)]; assumption)
  have hk9 : ∀ w2, Below W0.heap.size W0 w2 → w2.cell? ⟨w.heap.size + 1, 2, none⟩ = some (.int .i64 d') := fun w2 hb => (by rw [hb.cell (p := ⟨w.heap.size + 1, 2, none⟩) (by assumption)]; assumption)
  have hk10 : ∀ w2, Below W0.heap.size W0 w2 → w2.cell? ⟨w.heap.size + 1, 3, none⟩ = some (.int .i64 h') := fun w2 hb => (by rw [hb.cell (p := ⟨w.heap.size + 1, 3, none⟩) (by assumption)]; assumption)
  have hk11 : ∀ w2, Below W0.heap.size W0 w2 → w2.cell? ⟨w.heap.size + 1, 4, none⟩ = some (.int .i64 i') := fun w2 hb => (by rw [hb.cell (p := ⟨w.heap.size + 1, 4, none⟩) (by assumption)]; assumption)
  have hk12 : ∀ w2, Below W0.heap.size W0 w2 → w2.cell? ⟨w.heap.size + 1, 5, none⟩ = some (.int .i64 s') := fun w2 hb => (by rw [hb.cell (p := ⟨w.heap.size + 1, 5, none⟩) (by assumption)]; assumption)
  have hk13 : ∀ w2, Below W0.heap.size W0 w2 → w2.cell? ⟨w.heap.size + 1, 6, none⟩ = some (.int .i64 n') := fun w2 hb => (by rw [hb.cell (p := ⟨w.heap.size + 1, 6, none⟩) (by assumption)]; assumption)
  have hk14 : ∀ w2, Below W0.heap.size W0 w2 → w2.cell? ⟨w.heap.size + 1 + 1, 0, none⟩ = some (.int .i64 c) := fun w2 hb => (by rw [hb.cell (p := ⟨w.heap.size + 1 + 1, 0, none⟩) (by assumption)]; assumption)
  have hk15 : ∀ w2, Below W0.heap.size W0 w2 → w2.cell? ⟨w.heap.size + 1 + 1, 1, none⟩ = some (.int .i64 k) := fun w2 hb => (by rw [hb.cell (p := ⟨w.heap.size + 1 + 1, 1, none⟩) (by assumption)]; assumption)
  have hk16 : ∀ w2, Below W0.heap.size W0 w2 → w2.cell? ⟨V1.heap.size, 0, none⟩ = some (.int .i64 r0) := fun w2 hb => (by rw [hb.cell (p := ⟨V1.heap.size, 0, none⟩) (by assumption)]; assumption)
  have hk17 : ∀ w2, Below W0.heap.size W0 w2 → w2.cell? ⟨V1.heap.size, 1, none⟩ = some (.int .i64 r1) := fun w2 hb => (by rw [hb.cell (p := ⟨V1.heap.size, 1, none⟩) (by assumption)]; assumption)
  have hk18 : ∀ w2, Below W0.heap.size W0 w2 → w2.cell? ⟨V1.heap.size, 2, none⟩ = some (.int .i64 r2) := fun w2 hb => (by rw [hb.cell (p := ⟨V1.heap.size, 2, none⟩) (by assumption)]; assumption)
  have hk19 : ∀ w2, Below W0.heap.size W0 w2 → w2.cell? ⟨V1.heap.size, 3, none⟩ = some (.int .i64 r3) := fun w2 hb => (by rw [hb.cell (p := ⟨V1.heap.size, 3, none⟩) (by assumption)]; assumption)
  have hk20 : ∀ w2, Below W0.heap.size W0 w2 → w2.cell? ⟨V1.heap.size, 4, none⟩ = some (.int .i64 r4) := fun w2 hb => (by rw [hb.cell (p := ⟨V1.heap.size, 4, none⟩) (by assumption)]; assumption)
  have hk21 : ∀ w2, Below W0.heap.size W0 w2 → w2.cell? ⟨V1.heap.size, 5, none⟩ = some (.int .i64 r5) := fun w2 hb => (by rw [hb.cell (p := ⟨V1.heap.size, 5, none⟩) (by assumption)]; assumption)
  have hk22 : ∀ w2, Below W0.heap.size W0 w2 → w2.cell? ⟨V1.heap.size, 6, none⟩ = some (.int .i64 r6) := fun w2 hb => (by rw [hb.cell (p := ⟨V1.heap.size, 6, none⟩) (by assumption)]; assumption)
  have hk23 : ∀ w2, Below W0.heap.size W0 w2 → w2.cell? ⟨V2.heap.size, 0, none⟩ = some (.int .i64 r0) := fun w2 hb => (by rw [hb.cell (p := ⟨V2.heap.size, 0, none⟩) (by assumption)]; assumption)
  have hk24 : ∀ w2, Below W0.heap.size W0 w2 → w2.cell? ⟨V2.heap.size, 1, none⟩ = some (.int .i64 r1) := fun w2 hb => (by rw [hb.cell (p := ⟨V2.heap.size, 1, none⟩) (by assumption)]; assumption)
  have hk25 : ∀ w2, Below W0.heap.size W0 w2 → w2.cell? ⟨V2.heap.size, 2, none⟩ = some (.int .i64 r2) := fun w2 hb => (by rw [hb.cell (p := ⟨V2.heap.size, 2, none⟩) (by assumption)]; assumption)
  have hk26 : ∀ w2, Below W0.heap.size W0 w2 → w2.cell? ⟨V2.heap.size, 3, none⟩ = some (.int .i64 r3) := fun w2 hb => (by rw [hb.cell (p := ⟨V2.heap.size, 3, none⟩) (by assumption)]; assumption)
  have hk27 : ∀ w2, Below W0.heap.size W0 w2 → w2.cell? ⟨V2.heap.size, 4, none⟩ = some (.int .i64 r4) := fun w2 hb => (by rw [hb.cell (p := ⟨V2.heap.size, 4, none⟩) (by assumption)]; assumption)
  have hk28 : ∀ w2, Below W0.heap.size W0 w2 → w2.cell? ⟨V2.heap.size, 5, none⟩ = some (.int .i64 r5) := fun w2 hb => (by rw [hb.cell (p := ⟨V2.heap.size, 5, none⟩) (by assumption)]; assumption)
  have hk29 : ∀ w2, Below W0.heap.size W0 w2 → w2.cell? ⟨V2.heap.size, 6, none⟩ = some (.int .i64 r6) := fun w2 hb => (by rw [hb.cell (p := ⟨V2.heap.size, 6, none⟩) (by assumption)]; assumption)
  have hk30 : ∀ w2, Below W0.heap.size W0 w2 → w2.cell? ⟨V3.heap.size, 0, none⟩ = some (.int .i64 S) := fun w2 hb => (by rw [hb.cell (p := ⟨V3.heap.size, 0, none⟩) (by assumption)]; assumption)
  have hk31 : ∀ w2, Below W0.heap.size W0 w2 → w2.cell? ⟨V3.heap.size, 1, none⟩ = some (.int .i64 N) := fun w2 hb => (by rw [hb.cell (p := ⟨V3.heap.size, 1, none⟩) (by assumption)]; assumption)
  have hk32 : ∀ w2, Below W0.heap.size W0 w2 → w2.cell? ⟨V4.heap.size, 0, none⟩ = some (.int .i64 S) := fun w2 hb => (by rw [hb.cell (p := ⟨V4.heap.size, 0, none⟩) (by assumption)]; assumption)
  have hk33 : ∀ w2, Below W0.heap.size W0 w2 → w2.cell? ⟨V4.heap.size, 1, none⟩ = some (.int .i64 N) := fun w2 hb => (by rw [hb.cell (p := ⟨V4.heap.size, 1, none⟩) (by assumption)]; assumption)
  clear A1_0 A1_1 A1_2 A1_3 A1_4 A1_5 A1_6 C1_0 C1_1 C1_2 C1_3 C1_4 C1_5 C1_6 D1_0 D1_1 X1_0 X1_1 X1_2 X1_3 X1_4 X1_5 X1_6 Y1_0 Y1_1 Y1_2 Y1_3 Y1_4 Y1_5 Y1_6 U1_0 U1_1 V1r_0 V1r_1
  refine region_plan (S := fun w2 => Below W0.heap.size W0 w2) [(0, true), (1, true), (2, true), (3, true), (4, true), (5, true), (6, true), (7, true), (8, true), (9, true), (10, true), (11, true), (12, true), (13, true), (14, true), (15, true), (16, true), (17, true), (18, true), (19, true), (20, true), (22, true), (23, true), (21, false), (24, false), (25, true), (26, true), (27, true), (28, false), (29, true), (30, true)] (by as_aux_lemma => kernel_rfl) (by as_aux_lemma => kernel_rfl) (by as_aux_lemma => kernel_rfl) (by as_aux_lemma => kernel_rfl) (Below.refl W0.heap.size W0).drew ?_
  have Y0 := Lib.hid (Below.refl W0.heap.size W0).drew
  refine plan_yes (v := ?v1_2) (by simp only [List.getElem?_toArray, List.getElem?_cons_zero, List.getElem?_cons_succ]; exact rfl) (Or.inl ⟨by as_aux_lemma => rfl, ?hy1_2⟩) ?rest1_2
  case hy1_2 => (intro w2 hSw; (try dsimp only at hSw); go_simp; try with_reducible rfl)
  try simp only [Act.put, List.setIfInBounds_toArray, List.set_cons_zero, List.set_cons_succ]
  refine plan_yes (v := ?v2_2) (by simp only [List.getElem?_toArray, List.getElem?_cons_zero, List.getElem?_cons_succ]; exact rfl) (Or.inl ⟨by as_aux_lemma => rfl, ?hy2_2⟩) ?rest2_2
  case hy2_2 => (intro w2 hSw; (try dsimp only at hSw); go_simp; try with_reducible rfl)
  try simp only [Act.put, List.setIfInBounds_toArray, List.set_cons_zero, List.set_cons_succ]
  refine plan_yes (v := .bool true) (by simp only [List.getElem?_toArray, List.getElem?_cons_zero, List.getElem?_cons_succ]; exact rfl) (Or.inl ⟨by as_aux_lemma => rfl, ?hy3_2⟩) ?rest3_2
  case hy3_2 => (intro w2 hSw; first | (apply eql_wide; rfl; rfl; rfl) | (apply eql_inst; rfl; rfl; rfl) | (apply eql_dur; rfl; rfl; rfl) | (apply eql_clock; rfl; rfl; rfl) | (apply eql_date; rfl; rfl; rfl) | (apply eql_civil; rfl; rfl; rfl))
  try simp only [Act.put, List.setIfInBounds_toArray, List.set_cons_zero, List.set_cons_succ]
  refine plan_yes (v := ?v4_2) (by simp only [List.getElem?_toArray, List.getElem?_cons_zero, List.getElem?_cons_succ]; exact rfl) (Or.inl ⟨by as_aux_lemma => rfl, ?hy4_2⟩) ?rest4_2
  case hy4_2 => (intro w2 hSw; (try dsimp only at hSw); go_simp; try with_reducible rfl)
  try simp only [Act.put, List.setIfInBounds_toArray, List.set_cons_zero, List.set_cons_succ]
  refine plan_yes (v := ?v5_2) (by simp only [List.getElem?_toArray, List.getElem?_cons_zero, List.getElem?_cons_succ]; exact rfl) (Or.inl ⟨by as_aux_lemma => rfl, ?hy5_2⟩) ?rest5_2
  case hy5_2 => (intro w2 hSw; (try dsimp only at hSw); go_simp; try with_reducible rfl)
  try simp only [Act.put, List.setIfInBounds_toArray, List.set_cons_zero, List.set_cons_succ]
  refine plan_yes (v := ?v6_2) (by simp only [List.getElem?_toArray, List.getElem?_cons_zero, List.getElem?_cons_succ]; exact rfl) (Or.inl ⟨by as_aux_lemma => rfl, ?hy6_2⟩) ?rest6_2
  case hy6_2 => (intro w2 hSw; (try dsimp only at hSw); go_simp; try with_reducible rfl)
  try simp only [Act.put, List.setIfInBounds_toArray, List.set_cons_zero, List.set_cons_succ]
  refine plan_yes (v := ?v7_2) (by simp only [List.getElem?_toArray, List.getElem?_cons_zero, List.getElem?_cons_succ]; exact rfl) (Or.inl ⟨by as_aux_lemma => rfl, ?hy7_2⟩) ?rest7_2
  case hy7_2 => (intro w2 hSw; (try dsimp only at hSw); go_simp; try with_reducible rfl)
  try simp only [Act.put, List.setIfInBounds_toArray, List.set_cons_zero, List.set_cons_succ]
  refine plan_yes (v := ?v8_2) (by simp only [List.getElem?_toArray, List.getElem?_cons_zero, List.getElem?_cons_succ]; exact rfl) (Or.inl ⟨by as_aux_lemma => rfl, ?hy8_2⟩) ?rest8_2
  case hy8_2 => (intro w2 hSw; (try dsimp only at hSw); go_simp; try with_reducible rfl)
  try simp only [Act.put, List.setIfInBounds_toArray, List.set_cons_zero, List.set_cons_succ]
  refine plan_yes (v := ?v9_2) (by simp only [List.getElem?_toArray, List.getElem?_cons_zero, List.getElem?_cons_succ]; exact rfl) (Or.inl ⟨by as_aux_lemma => rfl, ?hy9_2⟩) ?rest9_2
  case hy9_2 => (intro w2 hSw; (try dsimp only at hSw); go_simp; try with_reducible rfl)
  try simp only [Act.put, List.setIfInBounds_toArray, List.set_cons_zero, List.set_cons_succ]
  refine plan_yes (v := ?v10_2) (by simp only [List.getElem?_toArray, List.getElem?_cons_zero, List.getElem?_cons_succ]; exact rfl) (Or.inl ⟨by as_aux_lemma => rfl, ?hy10_2⟩) ?rest10_2
  case hy10_2 => (intro w2 hSw; (try dsimp only at hSw); go_simp; try with_reducible rfl)
  try simp only [Act.put, List.setIfInBounds_toArray, List.set_cons_zero, List.set_cons_succ]
  refine plan_yes (v := ?v11_2) (by simp only [List.getElem?_toArray, List.getElem?_cons_zero, List.getElem?_cons_succ]; exact rfl) (Or.inl ⟨by as_aux_lemma => rfl, ?hy11_2⟩) ?rest11_2
  case hy11_2 => (intro w2 hSw; (try dsimp only at hSw); go_simp; try with_reducible rfl)
  try simp only [Act.put, List.setIfInBounds_toArray, List.set_cons_zero, List.set_cons_succ]
  refine plan_yes (v := .bool true) (by simp only [List.getElem?_toArray, List.getElem?_cons_zero, List.getElem?_cons_succ]; exact rfl) (Or.inl ⟨by as_aux_lemma => rfl, ?hy12_2⟩) ?rest12_2
  case hy12_2 => (intro w2 hSw; first | (apply eql_wide; rfl; rfl; rfl) | (apply eql_inst; rfl; rfl; rfl) | (apply eql_dur; rfl; rfl; rfl) | (apply eql_clock; rfl; rfl; rfl) | (apply eql_date; rfl; rfl; rfl) | (apply eql_civil; rfl; rfl; rfl))
  try simp only [Act.put, List.setIfInBounds_toArray, List.set_cons_zero, List.set_cons_succ]
  refine plan_yes (v := ?v13_2) (by simp only [List.getElem?_toArray, List.getElem?_cons_zero, List.getElem?_cons_succ]; exact rfl) (Or.inl ⟨by as_aux_lemma => rfl, ?hy13_2⟩) ?rest13_2
  case hy13_2 => (intro w2 hSw; (try dsimp only at hSw); go_simp; try with_reducible rfl)
  try simp only [Act.put, List.setIfInBounds_toArray, List.set_cons_zero, List.set_cons_succ]
  refine plan_yes (v := ?v14_2) (by simp only [List.getElem?_toArray, List.getElem?_cons_zero, List.getElem?_cons_succ]; exact rfl) (Or.inl ⟨by as_aux_lemma => rfl, ?hy14_2⟩) ?rest14_2
  case hy14_2 => (intro w2 hSw; (try dsimp only at hSw); go_simp; try with_reducible rfl)
  try simp only [Act.put, List.setIfInBounds_toArray, List.set_cons_zero, List.set_cons_succ]
  refine plan_yes (v := ?v15_2) (by simp only [List.getElem?_toArray, List.getElem?_cons_zero, List.getElem?_cons_succ]; exact rfl) (Or.inl ⟨by as_aux_lemma => rfl, ?hy15_2⟩) ?rest15_2
  case hy15_2 => (intro w2 hSw; (try dsimp only at hSw); go_simp; try with_reducible rfl)
  try simp only [Act.put, List.setIfInBounds_toArray, List.set_cons_zero, List.set_cons_succ]
  refine plan_yes (v := ?v16_2) (by simp only [List.getElem?_toArray, List.getElem?_cons_zero, List.getElem?_cons_succ]; exact rfl) (Or.inl ⟨by as_aux_lemma => rfl, ?hy16_2⟩) ?rest16_2
  case hy16_2 => (intro w2 hSw; (try dsimp only at hSw); go_simp; try with_reducible rfl)
  try simp only [Act.put, List.setIfInBounds_toArray, List.set_cons_zero, List.set_cons_succ]
  refine plan_yes (v := ?v17_2) (by simp only [List.getElem?_toArray, List.getElem?_cons_zero, List.getElem?_cons_succ]; exact rfl) (Or.inl ⟨by as_aux_lemma => rfl, ?hy17_2⟩) ?rest17_2
  case hy17_2 => (intro w2 hSw; (try dsimp only at hSw); go_simp; try with_reducible rfl)
  try simp only [Act.put, List.setIfInBounds_toArray, List.set_cons_zero, List.set_cons_succ]
  refine plan_yes (v := ?v18_2) (by simp only [List.getElem?_toArray, List.getElem?_cons_zero, List.getElem?_cons_succ]; exact rfl) (Or.inl ⟨by as_aux_lemma => rfl, ?hy18_2⟩) ?rest18_2
  case hy18_2 => (intro w2 hSw; (try dsimp only at hSw); go_simp; try with_reducible rfl)
  try simp only [Act.put, List.setIfInBounds_toArray, List.set_cons_zero, List.set_cons_succ]
  refine plan_yes (v := ?v19_2) (by simp only [List.getElem?_toArray, List.getElem?_cons_zero, List.getElem?_cons_succ]; exact rfl) (Or.inl ⟨by as_aux_lemma => rfl, ?hy19_2⟩) ?rest19_2
  case hy19_2 => (intro w2 hSw; (try dsimp only at hSw); go_simp; try with_reducible rfl)
  try simp only [Act.put, List.setIfInBounds_toArray, List.set_cons_zero, List.set_cons_succ]
  refine plan_yes (v := ?v20_2) (by simp only [List.getElem?_toArray, List.getElem?_cons_zero, List.getElem?_cons_succ]; exact rfl) (Or.inl ⟨by as_aux_lemma => rfl, ?hy20_2⟩) ?rest20_2
  case hy20_2 => (intro w2 hSw; (try dsimp only at hSw); go_simp; try with_reducible rfl)
  try simp only [Act.put, List.setIfInBounds_toArray, List.set_cons_zero, List.set_cons_succ]
  refine plan_yes (v := ?v21_2) (by simp only [List.getElem?_toArray, List.getElem?_cons_zero, List.getElem?_cons_succ]; exact rfl) (Or.inl ⟨by as_aux_lemma => rfl, ?hy21_2⟩) ?rest21_2
  case hy21_2 => (intro w2 hSw; (try dsimp only at hSw); go_simp; try with_reducible rfl)
  try simp only [Act.put, List.setIfInBounds_toArray, List.set_cons_zero, List.set_cons_succ]
  refine plan_yes (v := ?v22_2) (by simp only [List.getElem?_toArray, List.getElem?_cons_zero, List.getElem?_cons_succ]; exact rfl) (Or.inl ⟨by as_aux_lemma => rfl, ?hy22_2⟩) ?rest22_2
  case hy22_2 => (intro w2 hSw; (try dsimp only at hSw); go_simp; try with_reducible rfl)
  try simp only [Act.put, List.setIfInBounds_toArray, List.set_cons_zero, List.set_cons_succ]
  refine plan_yes (v := ?v23_2) (by simp only [List.getElem?_toArray, List.getElem?_cons_zero, List.getElem?_cons_succ]; exact rfl) (Or.inl ⟨by as_aux_lemma => rfl, ?hy23_2⟩) ?rest23_2
  case hy23_2 => (intro w2 hSw; (try dsimp only at hSw); go_simp; try with_reducible rfl)
  try simp only [Act.put, List.setIfInBounds_toArray, List.set_cons_zero, List.set_cons_succ]
  refine plan_calls (by simp only [List.getElem?_toArray, List.getElem?_cons_zero, List.getElem?_cons_succ]; exact rfl) (by as_aux_lemma => rfl) (fun K hK => ?_)
  go_simp
  refine (H5.out _).mono ?_
  rintro e Y1w ⟨rfl, hb1⟩
  have Y1 := Lib.hid (keepS (W0 := W0) Y0.out hb1)
  clear hb1
  refine hK.out _ _ Y1.out ?_
  clear hK K
  try simp only [Act.put, List.setIfInBounds_toArray, List.set_cons_zero, List.set_cons_succ]
  as_aux_lemma =>
   refine plan_calls (by simp only [List.getElem?_toArray, List.getElem?_cons_zero, List.getElem?_cons_succ]; exact rfl) (by as_aux_lemma => rfl) (fun K hK => ?_)
   go_simp
   refine (H6.out _).mono ?_
   rintro e Y2w ⟨rfl, hb1⟩
   have Y2 := Lib.hid (keepS (W0 := W0) Y1.out hb1)
   clear hb1
   refine hK.out _ _ Y2.out ?_
   clear hK K
   try simp only [Act.put, List.setIfInBounds_toArray, List.set_cons_zero, List.set_cons_succ]
   as_aux_lemma =>
    refine plan_yes (v := ?v24_2) (by simp only [List.getElem?_toArray, List.getElem?_cons_zero, List.getElem?_cons_succ]; exact rfl) (Or.inl ⟨by as_aux_lemma => rfl, ?hy24_2⟩) ?rest24_2
    case hy24_2 => (intro w2 hSw; (try dsimp only at hSw); go_simp; try with_reducible rfl)
    try simp only [Act.put, List.setIfInBounds_toArray, List.set_cons_zero, List.set_cons_succ]
    refine plan_yes (v := ?v25_2) (by simp only [List.getElem?_toArray, List.getElem?_cons_zero, List.getElem?_cons_succ]; exact rfl) (Or.inl ⟨by as_aux_lemma => rfl, ?hy25_2⟩) ?rest25_2
    case hy25_2 => (intro w2 hSw; (try dsimp only at hSw); go_simp; try with_reducible rfl)
    try simp only [Act.put, List.setIfInBounds_toArray, List.set_cons_zero, List.set_cons_succ]
    refine plan_yes (v := ?v26_2) (by simp only [List.getElem?_toArray, List.getElem?_cons_zero, List.getElem?_cons_succ]; exact rfl) (Or.inl ⟨by as_aux_lemma => rfl, ?hy26_2⟩) ?rest26_2
    case hy26_2 => (intro w2 hSw; (try dsimp only at hSw); go_simp; try with_reducible rfl)
    try simp only [Act.put, List.setIfInBounds_toArray, List.set_cons_zero, List.set_cons_succ]
    refine plan_calls (by simp only [List.getElem?_toArray, List.getElem?_cons_zero, List.getElem?_cons_succ]; exact rfl) (by as_aux_lemma => rfl) (fun K hK => ?_)
    go_simp
    refine (HK.out _ (tb_keep (Lib.hid (tb_keep hM HB0.out)) Y2.out)).mono ?_
    rintro e Y3w ⟨rfl, hb1⟩
    have Y3 := Lib.hid (keepS (W0 := W0) Y2.out hb1)
    clear hb1
    refine hK.out _ _ Y3.out ?_
    clear hK K
    try simp only [Act.put, List.setIfInBounds_toArray, List.set_cons_zero, List.set_cons_succ]
    as_aux_lemma =>
     refine plan_yes (v := ?v27_2) (by simp only [List.getElem?_toArray, List.getElem?_cons_zero, List.getElem?_cons_succ]; exact rfl) (Or.inl ⟨by as_aux_lemma => rfl, ?hy27_2⟩) ?rest27_2
     case hy27_2 => (intro w2 hSw; (try dsimp only at hSw); go_simp; try with_reducible rfl)
     try simp only [Act.put, List.setIfInBounds_toArray, List.set_cons_zero, List.set_cons_succ]
     refine plan_yes (v := ?v28_2) (by simp only [List.getElem?_toArray, List.getElem?_cons_zero, List.getElem?_cons_succ]; exact rfl) (Or.inl ⟨by as_aux_lemma => rfl, ?hy28_2⟩) ?rest28_2
     case hy28_2 => (intro w2 hSw; (try dsimp only at hSw); go_simp; try with_reducible rfl)
     try simp only [Act.put, List.setIfInBounds_toArray, List.set_cons_zero, List.set_cons_succ]
     refine plan_done (NoPanic.normal ?_)
     have B0 := Y3.out
     have BW := Lib.hid (HB0.out.trans (B0.mono zW0))
     go_simp
     go_wp2
     go_ret
     exact ⟨rfl, BW.out⟩
set_option maxHeartbeats 3200000 in
set_option maxRecDepth 100000 in
theorem civiltimeBack_walk (y m d h i s n : Int) (w : World) (hM : TB w) : Calls Tryd.prog 5 #[.agg #[.int .i64 y, .int .i64 m, .int .i64 d, .int .i64 h, .int .i64 i, .int .i64 s, .int .i64 n]] w fun e w' => e = .returned (.bool true) ∧ Below w.heap.size w w' := by
  have HK := Lib.hid awake9_any
  have X1 := ptSecs_any y m d h i s n
  by_cases hc : ckT y m d h i s n = 0
  · have H2 := Lib.hid (ptOf_is (isCiv_back hc).1)
    rw [seT_ok hc, hc] at X1
    have H1 := Lib.hid X1
    clear X1 hc
    generalize nuT y m d h i s = S at *
    replace hM := Lib.hid hM
    go_enter Tryd.func5, Tryd.ntmps5
    go_wp2_with fail
    
    refine (H1.out _ (by first | exact tb_keep hM ((Below.refl w.heap.size w).alloc (Nat.le_refl _) _))).mono ?_
    rintro e V1 ⟨rfl, hb1⟩
    have B1 := Lib.hid (((Below.refl w.heap.size w).alloc (Nat.le_refl _) _).trans (hb1.mono (by first | assumption | (simp <;> omega) | (simp; done))))
    have A1 := Lib.hid (row_call hb1 (heap_alloc_new _ _))
    clear hb1
    have A1_0 : V1.cell? ⟨w.heap.size, 0, none⟩ = some (.int .i64 y) := cell_of_row _ _ _ _ _ _ A1.out
    have A1_1 : V1.cell? ⟨w.heap.size, 1, none⟩ = some (.int .i64 m) := cell_of_row _ _ _ _ _ _ A1.out
    have A1_2 : V1.cell? ⟨w.heap.size, 2, none⟩ = some (.int .i64 d) := cell_of_row _ _ _ _ _ _ A1.out
    have A1_3 : V1.cell? ⟨w.heap.size, 3, none⟩ = some (.int .i64 h) := cell_of_row _ _ _ _ _ _ A1.out
    have A1_4 : V1.cell? ⟨w.heap.size, 4, none⟩ = some (.int .i64 i) := cell_of_row _ _ _ _ _ _ A1.out
    have A1_5 : V1.cell? ⟨w.heap.size, 5, none⟩ = some (.int .i64 s) := cell_of_row _ _ _ _ _ _ A1.out
    have A1_6 : V1.cell? ⟨w.heap.size, 6, none⟩ = some (.int .i64 n) := cell_of_row _ _ _ _ _ _ A1.out
    have zA1 := lt_of_heap A1.out
    go_simp
    go_wp2_with fail
    refine (H2.out _ (by first | exact tb_keep hM (B1.out) | exact tb_keep hM ((B1.out).alloc (B1.out.size) _) | exact tb_keep hM (((B1.out).alloc (B1.out.size) _).alloc (by have := B1.out.size; simp <;> omega) _) | exact tb_keep hM ((((B1.out).alloc (B1.out.size) _).alloc (by have := B1.out.size; simp <;> omega) _).alloc (by have := B1.out.size; simp <;> omega) _))).mono ?_
    rintro e V2 ⟨rfl, hb2⟩
    clear A1_0 A1_1 A1_2 A1_3 A1_4 A1_5 A1_6 zA1
    have B2 : Hid (Below w.heap.size w V2) := by first | exact Lib.hid ((B1.out).trans (hb2.mono (by have := B1.out.size; first | assumption | (simp <;> omega) | (simp; done)))) | exact Lib.hid (((B1.out).alloc (B1.out.size) _).trans (hb2.mono (by have := B1.out.size; first | assumption | (simp <;> omega) | (simp; done)))) | exact Lib.hid ((((B1.out).alloc (B1.out.size) _).alloc (by have := B1.out.size; simp <;> omega) _).trans (hb2.mono (by have := B1.out.size; first | assumption | (simp <;> omega) | (simp; done)))) | exact Lib.hid (((((B1.out).alloc (B1.out.size) _).alloc (by have := B1.out.size; simp <;> omega) _).alloc (by have := B1.out.size; simp <;> omega) _).trans (hb2.mono (by have := B1.out.size; first | assumption | (simp <;> omega) | (simp; done))))
    first | replace A1 := Lib.hid (row_call hb2 A1.out) | replace A1 := Lib.hid (row_call hb2 (row_alloc A1.out _)) | replace A1 := Lib.hid (row_call hb2 (row_alloc (row_alloc A1.out _) _)) | replace A1 := Lib.hid (row_call hb2 (row_alloc (row_alloc (row_alloc A1.out _) _) _))
    clear hb2
    have A1_0 : V2.cell? ⟨w.heap.size, 0, none⟩ = some (.int .i64 y) := cell_of_row _ _ _ _ _ _ A1.out
    have A1_1 : V2.cell? ⟨w.heap.size, 1, none⟩ = some (.int .i64 m) := cell_of_row _ _ _ _ _ _ A1.out
    have A1_2 : V2.cell? ⟨w.heap.size, 2, none⟩ = some (.int .i64 d) := cell_of_row _ _ _ _ _ _ A1.out
    have A1_3 : V2.cell? ⟨w.heap.size, 3, none⟩ = some (.int .i64 h) := cell_of_row _ _ _ _ _ _ A1.out
    have A1_4 : V2.cell? ⟨w.heap.size, 4, none⟩ = some (.int .i64 i) := cell_of_row _ _ _ _ _ _ A1.out
    have A1_5 : V2.cell? ⟨w.heap.size, 5, none⟩ = some (.int .i64 s) := cell_of_row _ _ _ _ _ _ A1.out
    have A1_6 : V2.cell? ⟨w.heap.size, 6, none⟩ = some (.int .i64 n) := cell_of_row _ _ _ _ _ _ A1.out
    have zA1 := lt_of_heap A1.out
    go_simp
    go_wp2_with fail
    refine (HK.out _ (by first | exact tb_keep hM ((B2.out).alloc (B2.out.size) _))).mono ?_
    rintro e V3 ⟨rfl, hb3⟩
    clear A1_0 A1_1 A1_2 A1_3 A1_4 A1_5 A1_6 zA1
    have nA1X1 := Lib.hid (lt_of_heap A1.out)
    have B3 := Lib.hid (((B2.out).alloc (B2.out.size) _).trans (hb3.mono (by have := B2.out.size; first | assumption | (simp <;> omega) | (simp; done))))
    replace A1 := Lib.hid (row_call hb3 (row_alloc A1.out _))
    have X1 := Lib.hid (row_call hb3 (heap_alloc_new _ _))
    clear hb3
    have A1_0 : V3.cell? ⟨w.heap.size, 0, none⟩ = some (.int .i64 y) := cell_of_row _ _ _ _ _ _ A1.out
    have A1_1 : V3.cell? ⟨w.heap.size, 1, none⟩ = some (.int .i64 m) := cell_of_row _ _ _ _ _ _ A1.out
    have A1_2 : V3.cell? ⟨w.heap.size, 2, none⟩ = some (.int .i64 d) := cell_of_row _ _ _ _ _ _ A1.out
    have A1_3 : V3.cell? ⟨w.heap.size, 3, none⟩ = some (.int .i64 h) := cell_of_row _ _ _ _ _ _ A1.out
    have A1_4 : V3.cell? ⟨w.heap.size, 4, none⟩ = some (.int .i64 i) := cell_of_row _ _ _ _ _ _ A1.out
    have A1_5 : V3.cell? ⟨w.heap.size, 5, none⟩ = some (.int .i64 s) := cell_of_row _ _ _ _ _ _ A1.out
    have A1_6 : V3.cell? ⟨w.heap.size, 6, none⟩ = some (.int .i64 n) := cell_of_row _ _ _ _ _ _ A1.out
    have X1_0 : V3.cell? ⟨V2.heap.size, 0, none⟩ = some (.int .i64 y) := cell_of_row _ _ _ _ _ _ X1.out
    have X1_1 : V3.cell? ⟨V2.heap.size, 1, none⟩ = some (.int .i64 m) := cell_of_row _ _ _ _ _ _ X1.out
    have X1_2 : V3.cell? ⟨V2.heap.size, 2, none⟩ = some (.int .i64 d) := cell_of_row _ _ _ _ _ _ X1.out
    have X1_3 : V3.cell? ⟨V2.heap.size, 3, none⟩ = some (.int .i64 h) := cell_of_row _ _ _ _ _ _ X1.out
    have X1_4 : V3.cell? ⟨V2.heap.size, 4, none⟩ = some (.int .i64 i) := cell_of_row _ _ _ _ _ _ X1.out
    have X1_5 : V3.cell? ⟨V2.heap.size, 5, none⟩ = some (.int .i64 s) := cell_of_row _ _ _ _ _ _ X1.out
    have X1_6 : V3.cell? ⟨V2.heap.size, 6, none⟩ = some (.int .i64 n) := cell_of_row _ _ _ _ _ _ X1.out
    have zA1 := lt_of_heap A1.out
    have zX1 := lt_of_heap X1.out
    go_simp
    go_wp2
    go_ret
    exact ⟨rfl, by first | exact B3.out | exact B3.out.alloc B3.out.size _⟩
  · rw [seT_no hc] at X1
    have H1 := Lib.hid X1
    clear X1
    generalize ckT y m d h i s n = E at *
    have f1 : (E != 0) = true := by rw [bne_iff_ne]; exact hc
    replace hM := Lib.hid hM
    go_enter Tryd.func5, Tryd.ntmps5
    go_wp2_with fail
    
    refine (H1.out _ (by first | exact tb_keep hM ((Below.refl w.heap.size w).alloc (Nat.le_refl _) _))).mono ?_
    rintro e V1 ⟨rfl, hb1⟩
    have B1 := Lib.hid (((Below.refl w.heap.size w).alloc (Nat.le_refl _) _).trans (hb1.mono (by first | assumption | (simp <;> omega) | (simp; done))))
    have A1 := Lib.hid (row_call hb1 (heap_alloc_new _ _))
    clear hb1
    have A1_0 : V1.cell? ⟨w.heap.size, 0, none⟩ = some (.int .i64 y) := cell_of_row _ _ _ _ _ _ A1.out
    have A1_1 : V1.cell? ⟨w.heap.size, 1, none⟩ = some (.int .i64 m) := cell_of_row _ _ _ _ _ _ A1.out
    have A1_2 : V1.cell? ⟨w.heap.size, 2, none⟩ = some (.int .i64 d) := cell_of_row _ _ _ _ _ _ A1.out
    have A1_3 : V1.cell? ⟨w.heap.size, 3, none⟩ = some (.int .i64 h) := cell_of_row _ _ _ _ _ _ A1.out
    have A1_4 : V1.cell? ⟨w.heap.size, 4, none⟩ = some (.int .i64 i) := cell_of_row _ _ _ _ _ _ A1.out
    have A1_5 : V1.cell? ⟨w.heap.size, 5, none⟩ = some (.int .i64 s) := cell_of_row _ _ _ _ _ _ A1.out
    have A1_6 : V1.cell? ⟨w.heap.size, 6, none⟩ = some (.int .i64 n) := cell_of_row _ _ _ _ _ _ A1.out
    have zA1 := lt_of_heap A1.out
    go_simp
    go_wp2_with fail
    refine (HK.out _ (by first | exact tb_keep hM (B1.out) | exact tb_keep hM ((B1.out).alloc (B1.out.size) _) | exact tb_keep hM (((B1.out).alloc (B1.out.size) _).alloc (by have := B1.out.size; simp <;> omega) _) | exact tb_keep hM ((((B1.out).alloc (B1.out.size) _).alloc (by have := B1.out.size; simp <;> omega) _).alloc (by have := B1.out.size; simp <;> omega) _))).mono ?_
    rintro e V2 ⟨rfl, hb2⟩
    clear A1_0 A1_1 A1_2 A1_3 A1_4 A1_5 A1_6 zA1
    have B2 : Hid (Below w.heap.size w V2) := by first | exact Lib.hid ((B1.out).trans (hb2.mono (by have := B1.out.size; first | assumption | (simp <;> omega) | (simp; done)))) | exact Lib.hid (((B1.out).alloc (B1.out.size) _).trans (hb2.mono (by have := B1.out.size; first | assumption | (simp <;> omega) | (simp; done)))) | exact Lib.hid ((((B1.out).alloc (B1.out.size) _).alloc (by have := B1.out.size; simp <;> omega) _).trans (hb2.mono (by have := B1.out.size; first | assumption | (simp <;> omega) | (simp; done)))) | exact Lib.hid (((((B1.out).alloc (B1.out.size) _).alloc (by have := B1.out.size; simp <;> omega) _).alloc (by have := B1.out.size; simp <;> omega) _).trans (hb2.mono (by have := B1.out.size; first | assumption | (simp <;> omega) | (simp; done))))
    first | replace A1 := Lib.hid (row_call hb2 A1.out) | replace A1 := Lib.hid (row_call hb2 (row_alloc A1.out _)) | replace A1 := Lib.hid (row_call hb2 (row_alloc (row_alloc A1.out _) _)) | replace A1 := Lib.hid (row_call hb2 (row_alloc (row_alloc (row_alloc A1.out _) _) _))
    clear hb2
    have A1_0 : V2.cell? ⟨w.heap.size, 0, none⟩ = some (.int .i64 y) := cell_of_row _ _ _ _ _ _ A1.out
    have A1_1 : V2.cell? ⟨w.heap.size, 1, none⟩ = some (.int .i64 m) := cell_of_row _ _ _ _ _ _ A1.out
    have A1_2 : V2.cell? ⟨w.heap.size, 2, none⟩ = some (.int .i64 d) := cell_of_row _ _ _ _ _ _ A1.out
    have A1_3 : V2.cell? ⟨w.heap.size, 3, none⟩ = some (.int .i64 h) := cell_of_row _ _ _ _ _ _ A1.out
    have A1_4 : V2.cell? ⟨w.heap.size, 4, none⟩ = some (.int .i64 i) := cell_of_row _ _ _ _ _ _ A1.out
    have A1_5 : V2.cell? ⟨w.heap.size, 5, none⟩ = some (.int .i64 s) := cell_of_row _ _ _ _ _ _ A1.out
    have A1_6 : V2.cell? ⟨w.heap.size, 6, none⟩ = some (.int .i64 n) := cell_of_row _ _ _ _ _ _ A1.out
    have zA1 := lt_of_heap A1.out
    go_simp
    go_wp2
    go_ret
    exact ⟨rfl, by first | exact B2.out | exact B2.out.alloc B2.out.size _⟩
theorem ways_num {y m d h i s n y' m' d' h' i' s' n' : Int} (hu : utE y m d h i s n y' m' d' h' i' s' n' = 0) :
    utS y m d h i s n y' m' d' h' i' s' n' = sbS (nuT y m d h i s) n (nuT y' m' d' h' i' s') n' ∧ utN y m d h i s n y' m' d' h' i' s' n' = sbN (nuT y m d h i s) n (nuT y' m' d' h' i' s') n' ∧
    AtIs y' m' d' h' i' s' n' (sbS (nuT y m d h i s) n (nuT y' m' d' h' i' s') n') (sbN (nuT y m d h i s) n (nuT y' m' d' h' i' s') n') y m d h i s n 0 ∧
    0 ≤ sbN (nuT y m d h i s) n (nuT y' m' d' h' i' s') n' ∧
    (sbS (nuT y m d h i s) n (nuT y' m' d' h' i' s') n' < 0 → ordT y m d h i s n y' m' d' h' i' s' n' = -1) ∧
    (0 ≤ sbS (nuT y m d h i s) n (nuT y' m' d' h' i' s') n' → ¬ (sbS (nuT y m d h i s) n (nuT y' m' d' h' i' s') n' = 0 ∧ sbN (nuT y m d h i s) n (nuT y' m' d' h' i' s') n' = 0) → ordT y m d h i s n y' m' d' h' i' s' n' = 1) ∧
    (sbS (nuT y m d h i s) n (nuT y' m' d' h' i' s') n' = 0 → sbN (nuT y m d h i s) n (nuT y' m' d' h' i' s') n' = 0 → ordT y m d h i s n y' m' d' h' i' s' n' = 0) := by
  obtain ⟨c1, c2⟩ := fsI_none hu
  obtain ⟨q1, k1⟩ := isCiv_back c1
  obtain ⟨q2, k2⟩ := isCiv_back c2
  have hf : fsI (ckI (nuT y m d h i s) n) (ckI (nuT y' m' d' h' i' s') n') = 0 := by rw [k1, k2]; unfold fsI; rfl
  obtain ⟨b1, b2, b3⟩ := back_sub hf
  obtain ⟨s1, s2⟩ := sb_ok hf
  obtain ⟨w1, r1, r2⟩ := of_ckI k1
  obtain ⟨w2, r3, r4⟩ := of_ckI k2
  have w1 := of_wmB w1
  have w2 := of_wmB w2
  have ho := ordT_ord2 c1 c2
  have hn : nanos (nuT y m d h i s) n - nanos (nuT y' m' d' h' i' s') n' = (nuT y m d h i s - nuT y' m' d' h' i' s') * 1000000000 + (n - n') := by unfold nanos; omega
  have hD : ckD (sbS (nuT y m d h i s) n (nuT y' m' d' h' i' s') n') (sbN (nuT y m d h i s) n (nuT y' m' d' h' i' s') n') = 0 := by
    refine ckD_ok (wmB_true (by rw [s2]; omega) (by rw [s2]; omega)) ?_
    rw [s1, hn]; omega
  have ha : atE y' m' d' h' i' s' n' (sbS (nuT y m d h i s) n (nuT y' m' d' h' i' s') n') (sbN (nuT y m d h i s) n (nuT y' m' d' h' i' s') n') = 0 := by
    unfold atE
    rw [c2, hD, if_neg (by unfold fsI; decide)]
    exact b3
  refine ⟨if_pos hu, if_pos hu, Or.inr ⟨ha, by rw [b1, b2]; exact q1⟩, by rw [s2]; omega, fun hs => ?_, fun hs hz => ?_, fun hs hz => ?_⟩
  · have := (ad_down b3 hs).1
    rw [b1, b2] at this
    rw [ho, this]
  · have := (ad_up b3 hs hz).1
    rw [b1, b2] at this
    rw [ho, this]
  · have z := b3
    rw [hs, hz] at b1 b2 z
    have := (ad_zero z).1
    rw [b1, b2] at this
    rw [ho, this]
set_option maxHeartbeats 3200000 in
set_option maxRecDepth 100000 in
theorem cw_neg (y m d h i s n y' m' d' h' i' s' n' S N : Int) (hs : S < 0)
    (H1 : Hid (∀ w, TB w → Calls Tryd.prog 16 #[.agg #[.int .i64 y, .int .i64 m, .int .i64 d, .int .i64 h, .int .i64 i, .int .i64 s, .int .i64 n], .agg #[.int .i64 y', .int .i64 m', .int .i64 d', .int .i64 h', .int .i64 i', .int .i64 s', .int .i64 n']] w fun e w' => e = .returned (.tuple #[.agg #[.int .i64 S, .int .i64 N], .int .i64 0]) ∧ Below w.heap.size w w'))
    (H2 : Hid (∀ w, TB w → Calls Tryd.prog 14 #[.agg #[.int .i64 y', .int .i64 m', .int .i64 d', .int .i64 h', .int .i64 i', .int .i64 s', .int .i64 n'], .agg #[.int .i64 S, .int .i64 N]] w fun e w' => e = .returned (.tuple #[.agg #[.int .i64 y, .int .i64 m, .int .i64 d, .int .i64 h, .int .i64 i, .int .i64 s, .int .i64 n], .int .i64 0]) ∧ Below w.heap.size w w'))
    (H3 : Hid (∀ w, Calls Tryd.prog 18 #[.agg #[.int .i64 y, .int .i64 m, .int .i64 d, .int .i64 h, .int .i64 i, .int .i64 s, .int .i64 n], .agg #[.int .i64 y', .int .i64 m', .int .i64 d', .int .i64 h', .int .i64 i', .int .i64 s', .int .i64 n']] w fun e w' => e = .returned (.int .i64 (-1)) ∧ Below w.heap.size w w')) (w : World) (hM : TB w) :
    Calls Tryd.prog 6 #[.agg #[.int .i64 y, .int .i64 m, .int .i64 d, .int .i64 h, .int .i64 i, .int .i64 s, .int .i64 n], .agg #[.int .i64 y', .int .i64 m', .int .i64 d', .int .i64 h', .int .i64 i', .int .i64 s', .int .i64 n']] w fun e w' => e = .returned (.bool true) ∧ Below w.heap.size w w' := by
  have HK := Lib.hid awake9_any
  replace hM := Lib.hid hM
  go_enter Tryd.func6, Tryd.ntmps6
  go_wp2_with fail
  
  refine (H1.out _ (by first | exact tb_keep hM (((Below.refl w.heap.size w).alloc (Nat.le_refl _) _).alloc (by simp <;> omega) _))).mono ?_
  rintro e V1 ⟨rfl, hb1⟩
  have B1 := Lib.hid ((((Below.refl w.heap.size w).alloc (Nat.le_refl _) _).alloc (by simp <;> omega) _).trans (hb1.mono (by first | assumption | (simp <;> omega) | (simp; done))))
  have A1 := Lib.hid (row_call hb1 (row_alloc (heap_alloc_new _ _) _))
  have C1 := Lib.hid (row_at (k' := w.heap.size + 1) (by simp) (row_call hb1 (heap_alloc_new _ _)))
  clear hb1
  have A1_0 : V1.cell? ⟨w.heap.size, 0, none⟩ = some (.int .i64 y) := cell_of_row _ _ _ _ _ _ A1.out
  have A1_1 : V1.cell? ⟨w.heap.size, 1, none⟩ = some (.int .i64 m) := cell_of_row _ _ _ _ _ _ A1.out
  have A1_2 : V1.cell? ⟨w.heap.size, 2, none⟩ = some (.int .i64 d) := cell_of_row _ _ _ _ _ _ A1.out
  have A1_3 : V1.cell? ⟨w.heap.size, 3, none⟩ = some (.int .i64 h) := cell_of_row _ _ _ _ _ _ A1.out
  have A1_4 : V1.cell? ⟨w.heap.size, 4, none⟩ = some (.int .i64 i) := cell_of_row _ _ _ _ _ _ A1.out
  have A1_5 : V1.cell? ⟨w.heap.size, 5, none⟩ = some (.int .i64 s) := cell_of_row _ _ _ _ _ _ A1.out
  have A1_6 : V1.cell? ⟨w.heap.size, 6, none⟩ = some (.int .i64 n) := cell_of_row _ _ _ _ _ _ A1.out
  have C1_0 : V1.cell? ⟨w.heap.size + 1, 0, none⟩ = some (.int .i64 y') := cell_of_row _ _ _ _ _ _ C1.out
  have C1_1 : V1.cell? ⟨w.heap.size + 1, 1, none⟩ = some (.int .i64 m') := cell_of_row _ _ _ _ _ _ C1.out
  have C1_2 : V1.cell? ⟨w.heap.size + 1, 2, none⟩ = some (.int .i64 d') := cell_of_row _ _ _ _ _ _ C1.out
  have C1_3 : V1.cell? ⟨w.heap.size + 1, 3, none⟩ = some (.int .i64 h') := cell_of_row _ _ _ _ _ _ C1.out
  have C1_4 : V1.cell? ⟨w.heap.size + 1, 4, none⟩ = some (.int .i64 i') := cell_of_row _ _ _ _ _ _ C1.out
  have C1_5 : V1.cell? ⟨w.heap.size + 1, 5, none⟩ = some (.int .i64 s') := cell_of_row _ _ _ _ _ _ C1.out
  have C1_6 : V1.cell? ⟨w.heap.size + 1, 6, none⟩ = some (.int .i64 n') := cell_of_row _ _ _ _ _ _ C1.out
  have zA1 := lt_of_heap A1.out
  have zC1 := lt_of_heap C1.out
  go_simp
  go_wp2_with fail
  refine (H2.out _ (by first | exact tb_keep hM ((B1.out).alloc (B1.out.size) _))).mono ?_
  rintro e V2 ⟨rfl, hb2⟩
  clear A1_0 A1_1 A1_2 A1_3 A1_4 A1_5 A1_6 zA1 C1_0 C1_1 C1_2 C1_3 C1_4 C1_5 C1_6 zC1
  have nA1D1 := Lib.hid (lt_of_heap A1.out)
  have nC1D1 := Lib.hid (lt_of_heap C1.out)
  have B2 := Lib.hid (((B1.out).alloc (B1.out.size) _).trans (hb2.mono (by have := B1.out.size; first | assumption | (simp <;> omega) | (simp; done))))
  replace A1 := Lib.hid (row_call hb2 (row_alloc A1.out _))
  replace C1 := Lib.hid (row_call hb2 (row_alloc C1.out _))
  have D1 := Lib.hid (row_call hb2 (heap_alloc_new _ _))
  clear hb2
  have A1_0 : V2.cell? ⟨w.heap.size, 0, none⟩ = some (.int .i64 y) := cell_of_row _ _ _ _ _ _ A1.out
  have A1_1 : V2.cell? ⟨w.heap.size, 1, none⟩ = some (.int .i64 m) := cell_of_row _ _ _ _ _ _ A1.out
  have A1_2 : V2.cell? ⟨w.heap.size, 2, none⟩ = some (.int .i64 d) := cell_of_row _ _ _ _ _ _ A1.out
  have A1_3 : V2.cell? ⟨w.heap.size, 3, none⟩ = some (.int .i64 h) := cell_of_row _ _ _ _ _ _ A1.out
  have A1_4 : V2.cell? ⟨w.heap.size, 4, none⟩ = some (.int .i64 i) := cell_of_row _ _ _ _ _ _ A1.out
  have A1_5 : V2.cell? ⟨w.heap.size, 5, none⟩ = some (.int .i64 s) := cell_of_row _ _ _ _ _ _ A1.out
  have A1_6 : V2.cell? ⟨w.heap.size, 6, none⟩ = some (.int .i64 n) := cell_of_row _ _ _ _ _ _ A1.out
  have C1_0 : V2.cell? ⟨w.heap.size + 1, 0, none⟩ = some (.int .i64 y') := cell_of_row _ _ _ _ _ _ C1.out
  have C1_1 : V2.cell? ⟨w.heap.size + 1, 1, none⟩ = some (.int .i64 m') := cell_of_row _ _ _ _ _ _ C1.out
  have C1_2 : V2.cell? ⟨w.heap.size + 1, 2, none⟩ = some (.int .i64 d') := cell_of_row _ _ _ _ _ _ C1.out
  have C1_3 : V2.cell? ⟨w.heap.size + 1, 3, none⟩ = some (.int .i64 h') := cell_of_row _ _ _ _ _ _ C1.out
  have C1_4 : V2.cell? ⟨w.heap.size + 1, 4, none⟩ = some (.int .i64 i') := cell_of_row _ _ _ _ _ _ C1.out
  have C1_5 : V2.cell? ⟨w.heap.size + 1, 5, none⟩ = some (.int .i64 s') := cell_of_row _ _ _ _ _ _ C1.out
  have C1_6 : V2.cell? ⟨w.heap.size + 1, 6, none⟩ = some (.int .i64 n') := cell_of_row _ _ _ _ _ _ C1.out
  have D1_0 : V2.cell? ⟨V1.heap.size, 0, none⟩ = some (.int .i64 S) := cell_of_row _ _ _ _ _ _ D1.out
  have D1_1 : V2.cell? ⟨V1.heap.size, 1, none⟩ = some (.int .i64 N) := cell_of_row _ _ _ _ _ _ D1.out
  have zA1 := lt_of_heap A1.out
  have zC1 := lt_of_heap C1.out
  have zD1 := lt_of_heap D1.out
  go_simp
  go_wp2_with fail
  refine (H3.out _).mono ?_
  rintro e V3 ⟨rfl, hb3⟩
  clear A1_0 A1_1 A1_2 A1_3 A1_4 A1_5 A1_6 zA1 C1_0 C1_1 C1_2 C1_3 C1_4 C1_5 C1_6 zC1 D1_0 D1_1 zD1
  have nA1X1 := Lib.hid (lt_of_heap A1.out)
  have nC1X1 := Lib.hid (lt_of_heap C1.out)
  have nD1X1 := Lib.hid (lt_of_heap D1.out)
  have B3 := Lib.hid (((B2.out).alloc (B2.out.size) _).trans (hb3.mono (by have := B2.out.size; first | assumption | (simp <;> omega) | (simp; done))))
  replace A1 := Lib.hid (row_call hb3 (row_alloc A1.out _))
  replace C1 := Lib.hid (row_call hb3 (row_alloc C1.out _))
  replace D1 := Lib.hid (row_call hb3 (row_alloc D1.out _))
  have X1 := Lib.hid (row_call hb3 (heap_alloc_new _ _))
  clear hb3
  have A1_0 : V3.cell? ⟨w.heap.size, 0, none⟩ = some (.int .i64 y) := cell_of_row _ _ _ _ _ _ A1.out
  have A1_1 : V3.cell? ⟨w.heap.size, 1, none⟩ = some (.int .i64 m) := cell_of_row _ _ _ _ _ _ A1.out
  have A1_2 : V3.cell? ⟨w.heap.size, 2, none⟩ = some (.int .i64 d) := cell_of_row _ _ _ _ _ _ A1.out
  have A1_3 : V3.cell? ⟨w.heap.size, 3, none⟩ = some (.int .i64 h) := cell_of_row _ _ _ _ _ _ A1.out
  have A1_4 : V3.cell? ⟨w.heap.size, 4, none⟩ = some (.int .i64 i) := cell_of_row _ _ _ _ _ _ A1.out
  have A1_5 : V3.cell? ⟨w.heap.size, 5, none⟩ = some (.int .i64 s) := cell_of_row _ _ _ _ _ _ A1.out
  have A1_6 : V3.cell? ⟨w.heap.size, 6, none⟩ = some (.int .i64 n) := cell_of_row _ _ _ _ _ _ A1.out
  have C1_0 : V3.cell? ⟨w.heap.size + 1, 0, none⟩ = some (.int .i64 y') := cell_of_row _ _ _ _ _ _ C1.out
  have C1_1 : V3.cell? ⟨w.heap.size + 1, 1, none⟩ = some (.int .i64 m') := cell_of_row _ _ _ _ _ _ C1.out
  have C1_2 : V3.cell? ⟨w.heap.size + 1, 2, none⟩ = some (.int .i64 d') := cell_of_row _ _ _ _ _ _ C1.out
  have C1_3 : V3.cell? ⟨w.heap.size + 1, 3, none⟩ = some (.int .i64 h') := cell_of_row _ _ _ _ _ _ C1.out
  have C1_4 : V3.cell? ⟨w.heap.size + 1, 4, none⟩ = some (.int .i64 i') := cell_of_row _ _ _ _ _ _ C1.out
  have C1_5 : V3.cell? ⟨w.heap.size + 1, 5, none⟩ = some (.int .i64 s') := cell_of_row _ _ _ _ _ _ C1.out
  have C1_6 : V3.cell? ⟨w.heap.size + 1, 6, none⟩ = some (.int .i64 n') := cell_of_row _ _ _ _ _ _ C1.out
  have D1_0 : V3.cell? ⟨V1.heap.size, 0, none⟩ = some (.int .i64 S) := cell_of_row _ _ _ _ _ _ D1.out
  have D1_1 : V3.cell? ⟨V1.heap.size, 1, none⟩ = some (.int .i64 N) := cell_of_row _ _ _ _ _ _ D1.out
  have X1_0 : V3.cell? ⟨V2.heap.size, 0, none⟩ = some (.int .i64 y) := cell_of_row _ _ _ _ _ _ X1.out
  have X1_1 : V3.cell? ⟨V2.heap.size, 1, none⟩ = some (.int .i64 m) := cell_of_row _ _ _ _ _ _ X1.out
  have X1_2 : V3.cell? ⟨V2.heap.size, 2, none⟩ = some (.int .i64 d) := cell_of_row _ _ _ _ _ _ X1.out
  have X1_3 : V3.cell? ⟨V2.heap.size, 3, none⟩ = some (.int .i64 h) := cell_of_row _ _ _ _ _ _ X1.out
  have X1_4 : V3.cell? ⟨V2.heap.size, 4, none⟩ = some (.int .i64 i) := cell_of_row _ _ _ _ _ _ X1.out
  have X1_5 : V3.cell? ⟨V2.heap.size, 5, none⟩ = some (.int .i64 s) := cell_of_row _ _ _ _ _ _ X1.out
  have X1_6 : V3.cell? ⟨V2.heap.size, 6, none⟩ = some (.int .i64 n) := cell_of_row _ _ _ _ _ _ X1.out
  have zA1 := lt_of_heap A1.out
  have zC1 := lt_of_heap C1.out
  have zD1 := lt_of_heap D1.out
  have zX1 := lt_of_heap X1.out
  go_simp
  go_wp2_with fail
  refine (HK.out _ (by first | exact tb_keep hM (B3.out) | exact tb_keep hM ((B3.out).alloc (B3.out.size) _) | exact tb_keep hM (((B3.out).alloc (B3.out.size) _).alloc (by have := B3.out.size; simp <;> omega) _) | exact tb_keep hM ((((B3.out).alloc (B3.out.size) _).alloc (by have := B3.out.size; simp <;> omega) _).alloc (by have := B3.out.size; simp <;> omega) _))).mono ?_
  rintro e V4 ⟨rfl, hb4⟩
  clear A1_0 A1_1 A1_2 A1_3 A1_4 A1_5 A1_6 zA1 C1_0 C1_1 C1_2 C1_3 C1_4 C1_5 C1_6 zC1 D1_0 D1_1 zD1 X1_0 X1_1 X1_2 X1_3 X1_4 X1_5 X1_6 zX1
  have B4 : Hid (Below w.heap.size w V4) := by first | exact Lib.hid ((B3.out).trans (hb4.mono (by have := B3.out.size; first | assumption | (simp <;> omega) | (simp; done)))) | exact Lib.hid (((B3.out).alloc (B3.out.size) _).trans (hb4.mono (by have := B3.out.size; first | assumption | (simp <;> omega) | (simp; done)))) | exact Lib.hid ((((B3.out).alloc (B3.out.size) _).alloc (by have := B3.out.size; simp <;> omega) _).trans (hb4.mono (by have := B3.out.size; first | assumption | (simp <;> omega) | (simp; done)))) | exact Lib.hid (((((B3.out).alloc (B3.out.size) _).alloc (by have := B3.out.size; simp <;> omega) _).alloc (by have := B3.out.size; simp <;> omega) _).trans (hb4.mono (by have := B3.out.size; first | assumption | (simp <;> omega) | (simp; done))))
  first | replace A1 := Lib.hid (row_call hb4 A1.out) | replace A1 := Lib.hid (row_call hb4 (row_alloc A1.out _)) | replace A1 := Lib.hid (row_call hb4 (row_alloc (row_alloc A1.out _) _)) | replace A1 := Lib.hid (row_call hb4 (row_alloc (row_alloc (row_alloc A1.out _) _) _))
  first | replace C1 := Lib.hid (row_call hb4 C1.out) | replace C1 := Lib.hid (row_call hb4 (row_alloc C1.out _)) | replace C1 := Lib.hid (row_call hb4 (row_alloc (row_alloc C1.out _) _)) | replace C1 := Lib.hid (row_call hb4 (row_alloc (row_alloc (row_alloc C1.out _) _) _))
  first | replace D1 := Lib.hid (row_call hb4 D1.out) | replace D1 := Lib.hid (row_call hb4 (row_alloc D1.out _)) | replace D1 := Lib.hid (row_call hb4 (row_alloc (row_alloc D1.out _) _)) | replace D1 := Lib.hid (row_call hb4 (row_alloc (row_alloc (row_alloc D1.out _) _) _))
  first | replace X1 := Lib.hid (row_call hb4 X1.out) | replace X1 := Lib.hid (row_call hb4 (row_alloc X1.out _)) | replace X1 := Lib.hid (row_call hb4 (row_alloc (row_alloc X1.out _) _)) | replace X1 := Lib.hid (row_call hb4 (row_alloc (row_alloc (row_alloc X1.out _) _) _))
  clear hb4
  have A1_0 : V4.cell? ⟨w.heap.size, 0, none⟩ = some (.int .i64 y) := cell_of_row _ _ _ _ _ _ A1.out
  have A1_1 : V4.cell? ⟨w.heap.size, 1, none⟩ = some (.int .i64 m) := cell_of_row _ _ _ _ _ _ A1.out
  have A1_2 : V4.cell? ⟨w.heap.size, 2, none⟩ = some (.int .i64 d) := cell_of_row _ _ _ _ _ _ A1.out
  have A1_3 : V4.cell? ⟨w.heap.size, 3, none⟩ = some (.int .i64 h) := cell_of_row _ _ _ _ _ _ A1.out
  have A1_4 : V4.cell? ⟨w.heap.size, 4, none⟩ = some (.int .i64 i) := cell_of_row _ _ _ _ _ _ A1.out
  have A1_5 : V4.cell? ⟨w.heap.size, 5, none⟩ = some (.int .i64 s) := cell_of_row _ _ _ _ _ _ A1.out
  have A1_6 : V4.cell? ⟨w.heap.size, 6, none⟩ = some (.int .i64 n) := cell_of_row _ _ _ _ _ _ A1.out
  have C1_0 : V4.cell? ⟨w.heap.size + 1, 0, none⟩ = some (.int .i64 y') := cell_of_row _ _ _ _ _ _ C1.out
  have C1_1 : V4.cell? ⟨w.heap.size + 1, 1, none⟩ = some (.int .i64 m') := cell_of_row _ _ _ _ _ _ C1.out
  have C1_2 : V4.cell? ⟨w.heap.size + 1, 2, none⟩ = some (.int .i64 d') := cell_of_row _ _ _ _ _ _ C1.out
  have C1_3 : V4.cell? ⟨w.heap.size + 1, 3, none⟩ = some (.int .i64 h') := cell_of_row _ _ _ _ _ _ C1.out
  have C1_4 : V4.cell? ⟨w.heap.size + 1, 4, none⟩ = some (.int .i64 i') := cell_of_row _ _ _ _ _ _ C1.out
  have C1_5 : V4.cell? ⟨w.heap.size + 1, 5, none⟩ = some (.int .i64 s') := cell_of_row _ _ _ _ _ _ C1.out
  have C1_6 : V4.cell? ⟨w.heap.size + 1, 6, none⟩ = some (.int .i64 n') := cell_of_row _ _ _ _ _ _ C1.out
  have D1_0 : V4.cell? ⟨V1.heap.size, 0, none⟩ = some (.int .i64 S) := cell_of_row _ _ _ _ _ _ D1.out
  have D1_1 : V4.cell? ⟨V1.heap.size, 1, none⟩ = some (.int .i64 N) := cell_of_row _ _ _ _ _ _ D1.out
  have X1_0 : V4.cell? ⟨V2.heap.size, 0, none⟩ = some (.int .i64 y) := cell_of_row _ _ _ _ _ _ X1.out
  have X1_1 : V4.cell? ⟨V2.heap.size, 1, none⟩ = some (.int .i64 m) := cell_of_row _ _ _ _ _ _ X1.out
  have X1_2 : V4.cell? ⟨V2.heap.size, 2, none⟩ = some (.int .i64 d) := cell_of_row _ _ _ _ _ _ X1.out
  have X1_3 : V4.cell? ⟨V2.heap.size, 3, none⟩ = some (.int .i64 h) := cell_of_row _ _ _ _ _ _ X1.out
  have X1_4 : V4.cell? ⟨V2.heap.size, 4, none⟩ = some (.int .i64 i) := cell_of_row _ _ _ _ _ _ X1.out
  have X1_5 : V4.cell? ⟨V2.heap.size, 5, none⟩ = some (.int .i64 s) := cell_of_row _ _ _ _ _ _ X1.out
  have X1_6 : V4.cell? ⟨V2.heap.size, 6, none⟩ = some (.int .i64 n) := cell_of_row _ _ _ _ _ _ X1.out
  have zA1 := lt_of_heap A1.out
  have zC1 := lt_of_heap C1.out
  have zD1 := lt_of_heap D1.out
  have zX1 := lt_of_heap X1.out
  go_simp
  go_wp2
  go_ret
  exact ⟨rfl, by first | exact B4.out | exact B4.out.alloc B4.out.size _⟩
set_option maxHeartbeats 3200000 in
set_option maxRecDepth 100000 in
theorem cw_pos (y m d h i s n y' m' d' h' i' s' n' S N : Int) (hs : 0 < S)
    (H1 : Hid (∀ w, TB w → Calls Tryd.prog 16 #[.agg #[.int .i64 y, .int .i64 m, .int .i64 d, .int .i64 h, .int .i64 i, .int .i64 s, .int .i64 n], .agg #[.int .i64 y', .int .i64 m', .int .i64 d', .int .i64 h', .int .i64 i', .int .i64 s', .int .i64 n']] w fun e w' => e = .returned (.tuple #[.agg #[.int .i64 S, .int .i64 N], .int .i64 0]) ∧ Below w.heap.size w w'))
    (H2 : Hid (∀ w, TB w → Calls Tryd.prog 14 #[.agg #[.int .i64 y', .int .i64 m', .int .i64 d', .int .i64 h', .int .i64 i', .int .i64 s', .int .i64 n'], .agg #[.int .i64 S, .int .i64 N]] w fun e w' => e = .returned (.tuple #[.agg #[.int .i64 y, .int .i64 m, .int .i64 d, .int .i64 h, .int .i64 i, .int .i64 s, .int .i64 n], .int .i64 0]) ∧ Below w.heap.size w w'))
    (H3 : Hid (∀ w, Calls Tryd.prog 18 #[.agg #[.int .i64 y, .int .i64 m, .int .i64 d, .int .i64 h, .int .i64 i, .int .i64 s, .int .i64 n], .agg #[.int .i64 y', .int .i64 m', .int .i64 d', .int .i64 h', .int .i64 i', .int .i64 s', .int .i64 n']] w fun e w' => e = .returned (.int .i64 (1)) ∧ Below w.heap.size w w')) (w : World) (hM : TB w) :
    Calls Tryd.prog 6 #[.agg #[.int .i64 y, .int .i64 m, .int .i64 d, .int .i64 h, .int .i64 i, .int .i64 s, .int .i64 n], .agg #[.int .i64 y', .int .i64 m', .int .i64 d', .int .i64 h', .int .i64 i', .int .i64 s', .int .i64 n']] w fun e w' => e = .returned (.bool true) ∧ Below w.heap.size w w' := by
  have HK := Lib.hid awake9_any
  replace hM := Lib.hid hM
  go_enter Tryd.func6, Tryd.ntmps6
  go_wp2_with fail
  
  refine (H1.out _ (by first | exact tb_keep hM (((Below.refl w.heap.size w).alloc (Nat.le_refl _) _).alloc (by simp <;> omega) _))).mono ?_
  rintro e V1 ⟨rfl, hb1⟩
  have B1 := Lib.hid ((((Below.refl w.heap.size w).alloc (Nat.le_refl _) _).alloc (by simp <;> omega) _).trans (hb1.mono (by first | assumption | (simp <;> omega) | (simp; done))))
  have A1 := Lib.hid (row_call hb1 (row_alloc (heap_alloc_new _ _) _))
  have C1 := Lib.hid (row_at (k' := w.heap.size + 1) (by simp) (row_call hb1 (heap_alloc_new _ _)))
  clear hb1
  have A1_0 : V1.cell? ⟨w.heap.size, 0, none⟩ = some (.int .i64 y) := cell_of_row _ _ _ _ _ _ A1.out
  have A1_1 : V1.cell? ⟨w.heap.size, 1, none⟩ = some (.int .i64 m) := cell_of_row _ _ _ _ _ _ A1.out
  have A1_2 : V1.cell? ⟨w.heap.size, 2, none⟩ = some (.int .i64 d) := cell_of_row _ _ _ _ _ _ A1.out
  have A1_3 : V1.cell? ⟨w.heap.size, 3, none⟩ = some (.int .i64 h) := cell_of_row _ _ _ _ _ _ A1.out
  have A1_4 : V1.cell? ⟨w.heap.size, 4, none⟩ = some (.int .i64 i) := cell_of_row _ _ _ _ _ _ A1.out
  have A1_5 : V1.cell? ⟨w.heap.size, 5, none⟩ = some (.int .i64 s) := cell_of_row _ _ _ _ _ _ A1.out
  have A1_6 : V1.cell? ⟨w.heap.size, 6, none⟩ = some (.int .i64 n) := cell_of_row _ _ _ _ _ _ A1.out
  have C1_0 : V1.cell? ⟨w.heap.size + 1, 0, none⟩ = some (.int .i64 y') := cell_of_row _ _ _ _ _ _ C1.out
  have C1_1 : V1.cell? ⟨w.heap.size + 1, 1, none⟩ = some (.int .i64 m') := cell_of_row _ _ _ _ _ _ C1.out
  have C1_2 : V1.cell? ⟨w.heap.size + 1, 2, none⟩ = some (.int .i64 d') := cell_of_row _ _ _ _ _ _ C1.out
  have C1_3 : V1.cell? ⟨w.heap.size + 1, 3, none⟩ = some (.int .i64 h') := cell_of_row _ _ _ _ _ _ C1.out
  have C1_4 : V1.cell? ⟨w.heap.size + 1, 4, none⟩ = some (.int .i64 i') := cell_of_row _ _ _ _ _ _ C1.out
  have C1_5 : V1.cell? ⟨w.heap.size + 1, 5, none⟩ = some (.int .i64 s') := cell_of_row _ _ _ _ _ _ C1.out
  have C1_6 : V1.cell? ⟨w.heap.size + 1, 6, none⟩ = some (.int .i64 n') := cell_of_row _ _ _ _ _ _ C1.out
  have zA1 := lt_of_heap A1.out
  have zC1 := lt_of_heap C1.out
  go_simp
  go_wp2_with fail
  refine (H2.out _ (by first | exact tb_keep hM ((B1.out).alloc (B1.out.size) _))).mono ?_
  rintro e V2 ⟨rfl, hb2⟩
  clear A1_0 A1_1 A1_2 A1_3 A1_4 A1_5 A1_6 zA1 C1_0 C1_1 C1_2 C1_3 C1_4 C1_5 C1_6 zC1
  have nA1D1 := Lib.hid (lt_of_heap A1.out)
  have nC1D1 := Lib.hid (lt_of_heap C1.out)
  have B2 := Lib.hid (((B1.out).alloc (B1.out.size) _).trans (hb2.mono (by have := B1.out.size; first | assumption | (simp <;> omega) | (simp; done))))
  replace A1 := Lib.hid (row_call hb2 (row_alloc A1.out _))
  replace C1 := Lib.hid (row_call hb2 (row_alloc C1.out _))
  have D1 := Lib.hid (row_call hb2 (heap_alloc_new _ _))
  clear hb2
  have A1_0 : V2.cell? ⟨w.heap.size, 0, none⟩ = some (.int .i64 y) := cell_of_row _ _ _ _ _ _ A1.out
  have A1_1 : V2.cell? ⟨w.heap.size, 1, none⟩ = some (.int .i64 m) := cell_of_row _ _ _ _ _ _ A1.out
  have A1_2 : V2.cell? ⟨w.heap.size, 2, none⟩ = some (.int .i64 d) := cell_of_row _ _ _ _ _ _ A1.out
  have A1_3 : V2.cell? ⟨w.heap.size, 3, none⟩ = some (.int .i64 h) := cell_of_row _ _ _ _ _ _ A1.out
  have A1_4 : V2.cell? ⟨w.heap.size, 4, none⟩ = some (.int .i64 i) := cell_of_row _ _ _ _ _ _ A1.out
  have A1_5 : V2.cell? ⟨w.heap.size, 5, none⟩ = some (.int .i64 s) := cell_of_row _ _ _ _ _ _ A1.out
  have A1_6 : V2.cell? ⟨w.heap.size, 6, none⟩ = some (.int .i64 n) := cell_of_row _ _ _ _ _ _ A1.out
  have C1_0 : V2.cell? ⟨w.heap.size + 1, 0, none⟩ = some (.int .i64 y') := cell_of_row _ _ _ _ _ _ C1.out
  have C1_1 : V2.cell? ⟨w.heap.size + 1, 1, none⟩ = some (.int .i64 m') := cell_of_row _ _ _ _ _ _ C1.out
  have C1_2 : V2.cell? ⟨w.heap.size + 1, 2, none⟩ = some (.int .i64 d') := cell_of_row _ _ _ _ _ _ C1.out
  have C1_3 : V2.cell? ⟨w.heap.size + 1, 3, none⟩ = some (.int .i64 h') := cell_of_row _ _ _ _ _ _ C1.out
  have C1_4 : V2.cell? ⟨w.heap.size + 1, 4, none⟩ = some (.int .i64 i') := cell_of_row _ _ _ _ _ _ C1.out
  have C1_5 : V2.cell? ⟨w.heap.size + 1, 5, none⟩ = some (.int .i64 s') := cell_of_row _ _ _ _ _ _ C1.out
  have C1_6 : V2.cell? ⟨w.heap.size + 1, 6, none⟩ = some (.int .i64 n') := cell_of_row _ _ _ _ _ _ C1.out
  have D1_0 : V2.cell? ⟨V1.heap.size, 0, none⟩ = some (.int .i64 S) := cell_of_row _ _ _ _ _ _ D1.out
  have D1_1 : V2.cell? ⟨V1.heap.size, 1, none⟩ = some (.int .i64 N) := cell_of_row _ _ _ _ _ _ D1.out
  have zA1 := lt_of_heap A1.out
  have zC1 := lt_of_heap C1.out
  have zD1 := lt_of_heap D1.out
  go_simp
  go_wp2_with fail
  refine (H3.out _).mono ?_
  rintro e V3 ⟨rfl, hb3⟩
  clear A1_0 A1_1 A1_2 A1_3 A1_4 A1_5 A1_6 zA1 C1_0 C1_1 C1_2 C1_3 C1_4 C1_5 C1_6 zC1 D1_0 D1_1 zD1
  have nA1X1 := Lib.hid (lt_of_heap A1.out)
  have nC1X1 := Lib.hid (lt_of_heap C1.out)
  have nD1X1 := Lib.hid (lt_of_heap D1.out)
  have B3 := Lib.hid (((B2.out).alloc (B2.out.size) _).trans (hb3.mono (by have := B2.out.size; first | assumption | (simp <;> omega) | (simp; done))))
  replace A1 := Lib.hid (row_call hb3 (row_alloc A1.out _))
  replace C1 := Lib.hid (row_call hb3 (row_alloc C1.out _))
  replace D1 := Lib.hid (row_call hb3 (row_alloc D1.out _))
  have X1 := Lib.hid (row_call hb3 (heap_alloc_new _ _))
  clear hb3
  have A1_0 : V3.cell? ⟨w.heap.size, 0, none⟩ = some (.int .i64 y) := cell_of_row _ _ _ _ _ _ A1.out
  have A1_1 : V3.cell? ⟨w.heap.size, 1, none⟩ = some (.int .i64 m) := cell_of_row _ _ _ _ _ _ A1.out
  have A1_2 : V3.cell? ⟨w.heap.size, 2, none⟩ = some (.int .i64 d) := cell_of_row _ _ _ _ _ _ A1.out
  have A1_3 : V3.cell? ⟨w.heap.size, 3, none⟩ = some (.int .i64 h) := cell_of_row _ _ _ _ _ _ A1.out
  have A1_4 : V3.cell? ⟨w.heap.size, 4, none⟩ = some (.int .i64 i) := cell_of_row _ _ _ _ _ _ A1.out
  have A1_5 : V3.cell? ⟨w.heap.size, 5, none⟩ = some (.int .i64 s) := cell_of_row _ _ _ _ _ _ A1.out
  have A1_6 : V3.cell? ⟨w.heap.size, 6, none⟩ = some (.int .i64 n) := cell_of_row _ _ _ _ _ _ A1.out
  have C1_0 : V3.cell? ⟨w.heap.size + 1, 0, none⟩ = some (.int .i64 y') := cell_of_row _ _ _ _ _ _ C1.out
  have C1_1 : V3.cell? ⟨w.heap.size + 1, 1, none⟩ = some (.int .i64 m') := cell_of_row _ _ _ _ _ _ C1.out
  have C1_2 : V3.cell? ⟨w.heap.size + 1, 2, none⟩ = some (.int .i64 d') := cell_of_row _ _ _ _ _ _ C1.out
  have C1_3 : V3.cell? ⟨w.heap.size + 1, 3, none⟩ = some (.int .i64 h') := cell_of_row _ _ _ _ _ _ C1.out
  have C1_4 : V3.cell? ⟨w.heap.size + 1, 4, none⟩ = some (.int .i64 i') := cell_of_row _ _ _ _ _ _ C1.out
  have C1_5 : V3.cell? ⟨w.heap.size + 1, 5, none⟩ = some (.int .i64 s') := cell_of_row _ _ _ _ _ _ C1.out
  have C1_6 : V3.cell? ⟨w.heap.size + 1, 6, none⟩ = some (.int .i64 n') := cell_of_row _ _ _ _ _ _ C1.out
  have D1_0 : V3.cell? ⟨V1.heap.size, 0, none⟩ = some (.int .i64 S) := cell_of_row _ _ _ _ _ _ D1.out
  have D1_1 : V3.cell? ⟨V1.heap.size, 1, none⟩ = some (.int .i64 N) := cell_of_row _ _ _ _ _ _ D1.out
  have X1_0 : V3.cell? ⟨V2.heap.size, 0, none⟩ = some (.int .i64 y) := cell_of_row _ _ _ _ _ _ X1.out
  have X1_1 : V3.cell? ⟨V2.heap.size, 1, none⟩ = some (.int .i64 m) := cell_of_row _ _ _ _ _ _ X1.out
  have X1_2 : V3.cell? ⟨V2.heap.size, 2, none⟩ = some (.int .i64 d) := cell_of_row _ _ _ _ _ _ X1.out
  have X1_3 : V3.cell? ⟨V2.heap.size, 3, none⟩ = some (.int .i64 h) := cell_of_row _ _ _ _ _ _ X1.out
  have X1_4 : V3.cell? ⟨V2.heap.size, 4, none⟩ = some (.int .i64 i) := cell_of_row _ _ _ _ _ _ X1.out
  have X1_5 : V3.cell? ⟨V2.heap.size, 5, none⟩ = some (.int .i64 s) := cell_of_row _ _ _ _ _ _ X1.out
  have X1_6 : V3.cell? ⟨V2.heap.size, 6, none⟩ = some (.int .i64 n) := cell_of_row _ _ _ _ _ _ X1.out
  have zA1 := lt_of_heap A1.out
  have zC1 := lt_of_heap C1.out
  have zD1 := lt_of_heap D1.out
  have zX1 := lt_of_heap X1.out
  go_simp
  go_wp2_with fail
  refine (HK.out _ (by first | exact tb_keep hM (B3.out) | exact tb_keep hM ((B3.out).alloc (B3.out.size) _) | exact tb_keep hM (((B3.out).alloc (B3.out.size) _).alloc (by have := B3.out.size; simp <;> omega) _) | exact tb_keep hM ((((B3.out).alloc (B3.out.size) _).alloc (by have := B3.out.size; simp <;> omega) _).alloc (by have := B3.out.size; simp <;> omega) _))).mono ?_
  rintro e V4 ⟨rfl, hb4⟩
  clear A1_0 A1_1 A1_2 A1_3 A1_4 A1_5 A1_6 zA1 C1_0 C1_1 C1_2 C1_3 C1_4 C1_5 C1_6 zC1 D1_0 D1_1 zD1 X1_0 X1_1 X1_2 X1_3 X1_4 X1_5 X1_6 zX1
  have B4 : Hid (Below w.heap.size w V4) := by first | exact Lib.hid ((B3.out).trans (hb4.mono (by have := B3.out.size; first | assumption | (simp <;> omega) | (simp; done)))) | exact Lib.hid (((B3.out).alloc (B3.out.size) _).trans (hb4.mono (by have := B3.out.size; first | assumption | (simp <;> omega) | (simp; done)))) | exact Lib.hid ((((B3.out).alloc (B3.out.size) _).alloc (by have := B3.out.size; simp <;> omega) _).trans (hb4.mono (by have := B3.out.size; first | assumption | (simp <;> omega) | (simp; done)))) | exact Lib.hid (((((B3.out).alloc (B3.out.size) _).alloc (by have := B3.out.size; simp <;> omega) _).alloc (by have := B3.out.size; simp <;> omega) _).trans (hb4.mono (by have := B3.out.size; first | assumption | (simp <;> omega) | (simp; done))))
  first | replace A1 := Lib.hid (row_call hb4 A1.out) | replace A1 := Lib.hid (row_call hb4 (row_alloc A1.out _)) | replace A1 := Lib.hid (row_call hb4 (row_alloc (row_alloc A1.out _) _)) | replace A1 := Lib.hid (row_call hb4 (row_alloc (row_alloc (row_alloc A1.out _) _) _))
  first | replace C1 := Lib.hid (row_call hb4 C1.out) | replace C1 := Lib.hid (row_call hb4 (row_alloc C1.out _)) | replace C1 := Lib.hid (row_call hb4 (row_alloc (row_alloc C1.out _) _)) | replace C1 := Lib.hid (row_call hb4 (row_alloc (row_alloc (row_alloc C1.out _) _) _))
  first | replace D1 := Lib.hid (row_call hb4 D1.out) | replace D1 := Lib.hid (row_call hb4 (row_alloc D1.out _)) | replace D1 := Lib.hid (row_call hb4 (row_alloc (row_alloc D1.out _) _)) | replace D1 := Lib.hid (row_call hb4 (row_alloc (row_alloc (row_alloc D1.out _) _) _))
  first | replace X1 := Lib.hid (row_call hb4 X1.out) | replace X1 := Lib.hid (row_call hb4 (row_alloc X1.out _)) | replace X1 := Lib.hid (row_call hb4 (row_alloc (row_alloc X1.out _) _)) | replace X1 := Lib.hid (row_call hb4 (row_alloc (row_alloc (row_alloc X1.out _) _) _))
  clear hb4
  have A1_0 : V4.cell? ⟨w.heap.size, 0, none⟩ = some (.int .i64 y) := cell_of_row _ _ _ _ _ _ A1.out
  have A1_1 : V4.cell? ⟨w.heap.size, 1, none⟩ = some (.int .i64 m) := cell_of_row _ _ _ _ _ _ A1.out
  have A1_2 : V4.cell? ⟨w.heap.size, 2, none⟩ = some (.int .i64 d) := cell_of_row _ _ _ _ _ _ A1.out
  have A1_3 : V4.cell? ⟨w.heap.size, 3, none⟩ = some (.int .i64 h) := cell_of_row _ _ _ _ _ _ A1.out
  have A1_4 : V4.cell? ⟨w.heap.size, 4, none⟩ = some (.int .i64 i) := cell_of_row _ _ _ _ _ _ A1.out
  have A1_5 : V4.cell? ⟨w.heap.size, 5, none⟩ = some (.int .i64 s) := cell_of_row _ _ _ _ _ _ A1.out
  have A1_6 : V4.cell? ⟨w.heap.size, 6, none⟩ = some (.int .i64 n) := cell_of_row _ _ _ _ _ _ A1.out
  have C1_0 : V4.cell? ⟨w.heap.size + 1, 0, none⟩ = some (.int .i64 y') := cell_of_row _ _ _ _ _ _ C1.out
  have C1_1 : V4.cell? ⟨w.heap.size + 1, 1, none⟩ = some (.int .i64 m') := cell_of_row _ _ _ _ _ _ C1.out
  have C1_2 : V4.cell? ⟨w.heap.size + 1, 2, none⟩ = some (.int .i64 d') := cell_of_row _ _ _ _ _ _ C1.out
  have C1_3 : V4.cell? ⟨w.heap.size + 1, 3, none⟩ = some (.int .i64 h') := cell_of_row _ _ _ _ _ _ C1.out
  have C1_4 : V4.cell? ⟨w.heap.size + 1, 4, none⟩ = some (.int .i64 i') := cell_of_row _ _ _ _ _ _ C1.out
  have C1_5 : V4.cell? ⟨w.heap.size + 1, 5, none⟩ = some (.int .i64 s') := cell_of_row _ _ _ _ _ _ C1.out
  have C1_6 : V4.cell? ⟨w.heap.size + 1, 6, none⟩ = some (.int .i64 n') := cell_of_row _ _ _ _ _ _ C1.out
  have D1_0 : V4.cell? ⟨V1.heap.size, 0, none⟩ = some (.int .i64 S) := cell_of_row _ _ _ _ _ _ D1.out
  have D1_1 : V4.cell? ⟨V1.heap.size, 1, none⟩ = some (.int .i64 N) := cell_of_row _ _ _ _ _ _ D1.out
  have X1_0 : V4.cell? ⟨V2.heap.size, 0, none⟩ = some (.int .i64 y) := cell_of_row _ _ _ _ _ _ X1.out
  have X1_1 : V4.cell? ⟨V2.heap.size, 1, none⟩ = some (.int .i64 m) := cell_of_row _ _ _ _ _ _ X1.out
  have X1_2 : V4.cell? ⟨V2.heap.size, 2, none⟩ = some (.int .i64 d) := cell_of_row _ _ _ _ _ _ X1.out
  have X1_3 : V4.cell? ⟨V2.heap.size, 3, none⟩ = some (.int .i64 h) := cell_of_row _ _ _ _ _ _ X1.out
  have X1_4 : V4.cell? ⟨V2.heap.size, 4, none⟩ = some (.int .i64 i) := cell_of_row _ _ _ _ _ _ X1.out
  have X1_5 : V4.cell? ⟨V2.heap.size, 5, none⟩ = some (.int .i64 s) := cell_of_row _ _ _ _ _ _ X1.out
  have X1_6 : V4.cell? ⟨V2.heap.size, 6, none⟩ = some (.int .i64 n) := cell_of_row _ _ _ _ _ _ X1.out
  have zA1 := lt_of_heap A1.out
  have zC1 := lt_of_heap C1.out
  have zD1 := lt_of_heap D1.out
  have zX1 := lt_of_heap X1.out
  go_simp
  go_wp2
  go_ret
  exact ⟨rfl, by first | exact B4.out | exact B4.out.alloc B4.out.size _⟩
set_option maxHeartbeats 3200000 in
set_option maxRecDepth 100000 in
theorem cw_nano (y m d h i s n y' m' d' h' i' s' n' S N : Int) (hs : 0 < N)
    (H1 : Hid (∀ w, TB w → Calls Tryd.prog 16 #[.agg #[.int .i64 y, .int .i64 m, .int .i64 d, .int .i64 h, .int .i64 i, .int .i64 s, .int .i64 n], .agg #[.int .i64 y', .int .i64 m', .int .i64 d', .int .i64 h', .int .i64 i', .int .i64 s', .int .i64 n']] w fun e w' => e = .returned (.tuple #[.agg #[.int .i64 0, .int .i64 N], .int .i64 0]) ∧ Below w.heap.size w w'))
    (H2 : Hid (∀ w, TB w → Calls Tryd.prog 14 #[.agg #[.int .i64 y', .int .i64 m', .int .i64 d', .int .i64 h', .int .i64 i', .int .i64 s', .int .i64 n'], .agg #[.int .i64 0, .int .i64 N]] w fun e w' => e = .returned (.tuple #[.agg #[.int .i64 y, .int .i64 m, .int .i64 d, .int .i64 h, .int .i64 i, .int .i64 s, .int .i64 n], .int .i64 0]) ∧ Below w.heap.size w w'))
    (H3 : Hid (∀ w, Calls Tryd.prog 18 #[.agg #[.int .i64 y, .int .i64 m, .int .i64 d, .int .i64 h, .int .i64 i, .int .i64 s, .int .i64 n], .agg #[.int .i64 y', .int .i64 m', .int .i64 d', .int .i64 h', .int .i64 i', .int .i64 s', .int .i64 n']] w fun e w' => e = .returned (.int .i64 (1)) ∧ Below w.heap.size w w')) (w : World) (hM : TB w) :
    Calls Tryd.prog 6 #[.agg #[.int .i64 y, .int .i64 m, .int .i64 d, .int .i64 h, .int .i64 i, .int .i64 s, .int .i64 n], .agg #[.int .i64 y', .int .i64 m', .int .i64 d', .int .i64 h', .int .i64 i', .int .i64 s', .int .i64 n']] w fun e w' => e = .returned (.bool true) ∧ Below w.heap.size w w' := by
  have HK := Lib.hid awake9_any
  replace hM := Lib.hid hM
  go_enter Tryd.func6, Tryd.ntmps6
  go_wp2_with fail
  
  refine (H1.out _ (by first | exact tb_keep hM (((Below.refl w.heap.size w).alloc (Nat.le_refl _) _).alloc (by simp <;> omega) _))).mono ?_
  rintro e V1 ⟨rfl, hb1⟩
  have B1 := Lib.hid ((((Below.refl w.heap.size w).alloc (Nat.le_refl _) _).alloc (by simp <;> omega) _).trans (hb1.mono (by first | assumption | (simp <;> omega) | (simp; done))))
  have A1 := Lib.hid (row_call hb1 (row_alloc (heap_alloc_new _ _) _))
  have C1 := Lib.hid (row_at (k' := w.heap.size + 1) (by simp) (row_call hb1 (heap_alloc_new _ _)))
  clear hb1
  have A1_0 : V1.cell? ⟨w.heap.size, 0, none⟩ = some (.int .i64 y) := cell_of_row _ _ _ _ _ _ A1.out
  have A1_1 : V1.cell? ⟨w.heap.size, 1, none⟩ = some (.int .i64 m) := cell_of_row _ _ _ _ _ _ A1.out
  have A1_2 : V1.cell? ⟨w.heap.size, 2, none⟩ = some (.int .i64 d) := cell_of_row _ _ _ _ _ _ A1.out
  have A1_3 : V1.cell? ⟨w.heap.size, 3, none⟩ = some (.int .i64 h) := cell_of_row _ _ _ _ _ _ A1.out
  have A1_4 : V1.cell? ⟨w.heap.size, 4, none⟩ = some (.int .i64 i) := cell_of_row _ _ _ _ _ _ A1.out
  have A1_5 : V1.cell? ⟨w.heap.size, 5, none⟩ = some (.int .i64 s) := cell_of_row _ _ _ _ _ _ A1.out
  have A1_6 : V1.cell? ⟨w.heap.size, 6, none⟩ = some (.int .i64 n) := cell_of_row _ _ _ _ _ _ A1.out
  have C1_0 : V1.cell? ⟨w.heap.size + 1, 0, none⟩ = some (.int .i64 y') := cell_of_row _ _ _ _ _ _ C1.out
  have C1_1 : V1.cell? ⟨w.heap.size + 1, 1, none⟩ = some (.int .i64 m') := cell_of_row _ _ _ _ _ _ C1.out
  have C1_2 : V1.cell? ⟨w.heap.size + 1, 2, none⟩ = some (.int .i64 d') := cell_of_row _ _ _ _ _ _ C1.out
  have C1_3 : V1.cell? ⟨w.heap.size + 1, 3, none⟩ = some (.int .i64 h') := cell_of_row _ _ _ _ _ _ C1.out
  have C1_4 : V1.cell? ⟨w.heap.size + 1, 4, none⟩ = some (.int .i64 i') := cell_of_row _ _ _ _ _ _ C1.out
  have C1_5 : V1.cell? ⟨w.heap.size + 1, 5, none⟩ = some (.int .i64 s') := cell_of_row _ _ _ _ _ _ C1.out
  have C1_6 : V1.cell? ⟨w.heap.size + 1, 6, none⟩ = some (.int .i64 n') := cell_of_row _ _ _ _ _ _ C1.out
  have zA1 := lt_of_heap A1.out
  have zC1 := lt_of_heap C1.out
  go_simp
  go_wp2_with fail
  refine (H2.out _ (by first | exact tb_keep hM ((B1.out).alloc (B1.out.size) _))).mono ?_
  rintro e V2 ⟨rfl, hb2⟩
  clear A1_0 A1_1 A1_2 A1_3 A1_4 A1_5 A1_6 zA1 C1_0 C1_1 C1_2 C1_3 C1_4 C1_5 C1_6 zC1
  have nA1D1 := Lib.hid (lt_of_heap A1.out)
  have nC1D1 := Lib.hid (lt_of_heap C1.out)
  have B2 := Lib.hid (((B1.out).alloc (B1.out.size) _).trans (hb2.mono (by have := B1.out.size; first | assumption | (simp <;> omega) | (simp; done))))
  replace A1 := Lib.hid (row_call hb2 (row_alloc A1.out _))
  replace C1 := Lib.hid (row_call hb2 (row_alloc C1.out _))
  have D1 := Lib.hid (row_call hb2 (heap_alloc_new _ _))
  clear hb2
  have A1_0 : V2.cell? ⟨w.heap.size, 0, none⟩ = some (.int .i64 y) := cell_of_row _ _ _ _ _ _ A1.out
  have A1_1 : V2.cell? ⟨w.heap.size, 1, none⟩ = some (.int .i64 m) := cell_of_row _ _ _ _ _ _ A1.out
  have A1_2 : V2.cell? ⟨w.heap.size, 2, none⟩ = some (.int .i64 d) := cell_of_row _ _ _ _ _ _ A1.out
  have A1_3 : V2.cell? ⟨w.heap.size, 3, none⟩ = some (.int .i64 h) := cell_of_row _ _ _ _ _ _ A1.out
  have A1_4 : V2.cell? ⟨w.heap.size, 4, none⟩ = some (.int .i64 i) := cell_of_row _ _ _ _ _ _ A1.out
  have A1_5 : V2.cell? ⟨w.heap.size, 5, none⟩ = some (.int .i64 s) := cell_of_row _ _ _ _ _ _ A1.out
  have A1_6 : V2.cell? ⟨w.heap.size, 6, none⟩ = some (.int .i64 n) := cell_of_row _ _ _ _ _ _ A1.out
  have C1_0 : V2.cell? ⟨w.heap.size + 1, 0, none⟩ = some (.int .i64 y') := cell_of_row _ _ _ _ _ _ C1.out
  have C1_1 : V2.cell? ⟨w.heap.size + 1, 1, none⟩ = some (.int .i64 m') := cell_of_row _ _ _ _ _ _ C1.out
  have C1_2 : V2.cell? ⟨w.heap.size + 1, 2, none⟩ = some (.int .i64 d') := cell_of_row _ _ _ _ _ _ C1.out
  have C1_3 : V2.cell? ⟨w.heap.size + 1, 3, none⟩ = some (.int .i64 h') := cell_of_row _ _ _ _ _ _ C1.out
  have C1_4 : V2.cell? ⟨w.heap.size + 1, 4, none⟩ = some (.int .i64 i') := cell_of_row _ _ _ _ _ _ C1.out
  have C1_5 : V2.cell? ⟨w.heap.size + 1, 5, none⟩ = some (.int .i64 s') := cell_of_row _ _ _ _ _ _ C1.out
  have C1_6 : V2.cell? ⟨w.heap.size + 1, 6, none⟩ = some (.int .i64 n') := cell_of_row _ _ _ _ _ _ C1.out
  have D1_0 : V2.cell? ⟨V1.heap.size, 0, none⟩ = some (.int .i64 0) := cell_of_row _ _ _ _ _ _ D1.out
  have D1_1 : V2.cell? ⟨V1.heap.size, 1, none⟩ = some (.int .i64 N) := cell_of_row _ _ _ _ _ _ D1.out
  have zA1 := lt_of_heap A1.out
  have zC1 := lt_of_heap C1.out
  have zD1 := lt_of_heap D1.out
  go_simp
  go_wp2_with fail
  refine (H3.out _).mono ?_
  rintro e V3 ⟨rfl, hb3⟩
  clear A1_0 A1_1 A1_2 A1_3 A1_4 A1_5 A1_6 zA1 C1_0 C1_1 C1_2 C1_3 C1_4 C1_5 C1_6 zC1 D1_0 D1_1 zD1
  have nA1X1 := Lib.hid (lt_of_heap A1.out)
  have nC1X1 := Lib.hid (lt_of_heap C1.out)
  have nD1X1 := Lib.hid (lt_of_heap D1.out)
  have B3 := Lib.hid (((B2.out).alloc (B2.out.size) _).trans (hb3.mono (by have := B2.out.size; first | assumption | (simp <;> omega) | (simp; done))))
  replace A1 := Lib.hid (row_call hb3 (row_alloc A1.out _))
  replace C1 := Lib.hid (row_call hb3 (row_alloc C1.out _))
  replace D1 := Lib.hid (row_call hb3 (row_alloc D1.out _))
  have X1 := Lib.hid (row_call hb3 (heap_alloc_new _ _))
  clear hb3
  have A1_0 : V3.cell? ⟨w.heap.size, 0, none⟩ = some (.int .i64 y) := cell_of_row _ _ _ _ _ _ A1.out
  have A1_1 : V3.cell? ⟨w.heap.size, 1, none⟩ = some (.int .i64 m) := cell_of_row _ _ _ _ _ _ A1.out
  have A1_2 : V3.cell? ⟨w.heap.size, 2, none⟩ = some (.int .i64 d) := cell_of_row _ _ _ _ _ _ A1.out
  have A1_3 : V3.cell? ⟨w.heap.size, 3, none⟩ = some (.int .i64 h) := cell_of_row _ _ _ _ _ _ A1.out
  have A1_4 : V3.cell? ⟨w.heap.size, 4, none⟩ = some (.int .i64 i) := cell_of_row _ _ _ _ _ _ A1.out
  have A1_5 : V3.cell? ⟨w.heap.size, 5, none⟩ = some (.int .i64 s) := cell_of_row _ _ _ _ _ _ A1.out
  have A1_6 : V3.cell? ⟨w.heap.size, 6, none⟩ = some (.int .i64 n) := cell_of_row _ _ _ _ _ _ A1.out
  have C1_0 : V3.cell? ⟨w.heap.size + 1, 0, none⟩ = some (.int .i64 y') := cell_of_row _ _ _ _ _ _ C1.out
  have C1_1 : V3.cell? ⟨w.heap.size + 1, 1, none⟩ = some (.int .i64 m') := cell_of_row _ _ _ _ _ _ C1.out
  have C1_2 : V3.cell? ⟨w.heap.size + 1, 2, none⟩ = some (.int .i64 d') := cell_of_row _ _ _ _ _ _ C1.out
  have C1_3 : V3.cell? ⟨w.heap.size + 1, 3, none⟩ = some (.int .i64 h') := cell_of_row _ _ _ _ _ _ C1.out
  have C1_4 : V3.cell? ⟨w.heap.size + 1, 4, none⟩ = some (.int .i64 i') := cell_of_row _ _ _ _ _ _ C1.out
  have C1_5 : V3.cell? ⟨w.heap.size + 1, 5, none⟩ = some (.int .i64 s') := cell_of_row _ _ _ _ _ _ C1.out
  have C1_6 : V3.cell? ⟨w.heap.size + 1, 6, none⟩ = some (.int .i64 n') := cell_of_row _ _ _ _ _ _ C1.out
  have D1_0 : V3.cell? ⟨V1.heap.size, 0, none⟩ = some (.int .i64 0) := cell_of_row _ _ _ _ _ _ D1.out
  have D1_1 : V3.cell? ⟨V1.heap.size, 1, none⟩ = some (.int .i64 N) := cell_of_row _ _ _ _ _ _ D1.out
  have X1_0 : V3.cell? ⟨V2.heap.size, 0, none⟩ = some (.int .i64 y) := cell_of_row _ _ _ _ _ _ X1.out
  have X1_1 : V3.cell? ⟨V2.heap.size, 1, none⟩ = some (.int .i64 m) := cell_of_row _ _ _ _ _ _ X1.out
  have X1_2 : V3.cell? ⟨V2.heap.size, 2, none⟩ = some (.int .i64 d) := cell_of_row _ _ _ _ _ _ X1.out
  have X1_3 : V3.cell? ⟨V2.heap.size, 3, none⟩ = some (.int .i64 h) := cell_of_row _ _ _ _ _ _ X1.out
  have X1_4 : V3.cell? ⟨V2.heap.size, 4, none⟩ = some (.int .i64 i) := cell_of_row _ _ _ _ _ _ X1.out
  have X1_5 : V3.cell? ⟨V2.heap.size, 5, none⟩ = some (.int .i64 s) := cell_of_row _ _ _ _ _ _ X1.out
  have X1_6 : V3.cell? ⟨V2.heap.size, 6, none⟩ = some (.int .i64 n) := cell_of_row _ _ _ _ _ _ X1.out
  have zA1 := lt_of_heap A1.out
  have zC1 := lt_of_heap C1.out
  have zD1 := lt_of_heap D1.out
  have zX1 := lt_of_heap X1.out
  go_simp
  go_wp2_with fail
  refine (HK.out _ (by first | exact tb_keep hM (B3.out) | exact tb_keep hM ((B3.out).alloc (B3.out.size) _) | exact tb_keep hM (((B3.out).alloc (B3.out.size) _).alloc (by have := B3.out.size; simp <;> omega) _) | exact tb_keep hM ((((B3.out).alloc (B3.out.size) _).alloc (by have := B3.out.size; simp <;> omega) _).alloc (by have := B3.out.size; simp <;> omega) _))).mono ?_
  rintro e V4 ⟨rfl, hb4⟩
  clear A1_0 A1_1 A1_2 A1_3 A1_4 A1_5 A1_6 zA1 C1_0 C1_1 C1_2 C1_3 C1_4 C1_5 C1_6 zC1 D1_0 D1_1 zD1 X1_0 X1_1 X1_2 X1_3 X1_4 X1_5 X1_6 zX1
  have B4 : Hid (Below w.heap.size w V4) := by first | exact Lib.hid ((B3.out).trans (hb4.mono (by have := B3.out.size; first | assumption | (simp <;> omega) | (simp; done)))) | exact Lib.hid (((B3.out).alloc (B3.out.size) _).trans (hb4.mono (by have := B3.out.size; first | assumption | (simp <;> omega) | (simp; done)))) | exact Lib.hid ((((B3.out).alloc (B3.out.size) _).alloc (by have := B3.out.size; simp <;> omega) _).trans (hb4.mono (by have := B3.out.size; first | assumption | (simp <;> omega) | (simp; done)))) | exact Lib.hid (((((B3.out).alloc (B3.out.size) _).alloc (by have := B3.out.size; simp <;> omega) _).alloc (by have := B3.out.size; simp <;> omega) _).trans (hb4.mono (by have := B3.out.size; first | assumption | (simp <;> omega) | (simp; done))))
  first | replace A1 := Lib.hid (row_call hb4 A1.out) | replace A1 := Lib.hid (row_call hb4 (row_alloc A1.out _)) | replace A1 := Lib.hid (row_call hb4 (row_alloc (row_alloc A1.out _) _)) | replace A1 := Lib.hid (row_call hb4 (row_alloc (row_alloc (row_alloc A1.out _) _) _))
  first | replace C1 := Lib.hid (row_call hb4 C1.out) | replace C1 := Lib.hid (row_call hb4 (row_alloc C1.out _)) | replace C1 := Lib.hid (row_call hb4 (row_alloc (row_alloc C1.out _) _)) | replace C1 := Lib.hid (row_call hb4 (row_alloc (row_alloc (row_alloc C1.out _) _) _))
  first | replace D1 := Lib.hid (row_call hb4 D1.out) | replace D1 := Lib.hid (row_call hb4 (row_alloc D1.out _)) | replace D1 := Lib.hid (row_call hb4 (row_alloc (row_alloc D1.out _) _)) | replace D1 := Lib.hid (row_call hb4 (row_alloc (row_alloc (row_alloc D1.out _) _) _))
  first | replace X1 := Lib.hid (row_call hb4 X1.out) | replace X1 := Lib.hid (row_call hb4 (row_alloc X1.out _)) | replace X1 := Lib.hid (row_call hb4 (row_alloc (row_alloc X1.out _) _)) | replace X1 := Lib.hid (row_call hb4 (row_alloc (row_alloc (row_alloc X1.out _) _) _))
  clear hb4
  have A1_0 : V4.cell? ⟨w.heap.size, 0, none⟩ = some (.int .i64 y) := cell_of_row _ _ _ _ _ _ A1.out
  have A1_1 : V4.cell? ⟨w.heap.size, 1, none⟩ = some (.int .i64 m) := cell_of_row _ _ _ _ _ _ A1.out
  have A1_2 : V4.cell? ⟨w.heap.size, 2, none⟩ = some (.int .i64 d) := cell_of_row _ _ _ _ _ _ A1.out
  have A1_3 : V4.cell? ⟨w.heap.size, 3, none⟩ = some (.int .i64 h) := cell_of_row _ _ _ _ _ _ A1.out
  have A1_4 : V4.cell? ⟨w.heap.size, 4, none⟩ = some (.int .i64 i) := cell_of_row _ _ _ _ _ _ A1.out
  have A1_5 : V4.cell? ⟨w.heap.size, 5, none⟩ = some (.int .i64 s) := cell_of_row _ _ _ _ _ _ A1.out
  have A1_6 : V4.cell? ⟨w.heap.size, 6, none⟩ = some (.int .i64 n) := cell_of_row _ _ _ _ _ _ A1.out
  have C1_0 : V4.cell? ⟨w.heap.size + 1, 0, none⟩ = some (.int .i64 y') := cell_of_row _ _ _ _ _ _ C1.out
  have C1_1 : V4.cell? ⟨w.heap.size + 1, 1, none⟩ = some (.int .i64 m') := cell_of_row _ _ _ _ _ _ C1.out
  have C1_2 : V4.cell? ⟨w.heap.size + 1, 2, none⟩ = some (.int .i64 d') := cell_of_row _ _ _ _ _ _ C1.out
  have C1_3 : V4.cell? ⟨w.heap.size + 1, 3, none⟩ = some (.int .i64 h') := cell_of_row _ _ _ _ _ _ C1.out
  have C1_4 : V4.cell? ⟨w.heap.size + 1, 4, none⟩ = some (.int .i64 i') := cell_of_row _ _ _ _ _ _ C1.out
  have C1_5 : V4.cell? ⟨w.heap.size + 1, 5, none⟩ = some (.int .i64 s') := cell_of_row _ _ _ _ _ _ C1.out
  have C1_6 : V4.cell? ⟨w.heap.size + 1, 6, none⟩ = some (.int .i64 n') := cell_of_row _ _ _ _ _ _ C1.out
  have D1_0 : V4.cell? ⟨V1.heap.size, 0, none⟩ = some (.int .i64 0) := cell_of_row _ _ _ _ _ _ D1.out
  have D1_1 : V4.cell? ⟨V1.heap.size, 1, none⟩ = some (.int .i64 N) := cell_of_row _ _ _ _ _ _ D1.out
  have X1_0 : V4.cell? ⟨V2.heap.size, 0, none⟩ = some (.int .i64 y) := cell_of_row _ _ _ _ _ _ X1.out
  have X1_1 : V4.cell? ⟨V2.heap.size, 1, none⟩ = some (.int .i64 m) := cell_of_row _ _ _ _ _ _ X1.out
  have X1_2 : V4.cell? ⟨V2.heap.size, 2, none⟩ = some (.int .i64 d) := cell_of_row _ _ _ _ _ _ X1.out
  have X1_3 : V4.cell? ⟨V2.heap.size, 3, none⟩ = some (.int .i64 h) := cell_of_row _ _ _ _ _ _ X1.out
  have X1_4 : V4.cell? ⟨V2.heap.size, 4, none⟩ = some (.int .i64 i) := cell_of_row _ _ _ _ _ _ X1.out
  have X1_5 : V4.cell? ⟨V2.heap.size, 5, none⟩ = some (.int .i64 s) := cell_of_row _ _ _ _ _ _ X1.out
  have X1_6 : V4.cell? ⟨V2.heap.size, 6, none⟩ = some (.int .i64 n) := cell_of_row _ _ _ _ _ _ X1.out
  have zA1 := lt_of_heap A1.out
  have zC1 := lt_of_heap C1.out
  have zD1 := lt_of_heap D1.out
  have zX1 := lt_of_heap X1.out
  go_simp
  go_wp2
  go_ret
  exact ⟨rfl, by first | exact B4.out | exact B4.out.alloc B4.out.size _⟩
set_option maxHeartbeats 3200000 in
set_option maxRecDepth 100000 in
theorem cw_same (y m d h i s n y' m' d' h' i' s' n' S N : Int) (hs : 0 ≤ N)
    (H1 : Hid (∀ w, TB w → Calls Tryd.prog 16 #[.agg #[.int .i64 y, .int .i64 m, .int .i64 d, .int .i64 h, .int .i64 i, .int .i64 s, .int .i64 n], .agg #[.int .i64 y', .int .i64 m', .int .i64 d', .int .i64 h', .int .i64 i', .int .i64 s', .int .i64 n']] w fun e w' => e = .returned (.tuple #[.agg #[.int .i64 0, .int .i64 0], .int .i64 0]) ∧ Below w.heap.size w w'))
    (H2 : Hid (∀ w, TB w → Calls Tryd.prog 14 #[.agg #[.int .i64 y', .int .i64 m', .int .i64 d', .int .i64 h', .int .i64 i', .int .i64 s', .int .i64 n'], .agg #[.int .i64 0, .int .i64 0]] w fun e w' => e = .returned (.tuple #[.agg #[.int .i64 y, .int .i64 m, .int .i64 d, .int .i64 h, .int .i64 i, .int .i64 s, .int .i64 n], .int .i64 0]) ∧ Below w.heap.size w w'))
    (H3 : Hid (∀ w, Calls Tryd.prog 18 #[.agg #[.int .i64 y, .int .i64 m, .int .i64 d, .int .i64 h, .int .i64 i, .int .i64 s, .int .i64 n], .agg #[.int .i64 y', .int .i64 m', .int .i64 d', .int .i64 h', .int .i64 i', .int .i64 s', .int .i64 n']] w fun e w' => e = .returned (.int .i64 (0)) ∧ Below w.heap.size w w')) (w : World) (hM : TB w) :
    Calls Tryd.prog 6 #[.agg #[.int .i64 y, .int .i64 m, .int .i64 d, .int .i64 h, .int .i64 i, .int .i64 s, .int .i64 n], .agg #[.int .i64 y', .int .i64 m', .int .i64 d', .int .i64 h', .int .i64 i', .int .i64 s', .int .i64 n']] w fun e w' => e = .returned (.bool true) ∧ Below w.heap.size w w' := by
  have HK := Lib.hid awake9_any
  replace hM := Lib.hid hM
  go_enter Tryd.func6, Tryd.ntmps6
  go_wp2_with fail
  
  refine (H1.out _ (by first | exact tb_keep hM (((Below.refl w.heap.size w).alloc (Nat.le_refl _) _).alloc (by simp <;> omega) _))).mono ?_
  rintro e V1 ⟨rfl, hb1⟩
  have B1 := Lib.hid ((((Below.refl w.heap.size w).alloc (Nat.le_refl _) _).alloc (by simp <;> omega) _).trans (hb1.mono (by first | assumption | (simp <;> omega) | (simp; done))))
  have A1 := Lib.hid (row_call hb1 (row_alloc (heap_alloc_new _ _) _))
  have C1 := Lib.hid (row_at (k' := w.heap.size + 1) (by simp) (row_call hb1 (heap_alloc_new _ _)))
  clear hb1
  have A1_0 : V1.cell? ⟨w.heap.size, 0, none⟩ = some (.int .i64 y) := cell_of_row _ _ _ _ _ _ A1.out
  have A1_1 : V1.cell? ⟨w.heap.size, 1, none⟩ = some (.int .i64 m) := cell_of_row _ _ _ _ _ _ A1.out
  have A1_2 : V1.cell? ⟨w.heap.size, 2, none⟩ = some (.int .i64 d) := cell_of_row _ _ _ _ _ _ A1.out
  have A1_3 : V1.cell? ⟨w.heap.size, 3, none⟩ = some (.int .i64 h) := cell_of_row _ _ _ _ _ _ A1.out
  have A1_4 : V1.cell? ⟨w.heap.size, 4, none⟩ = some (.int .i64 i) := cell_of_row _ _ _ _ _ _ A1.out
  have A1_5 : V1.cell? ⟨w.heap.size, 5, none⟩ = some (.int .i64 s) := cell_of_row _ _ _ _ _ _ A1.out
  have A1_6 : V1.cell? ⟨w.heap.size, 6, none⟩ = some (.int .i64 n) := cell_of_row _ _ _ _ _ _ A1.out
  have C1_0 : V1.cell? ⟨w.heap.size + 1, 0, none⟩ = some (.int .i64 y') := cell_of_row _ _ _ _ _ _ C1.out
  have C1_1 : V1.cell? ⟨w.heap.size + 1, 1, none⟩ = some (.int .i64 m') := cell_of_row _ _ _ _ _ _ C1.out
  have C1_2 : V1.cell? ⟨w.heap.size + 1, 2, none⟩ = some (.int .i64 d') := cell_of_row _ _ _ _ _ _ C1.out
  have C1_3 : V1.cell? ⟨w.heap.size + 1, 3, none⟩ = some (.int .i64 h') := cell_of_row _ _ _ _ _ _ C1.out
  have C1_4 : V1.cell? ⟨w.heap.size + 1, 4, none⟩ = some (.int .i64 i') := cell_of_row _ _ _ _ _ _ C1.out
  have C1_5 : V1.cell? ⟨w.heap.size + 1, 5, none⟩ = some (.int .i64 s') := cell_of_row _ _ _ _ _ _ C1.out
  have C1_6 : V1.cell? ⟨w.heap.size + 1, 6, none⟩ = some (.int .i64 n') := cell_of_row _ _ _ _ _ _ C1.out
  have zA1 := lt_of_heap A1.out
  have zC1 := lt_of_heap C1.out
  go_simp
  go_wp2_with fail
  refine (H2.out _ (by first | exact tb_keep hM ((B1.out).alloc (B1.out.size) _))).mono ?_
  rintro e V2 ⟨rfl, hb2⟩
  clear A1_0 A1_1 A1_2 A1_3 A1_4 A1_5 A1_6 zA1 C1_0 C1_1 C1_2 C1_3 C1_4 C1_5 C1_6 zC1
  have nA1D1 := Lib.hid (lt_of_heap A1.out)
  have nC1D1 := Lib.hid (lt_of_heap C1.out)
  have B2 := Lib.hid (((B1.out).alloc (B1.out.size) _).trans (hb2.mono (by have := B1.out.size; first | assumption | (simp <;> omega) | (simp; done))))
  replace A1 := Lib.hid (row_call hb2 (row_alloc A1.out _))
  replace C1 := Lib.hid (row_call hb2 (row_alloc C1.out _))
  have D1 := Lib.hid (row_call hb2 (heap_alloc_new _ _))
  clear hb2
  have A1_0 : V2.cell? ⟨w.heap.size, 0, none⟩ = some (.int .i64 y) := cell_of_row _ _ _ _ _ _ A1.out
  have A1_1 : V2.cell? ⟨w.heap.size, 1, none⟩ = some (.int .i64 m) := cell_of_row _ _ _ _ _ _ A1.out
  have A1_2 : V2.cell? ⟨w.heap.size, 2, none⟩ = some (.int .i64 d) := cell_of_row _ _ _ _ _ _ A1.out
  have A1_3 : V2.cell? ⟨w.heap.size, 3, none⟩ = some (.int .i64 h) := cell_of_row _ _ _ _ _ _ A1.out
  have A1_4 : V2.cell? ⟨w.heap.size, 4, none⟩ = some (.int .i64 i) := cell_of_row _ _ _ _ _ _ A1.out
  have A1_5 : V2.cell? ⟨w.heap.size, 5, none⟩ = some (.int .i64 s) := cell_of_row _ _ _ _ _ _ A1.out
  have A1_6 : V2.cell? ⟨w.heap.size, 6, none⟩ = some (.int .i64 n) := cell_of_row _ _ _ _ _ _ A1.out
  have C1_0 : V2.cell? ⟨w.heap.size + 1, 0, none⟩ = some (.int .i64 y') := cell_of_row _ _ _ _ _ _ C1.out
  have C1_1 : V2.cell? ⟨w.heap.size + 1, 1, none⟩ = some (.int .i64 m') := cell_of_row _ _ _ _ _ _ C1.out
  have C1_2 : V2.cell? ⟨w.heap.size + 1, 2, none⟩ = some (.int .i64 d') := cell_of_row _ _ _ _ _ _ C1.out
  have C1_3 : V2.cell? ⟨w.heap.size + 1, 3, none⟩ = some (.int .i64 h') := cell_of_row _ _ _ _ _ _ C1.out
  have C1_4 : V2.cell? ⟨w.heap.size + 1, 4, none⟩ = some (.int .i64 i') := cell_of_row _ _ _ _ _ _ C1.out
  have C1_5 : V2.cell? ⟨w.heap.size + 1, 5, none⟩ = some (.int .i64 s') := cell_of_row _ _ _ _ _ _ C1.out
  have C1_6 : V2.cell? ⟨w.heap.size + 1, 6, none⟩ = some (.int .i64 n') := cell_of_row _ _ _ _ _ _ C1.out
  have D1_0 : V2.cell? ⟨V1.heap.size, 0, none⟩ = some (.int .i64 0) := cell_of_row _ _ _ _ _ _ D1.out
  have D1_1 : V2.cell? ⟨V1.heap.size, 1, none⟩ = some (.int .i64 0) := cell_of_row _ _ _ _ _ _ D1.out
  have zA1 := lt_of_heap A1.out
  have zC1 := lt_of_heap C1.out
  have zD1 := lt_of_heap D1.out
  go_simp
  go_wp2_with fail
  refine (H3.out _).mono ?_
  rintro e V3 ⟨rfl, hb3⟩
  clear A1_0 A1_1 A1_2 A1_3 A1_4 A1_5 A1_6 zA1 C1_0 C1_1 C1_2 C1_3 C1_4 C1_5 C1_6 zC1 D1_0 D1_1 zD1
  have nA1X1 := Lib.hid (lt_of_heap A1.out)
  have nC1X1 := Lib.hid (lt_of_heap C1.out)
  have nD1X1 := Lib.hid (lt_of_heap D1.out)
  have B3 := Lib.hid (((B2.out).alloc (B2.out.size) _).trans (hb3.mono (by have := B2.out.size; first | assumption | (simp <;> omega) | (simp; done))))
  replace A1 := Lib.hid (row_call hb3 (row_alloc A1.out _))
  replace C1 := Lib.hid (row_call hb3 (row_alloc C1.out _))
  replace D1 := Lib.hid (row_call hb3 (row_alloc D1.out _))
  have X1 := Lib.hid (row_call hb3 (heap_alloc_new _ _))
  clear hb3
  have A1_0 : V3.cell? ⟨w.heap.size, 0, none⟩ = some (.int .i64 y) := cell_of_row _ _ _ _ _ _ A1.out
  have A1_1 : V3.cell? ⟨w.heap.size, 1, none⟩ = some (.int .i64 m) := cell_of_row _ _ _ _ _ _ A1.out
  have A1_2 : V3.cell? ⟨w.heap.size, 2, none⟩ = some (.int .i64 d) := cell_of_row _ _ _ _ _ _ A1.out
  have A1_3 : V3.cell? ⟨w.heap.size, 3, none⟩ = some (.int .i64 h) := cell_of_row _ _ _ _ _ _ A1.out
  have A1_4 : V3.cell? ⟨w.heap.size, 4, none⟩ = some (.int .i64 i) := cell_of_row _ _ _ _ _ _ A1.out
  have A1_5 : V3.cell? ⟨w.heap.size, 5, none⟩ = some (.int .i64 s) := cell_of_row _ _ _ _ _ _ A1.out
  have A1_6 : V3.cell? ⟨w.heap.size, 6, none⟩ = some (.int .i64 n) := cell_of_row _ _ _ _ _ _ A1.out
  have C1_0 : V3.cell? ⟨w.heap.size + 1, 0, none⟩ = some (.int .i64 y') := cell_of_row _ _ _ _ _ _ C1.out
  have C1_1 : V3.cell? ⟨w.heap.size + 1, 1, none⟩ = some (.int .i64 m') := cell_of_row _ _ _ _ _ _ C1.out
  have C1_2 : V3.cell? ⟨w.heap.size + 1, 2, none⟩ = some (.int .i64 d') := cell_of_row _ _ _ _ _ _ C1.out
  have C1_3 : V3.cell? ⟨w.heap.size + 1, 3, none⟩ = some (.int .i64 h') := cell_of_row _ _ _ _ _ _ C1.out
  have C1_4 : V3.cell? ⟨w.heap.size + 1, 4, none⟩ = some (.int .i64 i') := cell_of_row _ _ _ _ _ _ C1.out
  have C1_5 : V3.cell? ⟨w.heap.size + 1, 5, none⟩ = some (.int .i64 s') := cell_of_row _ _ _ _ _ _ C1.out
  have C1_6 : V3.cell? ⟨w.heap.size + 1, 6, none⟩ = some (.int .i64 n') := cell_of_row _ _ _ _ _ _ C1.out
  have D1_0 : V3.cell? ⟨V1.heap.size, 0, none⟩ = some (.int .i64 0) := cell_of_row _ _ _ _ _ _ D1.out
  have D1_1 : V3.cell? ⟨V1.heap.size, 1, none⟩ = some (.int .i64 0) := cell_of_row _ _ _ _ _ _ D1.out
  have X1_0 : V3.cell? ⟨V2.heap.size, 0, none⟩ = some (.int .i64 y) := cell_of_row _ _ _ _ _ _ X1.out
  have X1_1 : V3.cell? ⟨V2.heap.size, 1, none⟩ = some (.int .i64 m) := cell_of_row _ _ _ _ _ _ X1.out
  have X1_2 : V3.cell? ⟨V2.heap.size, 2, none⟩ = some (.int .i64 d) := cell_of_row _ _ _ _ _ _ X1.out
  have X1_3 : V3.cell? ⟨V2.heap.size, 3, none⟩ = some (.int .i64 h) := cell_of_row _ _ _ _ _ _ X1.out
  have X1_4 : V3.cell? ⟨V2.heap.size, 4, none⟩ = some (.int .i64 i) := cell_of_row _ _ _ _ _ _ X1.out
  have X1_5 : V3.cell? ⟨V2.heap.size, 5, none⟩ = some (.int .i64 s) := cell_of_row _ _ _ _ _ _ X1.out
  have X1_6 : V3.cell? ⟨V2.heap.size, 6, none⟩ = some (.int .i64 n) := cell_of_row _ _ _ _ _ _ X1.out
  have zA1 := lt_of_heap A1.out
  have zC1 := lt_of_heap C1.out
  have zD1 := lt_of_heap D1.out
  have zX1 := lt_of_heap X1.out
  go_simp
  go_wp2_with fail
  refine (HK.out _ (by first | exact tb_keep hM (B3.out) | exact tb_keep hM ((B3.out).alloc (B3.out.size) _) | exact tb_keep hM (((B3.out).alloc (B3.out.size) _).alloc (by have := B3.out.size; simp <;> omega) _) | exact tb_keep hM ((((B3.out).alloc (B3.out.size) _).alloc (by have := B3.out.size; simp <;> omega) _).alloc (by have := B3.out.size; simp <;> omega) _))).mono ?_
  rintro e V4 ⟨rfl, hb4⟩
  clear A1_0 A1_1 A1_2 A1_3 A1_4 A1_5 A1_6 zA1 C1_0 C1_1 C1_2 C1_3 C1_4 C1_5 C1_6 zC1 D1_0 D1_1 zD1 X1_0 X1_1 X1_2 X1_3 X1_4 X1_5 X1_6 zX1
  have B4 : Hid (Below w.heap.size w V4) := by first | exact Lib.hid ((B3.out).trans (hb4.mono (by have := B3.out.size; first | assumption | (simp <;> omega) | (simp; done)))) | exact Lib.hid (((B3.out).alloc (B3.out.size) _).trans (hb4.mono (by have := B3.out.size; first | assumption | (simp <;> omega) | (simp; done)))) | exact Lib.hid ((((B3.out).alloc (B3.out.size) _).alloc (by have := B3.out.size; simp <;> omega) _).trans (hb4.mono (by have := B3.out.size; first | assumption | (simp <;> omega) | (simp; done)))) | exact Lib.hid (((((B3.out).alloc (B3.out.size) _).alloc (by have := B3.out.size; simp <;> omega) _).alloc (by have := B3.out.size; simp <;> omega) _).trans (hb4.mono (by have := B3.out.size; first | assumption | (simp <;> omega) | (simp; done))))
  first | replace A1 := Lib.hid (row_call hb4 A1.out) | replace A1 := Lib.hid (row_call hb4 (row_alloc A1.out _)) | replace A1 := Lib.hid (row_call hb4 (row_alloc (row_alloc A1.out _) _)) | replace A1 := Lib.hid (row_call hb4 (row_alloc (row_alloc (row_alloc A1.out _) _) _))
  first | replace C1 := Lib.hid (row_call hb4 C1.out) | replace C1 := Lib.hid (row_call hb4 (row_alloc C1.out _)) | replace C1 := Lib.hid (row_call hb4 (row_alloc (row_alloc C1.out _) _)) | replace C1 := Lib.hid (row_call hb4 (row_alloc (row_alloc (row_alloc C1.out _) _) _))
  first | replace D1 := Lib.hid (row_call hb4 D1.out) | replace D1 := Lib.hid (row_call hb4 (row_alloc D1.out _)) | replace D1 := Lib.hid (row_call hb4 (row_alloc (row_alloc D1.out _) _)) | replace D1 := Lib.hid (row_call hb4 (row_alloc (row_alloc (row_alloc D1.out _) _) _))
  first | replace X1 := Lib.hid (row_call hb4 X1.out) | replace X1 := Lib.hid (row_call hb4 (row_alloc X1.out _)) | replace X1 := Lib.hid (row_call hb4 (row_alloc (row_alloc X1.out _) _)) | replace X1 := Lib.hid (row_call hb4 (row_alloc (row_alloc (row_alloc X1.out _) _) _))
  clear hb4
  have A1_0 : V4.cell? ⟨w.heap.size, 0, none⟩ = some (.int .i64 y) := cell_of_row _ _ _ _ _ _ A1.out
  have A1_1 : V4.cell? ⟨w.heap.size, 1, none⟩ = some (.int .i64 m) := cell_of_row _ _ _ _ _ _ A1.out
  have A1_2 : V4.cell? ⟨w.heap.size, 2, none⟩ = some (.int .i64 d) := cell_of_row _ _ _ _ _ _ A1.out
  have A1_3 : V4.cell? ⟨w.heap.size, 3, none⟩ = some (.int .i64 h) := cell_of_row _ _ _ _ _ _ A1.out
  have A1_4 : V4.cell? ⟨w.heap.size, 4, none⟩ = some (.int .i64 i) := cell_of_row _ _ _ _ _ _ A1.out
  have A1_5 : V4.cell? ⟨w.heap.size, 5, none⟩ = some (.int .i64 s) := cell_of_row _ _ _ _ _ _ A1.out
  have A1_6 : V4.cell? ⟨w.heap.size, 6, none⟩ = some (.int .i64 n) := cell_of_row _ _ _ _ _ _ A1.out
  have C1_0 : V4.cell? ⟨w.heap.size + 1, 0, none⟩ = some (.int .i64 y') := cell_of_row _ _ _ _ _ _ C1.out
  have C1_1 : V4.cell? ⟨w.heap.size + 1, 1, none⟩ = some (.int .i64 m') := cell_of_row _ _ _ _ _ _ C1.out
  have C1_2 : V4.cell? ⟨w.heap.size + 1, 2, none⟩ = some (.int .i64 d') := cell_of_row _ _ _ _ _ _ C1.out
  have C1_3 : V4.cell? ⟨w.heap.size + 1, 3, none⟩ = some (.int .i64 h') := cell_of_row _ _ _ _ _ _ C1.out
  have C1_4 : V4.cell? ⟨w.heap.size + 1, 4, none⟩ = some (.int .i64 i') := cell_of_row _ _ _ _ _ _ C1.out
  have C1_5 : V4.cell? ⟨w.heap.size + 1, 5, none⟩ = some (.int .i64 s') := cell_of_row _ _ _ _ _ _ C1.out
  have C1_6 : V4.cell? ⟨w.heap.size + 1, 6, none⟩ = some (.int .i64 n') := cell_of_row _ _ _ _ _ _ C1.out
  have D1_0 : V4.cell? ⟨V1.heap.size, 0, none⟩ = some (.int .i64 0) := cell_of_row _ _ _ _ _ _ D1.out
  have D1_1 : V4.cell? ⟨V1.heap.size, 1, none⟩ = some (.int .i64 0) := cell_of_row _ _ _ _ _ _ D1.out
  have X1_0 : V4.cell? ⟨V2.heap.size, 0, none⟩ = some (.int .i64 y) := cell_of_row _ _ _ _ _ _ X1.out
  have X1_1 : V4.cell? ⟨V2.heap.size, 1, none⟩ = some (.int .i64 m) := cell_of_row _ _ _ _ _ _ X1.out
  have X1_2 : V4.cell? ⟨V2.heap.size, 2, none⟩ = some (.int .i64 d) := cell_of_row _ _ _ _ _ _ X1.out
  have X1_3 : V4.cell? ⟨V2.heap.size, 3, none⟩ = some (.int .i64 h) := cell_of_row _ _ _ _ _ _ X1.out
  have X1_4 : V4.cell? ⟨V2.heap.size, 4, none⟩ = some (.int .i64 i) := cell_of_row _ _ _ _ _ _ X1.out
  have X1_5 : V4.cell? ⟨V2.heap.size, 5, none⟩ = some (.int .i64 s) := cell_of_row _ _ _ _ _ _ X1.out
  have X1_6 : V4.cell? ⟨V2.heap.size, 6, none⟩ = some (.int .i64 n) := cell_of_row _ _ _ _ _ _ X1.out
  have zA1 := lt_of_heap A1.out
  have zC1 := lt_of_heap C1.out
  have zD1 := lt_of_heap D1.out
  have zX1 := lt_of_heap X1.out
  go_simp
  go_wp2
  go_ret
  exact ⟨rfl, by first | exact B4.out | exact B4.out.alloc B4.out.size _⟩
set_option maxHeartbeats 3200000 in
set_option maxRecDepth 100000 in
theorem civiltimeWays_walk (y m d h i s n y' m' d' h' i' s' n' : Int) (w : World) (hM : TB w) :
    Calls Tryd.prog 6 #[.agg #[.int .i64 y, .int .i64 m, .int .i64 d, .int .i64 h, .int .i64 i, .int .i64 s, .int .i64 n], .agg #[.int .i64 y', .int .i64 m', .int .i64 d', .int .i64 h', .int .i64 i', .int .i64 s', .int .i64 n']] w fun e w' => e = .returned (.bool true) ∧ Below w.heap.size w w' := by
  have X1 := ptSub_is y m d h i s n y' m' d' h' i' s' n'
  by_cases hu : utE y m d h i s n y' m' d' h' i' s' n' = 0
  · obtain ⟨u1, u2, u3, u4, u5, u6, u7⟩ := ways_num hu
    rw [u1, u2, hu] at X1
    obtain ⟨b1, b2⟩ := sb_64 (nuT y m d h i s) n (nuT y' m' d' h' i' s') n'
    have X2 := ptAdd_is u3 b1 b2
    have X3 := ptCmp_any y m d h i s n y' m' d' h' i' s' n'
    clear u1 u2 u3 b1 b2 hu
    generalize sbS (nuT y m d h i s) n (nuT y' m' d' h' i' s') n' = S at *
    generalize sbN (nuT y m d h i s) n (nuT y' m' d' h' i' s') n' = N at *
    by_cases h1 : S < 0
    · rw [u5 h1] at X3
      exact cw_neg y m d h i s n y' m' d' h' i' s' n' S N h1 (Lib.hid X1) (Lib.hid X2) (Lib.hid X3) w hM
    · by_cases h2 : 0 < S
      · rw [u6 (by omega) (by omega)] at X3
        exact cw_pos y m d h i s n y' m' d' h' i' s' n' S N h2 (Lib.hid X1) (Lib.hid X2) (Lib.hid X3) w hM
      · obtain rfl : S = 0 := by omega
        by_cases h3 : 0 < N
        · rw [u6 (by omega) (by omega)] at X3
          exact cw_nano y m d h i s n y' m' d' h' i' s' n' 0 N h3 (Lib.hid X1) (Lib.hid X2) (Lib.hid X3) w hM
        · obtain rfl : N = 0 := by omega
          rw [u7 rfl rfl] at X3
          exact cw_same y m d h i s n y' m' d' h' i' s' n' 0 0 (by decide) (Lib.hid X1) (Lib.hid X2) (Lib.hid X3) w hM
  · have e : utS y m d h i s n y' m' d' h' i' s' n' = 0 ∧ utN y m d h i s n y' m' d' h' i' s' n' = 0 := ⟨if_neg hu, if_neg hu⟩
    rw [e.1, e.2] at X1
    have H1 := Lib.hid X1
    have HK := Lib.hid awake9_any
    clear X1 e
    generalize utE y m d h i s n y' m' d' h' i' s' n' = E at *
    have f1 : (E != 0) = true := by rw [bne_iff_ne]; exact hu
    replace hM := Lib.hid hM
    go_enter Tryd.func6, Tryd.ntmps6
    go_wp2_with fail
    
    refine (H1.out _ (by first | exact tb_keep hM (((Below.refl w.heap.size w).alloc (Nat.le_refl _) _).alloc (by simp <;> omega) _))).mono ?_
    rintro e V1 ⟨rfl, hb1⟩
    have B1 := Lib.hid ((((Below.refl w.heap.size w).alloc (Nat.le_refl _) _).alloc (by simp <;> omega) _).trans (hb1.mono (by first | assumption | (simp <;> omega) | (simp; done))))
    have A1 := Lib.hid (row_call hb1 (row_alloc (heap_alloc_new _ _) _))
    have C1 := Lib.hid (row_at (k' := w.heap.size + 1) (by simp) (row_call hb1 (heap_alloc_new _ _)))
    clear hb1
    have A1_0 : V1.cell? ⟨w.heap.size, 0, none⟩ = some (.int .i64 y) := cell_of_row _ _ _ _ _ _ A1.out
    have A1_1 : V1.cell? ⟨w.heap.size, 1, none⟩ = some (.int .i64 m) := cell_of_row _ _ _ _ _ _ A1.out
    have A1_2 : V1.cell? ⟨w.heap.size, 2, none⟩ = some (.int .i64 d) := cell_of_row _ _ _ _ _ _ A1.out
    have A1_3 : V1.cell? ⟨w.heap.size, 3, none⟩ = some (.int .i64 h) := cell_of_row _ _ _ _ _ _ A1.out
    have A1_4 : V1.cell? ⟨w.heap.size, 4, none⟩ = some (.int .i64 i) := cell_of_row _ _ _ _ _ _ A1.out
    have A1_5 : V1.cell? ⟨w.heap.size, 5, none⟩ = some (.int .i64 s) := cell_of_row _ _ _ _ _ _ A1.out
    have A1_6 : V1.cell? ⟨w.heap.size, 6, none⟩ = some (.int .i64 n) := cell_of_row _ _ _ _ _ _ A1.out
    have C1_0 : V1.cell? ⟨w.heap.size + 1, 0, none⟩ = some (.int .i64 y') := cell_of_row _ _ _ _ _ _ C1.out
    have C1_1 : V1.cell? ⟨w.heap.size + 1, 1, none⟩ = some (.int .i64 m') := cell_of_row _ _ _ _ _ _ C1.out
    have C1_2 : V1.cell? ⟨w.heap.size + 1, 2, none⟩ = some (.int .i64 d') := cell_of_row _ _ _ _ _ _ C1.out
    have C1_3 : V1.cell? ⟨w.heap.size + 1, 3, none⟩ = some (.int .i64 h') := cell_of_row _ _ _ _ _ _ C1.out
    have C1_4 : V1.cell? ⟨w.heap.size + 1, 4, none⟩ = some (.int .i64 i') := cell_of_row _ _ _ _ _ _ C1.out
    have C1_5 : V1.cell? ⟨w.heap.size + 1, 5, none⟩ = some (.int .i64 s') := cell_of_row _ _ _ _ _ _ C1.out
    have C1_6 : V1.cell? ⟨w.heap.size + 1, 6, none⟩ = some (.int .i64 n') := cell_of_row _ _ _ _ _ _ C1.out
    have zA1 := lt_of_heap A1.out
    have zC1 := lt_of_heap C1.out
    go_simp
    go_wp2_with fail
    refine (HK.out _ (by first | exact tb_keep hM ((B1.out).alloc (B1.out.size) _))).mono ?_
    rintro e V2 ⟨rfl, hb2⟩
    clear A1_0 A1_1 A1_2 A1_3 A1_4 A1_5 A1_6 zA1 C1_0 C1_1 C1_2 C1_3 C1_4 C1_5 C1_6 zC1
    have nA1D1 := Lib.hid (lt_of_heap A1.out)
    have nC1D1 := Lib.hid (lt_of_heap C1.out)
    have B2 := Lib.hid (((B1.out).alloc (B1.out.size) _).trans (hb2.mono (by have := B1.out.size; first | assumption | (simp <;> omega) | (simp; done))))
    replace A1 := Lib.hid (row_call hb2 (row_alloc A1.out _))
    replace C1 := Lib.hid (row_call hb2 (row_alloc C1.out _))
    have D1 := Lib.hid (row_call hb2 (heap_alloc_new _ _))
    clear hb2
    have A1_0 : V2.cell? ⟨w.heap.size, 0, none⟩ = some (.int .i64 y) := cell_of_row _ _ _ _ _ _ A1.out
    have A1_1 : V2.cell? ⟨w.heap.size, 1, none⟩ = some (.int .i64 m) := cell_of_row _ _ _ _ _ _ A1.out
    have A1_2 : V2.cell? ⟨w.heap.size, 2, none⟩ = some (.int .i64 d) := cell_of_row _ _ _ _ _ _ A1.out
    have A1_3 : V2.cell? ⟨w.heap.size, 3, none⟩ = some (.int .i64 h) := cell_of_row _ _ _ _ _ _ A1.out
    have A1_4 : V2.cell? ⟨w.heap.size, 4, none⟩ = some (.int .i64 i) := cell_of_row _ _ _ _ _ _ A1.out
    have A1_5 : V2.cell? ⟨w.heap.size, 5, none⟩ = some (.int .i64 s) := cell_of_row _ _ _ _ _ _ A1.out
    have A1_6 : V2.cell? ⟨w.heap.size, 6, none⟩ = some (.int .i64 n) := cell_of_row _ _ _ _ _ _ A1.out
    have C1_0 : V2.cell? ⟨w.heap.size + 1, 0, none⟩ = some (.int .i64 y') := cell_of_row _ _ _ _ _ _ C1.out
    have C1_1 : V2.cell? ⟨w.heap.size + 1, 1, none⟩ = some (.int .i64 m') := cell_of_row _ _ _ _ _ _ C1.out
    have C1_2 : V2.cell? ⟨w.heap.size + 1, 2, none⟩ = some (.int .i64 d') := cell_of_row _ _ _ _ _ _ C1.out
    have C1_3 : V2.cell? ⟨w.heap.size + 1, 3, none⟩ = some (.int .i64 h') := cell_of_row _ _ _ _ _ _ C1.out
    have C1_4 : V2.cell? ⟨w.heap.size + 1, 4, none⟩ = some (.int .i64 i') := cell_of_row _ _ _ _ _ _ C1.out
    have C1_5 : V2.cell? ⟨w.heap.size + 1, 5, none⟩ = some (.int .i64 s') := cell_of_row _ _ _ _ _ _ C1.out
    have C1_6 : V2.cell? ⟨w.heap.size + 1, 6, none⟩ = some (.int .i64 n') := cell_of_row _ _ _ _ _ _ C1.out
    have D1_0 : V2.cell? ⟨V1.heap.size, 0, none⟩ = some (.int .i64 0) := cell_of_row _ _ _ _ _ _ D1.out
    have D1_1 : V2.cell? ⟨V1.heap.size, 1, none⟩ = some (.int .i64 0) := cell_of_row _ _ _ _ _ _ D1.out
    have zA1 := lt_of_heap A1.out
    have zC1 := lt_of_heap C1.out
    have zD1 := lt_of_heap D1.out
    go_simp
    go_wp2
    go_ret
    exact ⟨rfl, by first | exact B2.out | exact B2.out.alloc B2.out.size _⟩
end Go.Proofs.YtaoljjhhbmblhaaDoor
