/- Several texts in one: MoL. -/
import Derived.Test.YtacepnmagdpecaaDoorZRef1
import Derived.Test.YtacepnmagdpecaaDoorZMo2
namespace Go.Proofs.YtacepnmagdpecaaDoor
set_option linter.unusedVariables false
set_option linter.unusedSimpArgs false
open Go.ChangeShapes Go.WideShapes Go.ChangeAt Go.RowKit
theorem ex_mo1 : moE 2024 1 31 1 0 = 0 ∧ moY 2024 1 1 = 2024 ∧ moM 2024 1 1 = 2 ∧ moD 2024 1 31 1 = 29 := by decide +kernel
theorem ex_mo2 : moE 2023 1 31 1 1 = 7 ∧ moE 9999 12 31 1 1 = 8 ∧ ckC 2024 2 3 = 0 ∧ mdI 2024 2 = 29 := by decide +kernel
set_option maxHeartbeats 3200000 in
set_option maxRecDepth 100000 in
theorem awake11_any (w : World) (hM : MD w) : Calls Tryd.prog 9 #[] w fun e w' => e = .returned (.bool true) ∧ Below w.heap.size w w' := by
  have X1 := pmAdd_all 2024 1 31 1 0 (by unfold in64; decide)
  rw [ex_mo1.1, ex_mo1.2.1, ex_mo1.2.2.1, ex_mo1.2.2.2, zvI_ok, zvI_ok, zvI_ok] at X1
  have X2 := pmAdd_all 2023 1 31 1 1 (by unfold in64; decide)
  rw [ex_mo2.1, zvI_no (by decide), zvI_no (by decide), zvI_no (by decide)] at X2
  have X3 := pmAdd_all 9999 12 31 1 1 (by unfold in64; decide)
  rw [ex_mo2.2.1, zvI_no (by decide), zvI_no (by decide), zvI_no (by decide)] at X3
  have X4 := pmLast_any 2024 2 3 ex_mo2.2.2.1
  rw [ex_mo2.2.2.2] at X4
  have H1 := Lib.hid X1
  have H2 := Lib.hid X2
  have H3 := Lib.hid X3
  have H4 := Lib.hid X4
  have H5 := Lib.hid pmPlus_ex
  clear X1 X2 X3 X4
  replace hM := Lib.hid hM
  go_enter Tryd.func9, Tryd.ntmps9
  go_wp2_with fail
  
  refine (H1.out _ (by first | exact md_keep hM (Below.refl w.heap.size w) | exact md_keep hM ((Below.refl w.heap.size w).alloc (Nat.le_refl _) _) | exact md_keep hM (((Below.refl w.heap.size w).alloc (Nat.le_refl _) _).alloc (by simp <;> omega) _) | exact md_keep hM ((((Below.refl w.heap.size w).alloc (Nat.le_refl _) _).alloc (by simp <;> omega) _).alloc (by simp <;> omega) _))).mono ?_
  rintro e V1 ⟨rfl, hb1⟩
  have B1 : Hid (Below w.heap.size w V1) := by first | exact Lib.hid ((Below.refl w.heap.size w).trans (hb1.mono (by first | assumption | (simp <;> omega) | (simp; done)))) | exact Lib.hid (((Below.refl w.heap.size w).alloc (Nat.le_refl _) _).trans (hb1.mono (by first | assumption | (simp <;> omega) | (simp; done)))) | exact Lib.hid ((((Below.refl w.heap.size w).alloc (Nat.le_refl _) _).alloc (by simp <;> omega) _).trans (hb1.mono (by first | assumption | (simp <;> omega) | (simp; done)))) | exact Lib.hid (((((Below.refl w.heap.size w).alloc (Nat.le_refl _) _).alloc (by simp <;> omega) _).alloc (by simp <;> omega) _).trans (hb1.mono (by first | assumption | (simp <;> omega) | (simp; done))))
  clear hb1
  go_simp
  go_wp2_with fail
  refine (H2.out _ (by first | exact md_keep hM ((B1.out).alloc (B1.out.size) _))).mono ?_
  rintro e V2 ⟨rfl, hb2⟩
  have B2 := Lib.hid (((B1.out).alloc (B1.out.size) _).trans (hb2.mono (by have := B1.out.size; first | assumption | (simp <;> omega) | (simp; done))))
  have X1 := Lib.hid (row_call hb2 (heap_alloc_new _ _))
  clear hb2
  have X1_0 : V2.cell? ⟨V1.heap.size, 0, none⟩ = some (.int .i64 2024) := cell_of_row _ _ _ _ _ _ X1.out
  have X1_1 : V2.cell? ⟨V1.heap.size, 1, none⟩ = some (.int .i64 2) := cell_of_row _ _ _ _ _ _ X1.out
  have X1_2 : V2.cell? ⟨V1.heap.size, 2, none⟩ = some (.int .i64 29) := cell_of_row _ _ _ _ _ _ X1.out
  have zX1 := lt_of_heap X1.out
  go_simp
  go_wp2_with fail
  refine (H5.out _ (by first | exact md_keep hM (B2.out) | exact md_keep hM ((B2.out).alloc (B2.out.size) _) | exact md_keep hM (((B2.out).alloc (B2.out.size) _).alloc (by have := B2.out.size; simp <;> omega) _) | exact md_keep hM ((((B2.out).alloc (B2.out.size) _).alloc (by have := B2.out.size; simp <;> omega) _).alloc (by have := B2.out.size; simp <;> omega) _))).mono ?_
  rintro e V3 ⟨rfl, hb3⟩
  clear X1_0 X1_1 X1_2 zX1
  have B3 : Hid (Below w.heap.size w V3) := by first | exact Lib.hid ((B2.out).trans (hb3.mono (by have := B2.out.size; first | assumption | (simp <;> omega) | (simp; done)))) | exact Lib.hid (((B2.out).alloc (B2.out.size) _).trans (hb3.mono (by have := B2.out.size; first | assumption | (simp <;> omega) | (simp; done)))) | exact Lib.hid ((((B2.out).alloc (B2.out.size) _).alloc (by have := B2.out.size; simp <;> omega) _).trans (hb3.mono (by have := B2.out.size; first | assumption | (simp <;> omega) | (simp; done)))) | exact Lib.hid (((((B2.out).alloc (B2.out.size) _).alloc (by have := B2.out.size; simp <;> omega) _).alloc (by have := B2.out.size; simp <;> omega) _).trans (hb3.mono (by have := B2.out.size; first | assumption | (simp <;> omega) | (simp; done))))
  first | replace X1 := Lib.hid (row_call hb3 X1.out) | replace X1 := Lib.hid (row_call hb3 (row_alloc X1.out _)) | replace X1 := Lib.hid (row_call hb3 (row_alloc (row_alloc X1.out _) _)) | replace X1 := Lib.hid (row_call hb3 (row_alloc (row_alloc (row_alloc X1.out _) _) _))
  clear hb3
  have X1_0 : V3.cell? ⟨V1.heap.size, 0, none⟩ = some (.int .i64 2024) := cell_of_row _ _ _ _ _ _ X1.out
  have X1_1 : V3.cell? ⟨V1.heap.size, 1, none⟩ = some (.int .i64 2) := cell_of_row _ _ _ _ _ _ X1.out
  have X1_2 : V3.cell? ⟨V1.heap.size, 2, none⟩ = some (.int .i64 29) := cell_of_row _ _ _ _ _ _ X1.out
  have zX1 := lt_of_heap X1.out
  go_simp
  go_wp2_with fail
  refine (H3.out _ (by first | exact md_keep hM ((B3.out).alloc (B3.out.size) _))).mono ?_
  rintro e V4 ⟨rfl, hb4⟩
  clear X1_0 X1_1 X1_2 zX1
  have nX1Y1 := Lib.hid (lt_of_heap X1.out)
  have B4 := Lib.hid (((B3.out).alloc (B3.out.size) _).trans (hb4.mono (by have := B3.out.size; first | assumption | (simp <;> omega) | (simp; done))))
  replace X1 := Lib.hid (row_call hb4 (row_alloc X1.out _))
  have Y1 := Lib.hid (row_call hb4 (heap_alloc_new _ _))
  clear hb4
  have X1_0 : V4.cell? ⟨V1.heap.size, 0, none⟩ = some (.int .i64 2024) := cell_of_row _ _ _ _ _ _ X1.out
  have X1_1 : V4.cell? ⟨V1.heap.size, 1, none⟩ = some (.int .i64 2) := cell_of_row _ _ _ _ _ _ X1.out
  have X1_2 : V4.cell? ⟨V1.heap.size, 2, none⟩ = some (.int .i64 29) := cell_of_row _ _ _ _ _ _ X1.out
  have Y1_0 : V4.cell? ⟨V3.heap.size, 0, none⟩ = some (.int .i64 2024) := cell_of_row _ _ _ _ _ _ Y1.out
  have Y1_1 : V4.cell? ⟨V3.heap.size, 1, none⟩ = some (.int .i64 3) := cell_of_row _ _ _ _ _ _ Y1.out
  have Y1_2 : V4.cell? ⟨V3.heap.size, 2, none⟩ = some (.int .i64 1) := cell_of_row _ _ _ _ _ _ Y1.out
  have zX1 := lt_of_heap X1.out
  have zY1 := lt_of_heap Y1.out
  go_simp
  go_wp2_with fail
  refine (H4.out _ (by first | exact md_keep hM (B4.out) | exact md_keep hM ((B4.out).alloc (B4.out.size) _) | exact md_keep hM (((B4.out).alloc (B4.out.size) _).alloc (by have := B4.out.size; simp <;> omega) _) | exact md_keep hM ((((B4.out).alloc (B4.out.size) _).alloc (by have := B4.out.size; simp <;> omega) _).alloc (by have := B4.out.size; simp <;> omega) _))).mono ?_
  rintro e V5 ⟨rfl, hb5⟩
  clear X1_0 X1_1 X1_2 zX1 Y1_0 Y1_1 Y1_2 zY1
  have B5 : Hid (Below w.heap.size w V5) := by first | exact Lib.hid ((B4.out).trans (hb5.mono (by have := B4.out.size; first | assumption | (simp <;> omega) | (simp; done)))) | exact Lib.hid (((B4.out).alloc (B4.out.size) _).trans (hb5.mono (by have := B4.out.size; first | assumption | (simp <;> omega) | (simp; done)))) | exact Lib.hid ((((B4.out).alloc (B4.out.size) _).alloc (by have := B4.out.size; simp <;> omega) _).trans (hb5.mono (by have := B4.out.size; first | assumption | (simp <;> omega) | (simp; done)))) | exact Lib.hid (((((B4.out).alloc (B4.out.size) _).alloc (by have := B4.out.size; simp <;> omega) _).alloc (by have := B4.out.size; simp <;> omega) _).trans (hb5.mono (by have := B4.out.size; first | assumption | (simp <;> omega) | (simp; done))))
  first | replace X1 := Lib.hid (row_call hb5 X1.out) | replace X1 := Lib.hid (row_call hb5 (row_alloc X1.out _)) | replace X1 := Lib.hid (row_call hb5 (row_alloc (row_alloc X1.out _) _)) | replace X1 := Lib.hid (row_call hb5 (row_alloc (row_alloc (row_alloc X1.out _) _) _))
  first | replace Y1 := Lib.hid (row_call hb5 Y1.out) | replace Y1 := Lib.hid (row_call hb5 (row_alloc Y1.out _)) | replace Y1 := Lib.hid (row_call hb5 (row_alloc (row_alloc Y1.out _) _)) | replace Y1 := Lib.hid (row_call hb5 (row_alloc (row_alloc (row_alloc Y1.out _) _) _))
  clear hb5
  have X1_0 : V5.cell? ⟨V1.heap.size, 0, none⟩ = some (.int .i64 2024) := cell_of_row _ _ _ _ _ _ X1.out
  have X1_1 : V5.cell? ⟨V1.heap.size, 1, none⟩ = some (.int .i64 2) := cell_of_row _ _ _ _ _ _ X1.out
  have X1_2 : V5.cell? ⟨V1.heap.size, 2, none⟩ = some (.int .i64 29) := cell_of_row _ _ _ _ _ _ X1.out
  have Y1_0 : V5.cell? ⟨V3.heap.size, 0, none⟩ = some (.int .i64 2024) := cell_of_row _ _ _ _ _ _ Y1.out
  have Y1_1 : V5.cell? ⟨V3.heap.size, 1, none⟩ = some (.int .i64 3) := cell_of_row _ _ _ _ _ _ Y1.out
  have Y1_2 : V5.cell? ⟨V3.heap.size, 2, none⟩ = some (.int .i64 1) := cell_of_row _ _ _ _ _ _ Y1.out
  have zX1 := lt_of_heap X1.out
  have zY1 := lt_of_heap Y1.out
  go_simp
  go_wp2
  go_ret
  exact ⟨rfl, by first | exact B5.out | exact B5.out.alloc B5.out.size _⟩
set_option maxHeartbeats 3200000 in
set_option maxRecDepth 100000 in
theorem monthsAdds_walk (y m d n p : Int) (bn : in64 n) (w : World) (hM : MD w) : Calls Tryd.prog 3 #[.agg #[.int .i64 y, .int .i64 m, .int .i64 d], .int .i64 n, .int .i64 p] w fun e w' => e = .returned (.bool true) ∧ Below w.heap.size w w' := by
  have H1 := Lib.hid (pmAdd_all y m d n p bn)
  have H2 := Lib.hid (rmAdd_all y m d n p bn)
  have HK := Lib.hid awake11_any
  generalize zvI (moE y m d n p) (moY y m n) = a at *
  generalize zvI (moE y m d n p) (moM y m n) = b at *
  generalize zvI (moE y m d n p) (moD y m d n) = c at *
  generalize moE y m d n p = E at *
  clear bn
  replace hM := Lib.hid hM
  go_enter Tryd.func3, Tryd.ntmps3
  go_wp2_with fail
  
  refine (H1.out _ (by first | exact md_keep hM ((Below.refl w.heap.size w).alloc (Nat.le_refl _) _))).mono ?_
  rintro e V1 ⟨rfl, hb1⟩
  have B1 := Lib.hid (((Below.refl w.heap.size w).alloc (Nat.le_refl _) _).trans (hb1.mono (by first | assumption | (simp <;> omega) | (simp; done))))
  have A1 := Lib.hid (row_call hb1 (heap_alloc_new _ _))
  clear hb1
  have A1_0 : V1.cell? ⟨w.heap.size, 0, none⟩ = some (.int .i64 y) := cell_of_row _ _ _ _ _ _ A1.out
  have A1_1 : V1.cell? ⟨w.heap.size, 1, none⟩ = some (.int .i64 m) := cell_of_row _ _ _ _ _ _ A1.out
  have A1_2 : V1.cell? ⟨w.heap.size, 2, none⟩ = some (.int .i64 d) := cell_of_row _ _ _ _ _ _ A1.out
  have zA1 := lt_of_heap A1.out
  go_simp
  go_wp2_with fail
  refine (H2.out _).mono ?_
  rintro e V2 ⟨rfl, hb2⟩
  clear A1_0 A1_1 A1_2 zA1
  have nA1X1 := Lib.hid (lt_of_heap A1.out)
  have B2 := Lib.hid (((B1.out).alloc (B1.out.size) _).trans (hb2.mono (by have := B1.out.size; first | assumption | (simp <;> omega) | (simp; done))))
  replace A1 := Lib.hid (row_call hb2 (row_alloc A1.out _))
  have X1 := Lib.hid (row_call hb2 (heap_alloc_new _ _))
  clear hb2
  have A1_0 : V2.cell? ⟨w.heap.size, 0, none⟩ = some (.int .i64 y) := cell_of_row _ _ _ _ _ _ A1.out
  have A1_1 : V2.cell? ⟨w.heap.size, 1, none⟩ = some (.int .i64 m) := cell_of_row _ _ _ _ _ _ A1.out
  have A1_2 : V2.cell? ⟨w.heap.size, 2, none⟩ = some (.int .i64 d) := cell_of_row _ _ _ _ _ _ A1.out
  have X1_0 : V2.cell? ⟨V1.heap.size, 0, none⟩ = some (.int .i64 a) := cell_of_row _ _ _ _ _ _ X1.out
  have X1_1 : V2.cell? ⟨V1.heap.size, 1, none⟩ = some (.int .i64 b) := cell_of_row _ _ _ _ _ _ X1.out
  have X1_2 : V2.cell? ⟨V1.heap.size, 2, none⟩ = some (.int .i64 c) := cell_of_row _ _ _ _ _ _ X1.out
  have zA1 := lt_of_heap A1.out
  have zX1 := lt_of_heap X1.out
  go_simp
  go_wp2_with fail
  refine (HK.out _ (by first | exact md_keep hM ((B2.out).alloc (B2.out.size) _))).mono ?_
  rintro e V3 ⟨rfl, hb3⟩
  clear A1_0 A1_1 A1_2 zA1 X1_0 X1_1 X1_2 zX1
  have nA1Y1 := Lib.hid (lt_of_heap A1.out)
  have nX1Y1 := Lib.hid (lt_of_heap X1.out)
  have B3 := Lib.hid (((B2.out).alloc (B2.out.size) _).trans (hb3.mono (by have := B2.out.size; first | assumption | (simp <;> omega) | (simp; done))))
  replace A1 := Lib.hid (row_call hb3 (row_alloc A1.out _))
  replace X1 := Lib.hid (row_call hb3 (row_alloc X1.out _))
  have Y1 := Lib.hid (row_call hb3 (heap_alloc_new _ _))
  clear hb3
  have A1_0 : V3.cell? ⟨w.heap.size, 0, none⟩ = some (.int .i64 y) := cell_of_row _ _ _ _ _ _ A1.out
  have A1_1 : V3.cell? ⟨w.heap.size, 1, none⟩ = some (.int .i64 m) := cell_of_row _ _ _ _ _ _ A1.out
  have A1_2 : V3.cell? ⟨w.heap.size, 2, none⟩ = some (.int .i64 d) := cell_of_row _ _ _ _ _ _ A1.out
  have X1_0 : V3.cell? ⟨V1.heap.size, 0, none⟩ = some (.int .i64 a) := cell_of_row _ _ _ _ _ _ X1.out
  have X1_1 : V3.cell? ⟨V1.heap.size, 1, none⟩ = some (.int .i64 b) := cell_of_row _ _ _ _ _ _ X1.out
  have X1_2 : V3.cell? ⟨V1.heap.size, 2, none⟩ = some (.int .i64 c) := cell_of_row _ _ _ _ _ _ X1.out
  have Y1_0 : V3.cell? ⟨V2.heap.size, 0, none⟩ = some (.int .i64 a) := cell_of_row _ _ _ _ _ _ Y1.out
  have Y1_1 : V3.cell? ⟨V2.heap.size, 1, none⟩ = some (.int .i64 b) := cell_of_row _ _ _ _ _ _ Y1.out
  have Y1_2 : V3.cell? ⟨V2.heap.size, 2, none⟩ = some (.int .i64 c) := cell_of_row _ _ _ _ _ _ Y1.out
  have zA1 := lt_of_heap A1.out
  have zX1 := lt_of_heap X1.out
  have zY1 := lt_of_heap Y1.out
  go_simp
  go_wp2
  go_ret
  exact ⟨rfl, by first | exact B3.out | exact B3.out.alloc B3.out.size _⟩
set_option maxHeartbeats 3200000 in
set_option maxRecDepth 100000 in
theorem monthsLasts_walk (y m d : Int) (w : World) (hM : MD w) : Calls Tryd.prog 4 #[.agg #[.int .i64 y, .int .i64 m, .int .i64 d]] w fun e w' => e = .returned (.bool true) ∧ Below w.heap.size w w' := by
  have HK := Lib.hid awake11_any
  have X2 := rCkC_any y m d
  by_cases hc : ckC y m d = 0
  · have H1 := Lib.hid (pmLast_any y m d hc)
    rw [hc] at X2
    have H2 := Lib.hid X2
    have H3 := Lib.hid (fun w => grow_of (rMonthDays_p y m w))
    clear X2 hc
    generalize mdI y m = c at *
    replace hM := Lib.hid hM
    go_enter Tryd.func4, Tryd.ntmps4
    go_wp2_with fail
    
    refine (H1.out _ (by first | exact md_keep hM ((Below.refl w.heap.size w).alloc (Nat.le_refl _) _))).mono ?_
    rintro e V1 ⟨rfl, hb1⟩
    have B1 := Lib.hid (((Below.refl w.heap.size w).alloc (Nat.le_refl _) _).trans (hb1.mono (by first | assumption | (simp <;> omega) | (simp; done))))
    have A1 := Lib.hid (row_call hb1 (heap_alloc_new _ _))
    clear hb1
    have A1_0 : V1.cell? ⟨w.heap.size, 0, none⟩ = some (.int .i64 y) := cell_of_row _ _ _ _ _ _ A1.out
    have A1_1 : V1.cell? ⟨w.heap.size, 1, none⟩ = some (.int .i64 m) := cell_of_row _ _ _ _ _ _ A1.out
    have A1_2 : V1.cell? ⟨w.heap.size, 2, none⟩ = some (.int .i64 d) := cell_of_row _ _ _ _ _ _ A1.out
    have zA1 := lt_of_heap A1.out
    go_simp
    go_wp2_with fail
    refine (H2.out _).mono ?_
    rintro e V2 ⟨rfl, hb2⟩
    clear A1_0 A1_1 A1_2 zA1
    have nA1X1 := Lib.hid (lt_of_heap A1.out)
    have B2 := Lib.hid (((B1.out).alloc (B1.out.size) _).trans (hb2.mono (by have := B1.out.size; first | assumption | (simp <;> omega) | (simp; done))))
    replace A1 := Lib.hid (row_call hb2 (row_alloc A1.out _))
    have X1 := Lib.hid (row_call hb2 (heap_alloc_new _ _))
    clear hb2
    have A1_0 : V2.cell? ⟨w.heap.size, 0, none⟩ = some (.int .i64 y) := cell_of_row _ _ _ _ _ _ A1.out
    have A1_1 : V2.cell? ⟨w.heap.size, 1, none⟩ = some (.int .i64 m) := cell_of_row _ _ _ _ _ _ A1.out
    have A1_2 : V2.cell? ⟨w.heap.size, 2, none⟩ = some (.int .i64 d) := cell_of_row _ _ _ _ _ _ A1.out
    have X1_0 : V2.cell? ⟨V1.heap.size, 0, none⟩ = some (.int .i64 y) := cell_of_row _ _ _ _ _ _ X1.out
    have X1_1 : V2.cell? ⟨V1.heap.size, 1, none⟩ = some (.int .i64 m) := cell_of_row _ _ _ _ _ _ X1.out
    have X1_2 : V2.cell? ⟨V1.heap.size, 2, none⟩ = some (.int .i64 c) := cell_of_row _ _ _ _ _ _ X1.out
    have zA1 := lt_of_heap A1.out
    have zX1 := lt_of_heap X1.out
    go_simp
    go_wp2_with fail
    obtain ⟨W0, hW0⟩ : ∃ W0, W0 = V2 := ⟨_, rfl⟩
    replace A1 := Lib.hid (row_by hW0 A1.out)
    replace X1 := Lib.hid (row_by hW0 X1.out)
    clear A1_0 A1_1 A1_2 zA1 X1_0 X1_1 X1_2 zX1
    have A1_0 : W0.cell? ⟨w.heap.size, 0, none⟩ = some (.int .i64 y) := cell_of_row _ _ _ _ _ _ A1.out
    have A1_1 : W0.cell? ⟨w.heap.size, 1, none⟩ = some (.int .i64 m) := cell_of_row _ _ _ _ _ _ A1.out
    have A1_2 : W0.cell? ⟨w.heap.size, 2, none⟩ = some (.int .i64 d) := cell_of_row _ _ _ _ _ _ A1.out
    have zA1 := lt_of_heap A1.out
    have X1_0 : W0.cell? ⟨V1.heap.size, 0, none⟩ = some (.int .i64 y) := cell_of_row _ _ _ _ _ _ X1.out
    have X1_1 : W0.cell? ⟨V1.heap.size, 1, none⟩ = some (.int .i64 m) := cell_of_row _ _ _ _ _ _ X1.out
    have X1_2 : W0.cell? ⟨V1.heap.size, 2, none⟩ = some (.int .i64 c) := cell_of_row _ _ _ _ _ _ X1.out
    have zX1 := lt_of_heap X1.out
    have HB0 := Lib.hid (below_by hW0 (B2.out))
    have zW0 := HB0.out.size
    have HW0 := Lib.hid hW0
    clear hW0
    try go_simp
    rw [← HW0.out]
    have hk0 : ∀ w2, Below W0.heap.size W0 w2 → w2.cell? ⟨w.heap.size, 0, none⟩ = some (.int .i64 y) := fun w2 hb => (by rw [hb.cell (p := ⟨w.heap.size, 0, none⟩) (by assumption)]; assumption)
    have hk1 : ∀ w2, Below W0.heap.size W0 w2 → w2.cell? ⟨w.heap.size, 1, none⟩ = some (.int .i64 m) := fun w2 hb => (by rw [hb.cell (p := ⟨w.heap.size, 1, none⟩) (by assumption)]; assumption)
    have hk2 : ∀ w2, Below W0.heap.size W0 w2 → w2.cell? ⟨w.heap.size, 2, none⟩ = some (.int .i64 d) := fun w2 hb => (by rw [hb.cell (p := ⟨w.heap.size, 2, none⟩) (by assumption)]; assumption)
    have hk3 : ∀ w2, Below W0.heap.size W0 w2 → w2.cell? ⟨V1.heap.size, 0, none⟩ = some (.int .i64 y) := fun w2 hb => (by rw [hb.cell (p := ⟨V1.heap.size, 0, none⟩) (by assumption)]; assumption)
    have hk4 : ∀ w2, Below W0.heap.size W0 w2 → w2.cell? ⟨V1.heap.size, 1, none⟩ = some (.int .i64 m) := fun w2 hb => (by rw [hb.cell (p := ⟨V1.heap.size, 1, none⟩) (by assumption)]; assumption)
    have hk5 : ∀ w2, Below W0.heap.size W0 w2 → w2.cell? ⟨V1.heap.size, 2, none⟩ = some (.int .i64 c) := fun w2 hb => (by rw [hb.cell (p := ⟨V1.heap.size, 2, none⟩) (by assumption)]; assumption)
    clear A1_0 A1_1 A1_2 X1_0 X1_1 X1_2
    refine region_plan (S := fun w2 => Below W0.heap.size W0 w2) [(0, true), (1, true), (2, true), (3, true), (4, true), (5, true), (6, true), (7, true), (8, true), (9, true), (10, true), (11, true), (12, false), (13, true), (14, true), (15, true), (16, true), (17, false), (18, true), (19, true)] (by as_aux_lemma => kernel_rfl) (by as_aux_lemma => kernel_rfl) (by as_aux_lemma => kernel_rfl) (by as_aux_lemma => kernel_rfl) (Below.refl W0.heap.size W0).drew ?_
    have Y0 := Lib.hid (Below.refl W0.heap.size W0).drew
    refine plan_yes (v := ?v1) (by simp only [List.getElem?_toArray, List.getElem?_cons_zero, List.getElem?_cons_succ]; exact rfl) (Or.inl ⟨by as_aux_lemma => rfl, ?hy1⟩) ?rest1
    case hy1 => (intro w2 hSw; (try dsimp only at hSw); go_simp; try with_reducible rfl)
    try simp only [Act.put, List.setIfInBounds_toArray, List.set_cons_zero, List.set_cons_succ]
    refine plan_yes (v := ?v2) (by simp only [List.getElem?_toArray, List.getElem?_cons_zero, List.getElem?_cons_succ]; exact rfl) (Or.inl ⟨by as_aux_lemma => rfl, ?hy2⟩) ?rest2
    case hy2 => (intro w2 hSw; (try dsimp only at hSw); go_simp; try with_reducible rfl)
    try simp only [Act.put, List.setIfInBounds_toArray, List.set_cons_zero, List.set_cons_succ]
    refine plan_yes (v := ?v3) (by simp only [List.getElem?_toArray, List.getElem?_cons_zero, List.getElem?_cons_succ]; exact rfl) (Or.inl ⟨by as_aux_lemma => rfl, ?hy3⟩) ?rest3
    case hy3 => (intro w2 hSw; (try dsimp only at hSw); go_simp; try with_reducible rfl)
    try simp only [Act.put, List.setIfInBounds_toArray, List.set_cons_zero, List.set_cons_succ]
    refine plan_yes (v := ?v4) (by simp only [List.getElem?_toArray, List.getElem?_cons_zero, List.getElem?_cons_succ]; exact rfl) (Or.inl ⟨by as_aux_lemma => rfl, ?hy4⟩) ?rest4
    case hy4 => (intro w2 hSw; (try dsimp only at hSw); go_simp; try with_reducible rfl)
    try simp only [Act.put, List.setIfInBounds_toArray, List.set_cons_zero, List.set_cons_succ]
    refine plan_yes (v := ?v5) (by simp only [List.getElem?_toArray, List.getElem?_cons_zero, List.getElem?_cons_succ]; exact rfl) (Or.inl ⟨by as_aux_lemma => rfl, ?hy5⟩) ?rest5
    case hy5 => (intro w2 hSw; (try dsimp only at hSw); go_simp; try with_reducible rfl)
    try simp only [Act.put, List.setIfInBounds_toArray, List.set_cons_zero, List.set_cons_succ]
    refine plan_yes (v := ?v6) (by simp only [List.getElem?_toArray, List.getElem?_cons_zero, List.getElem?_cons_succ]; exact rfl) (Or.inl ⟨by as_aux_lemma => rfl, ?hy6⟩) ?rest6
    case hy6 => (intro w2 hSw; (try dsimp only at hSw); go_simp; try with_reducible rfl)
    try simp only [Act.put, List.setIfInBounds_toArray, List.set_cons_zero, List.set_cons_succ]
    refine plan_yes (v := ?v7) (by simp only [List.getElem?_toArray, List.getElem?_cons_zero, List.getElem?_cons_succ]; exact rfl) (Or.inl ⟨by as_aux_lemma => rfl, ?hy7⟩) ?rest7
    case hy7 => (intro w2 hSw; (try dsimp only at hSw); go_simp; try with_reducible rfl)
    try simp only [Act.put, List.setIfInBounds_toArray, List.set_cons_zero, List.set_cons_succ]
    refine plan_yes (v := ?v8) (by simp only [List.getElem?_toArray, List.getElem?_cons_zero, List.getElem?_cons_succ]; exact rfl) (Or.inl ⟨by as_aux_lemma => rfl, ?hy8⟩) ?rest8
    case hy8 => (intro w2 hSw; (try dsimp only at hSw); go_simp; try with_reducible rfl)
    try simp only [Act.put, List.setIfInBounds_toArray, List.set_cons_zero, List.set_cons_succ]
    refine plan_yes (v := ?v9) (by simp only [List.getElem?_toArray, List.getElem?_cons_zero, List.getElem?_cons_succ]; exact rfl) (Or.inl ⟨by as_aux_lemma => rfl, ?hy9⟩) ?rest9
    case hy9 => (intro w2 hSw; (try dsimp only at hSw); go_simp; try with_reducible rfl)
    try simp only [Act.put, List.setIfInBounds_toArray, List.set_cons_zero, List.set_cons_succ]
    refine plan_yes (v := ?v10) (by simp only [List.getElem?_toArray, List.getElem?_cons_zero, List.getElem?_cons_succ]; exact rfl) (Or.inl ⟨by as_aux_lemma => rfl, ?hy10⟩) ?rest10
    case hy10 => (intro w2 hSw; (try dsimp only at hSw); go_simp; try with_reducible rfl)
    try simp only [Act.put, List.setIfInBounds_toArray, List.set_cons_zero, List.set_cons_succ]
    refine plan_yes (v := ?v11) (by simp only [List.getElem?_toArray, List.getElem?_cons_zero, List.getElem?_cons_succ]; exact rfl) (Or.inl ⟨by as_aux_lemma => rfl, ?hy11⟩) ?rest11
    case hy11 => (intro w2 hSw; (try dsimp only at hSw); go_simp; try with_reducible rfl)
    try simp only [Act.put, List.setIfInBounds_toArray, List.set_cons_zero, List.set_cons_succ]
    refine plan_yes (v := ?v12) (by simp only [List.getElem?_toArray, List.getElem?_cons_zero, List.getElem?_cons_succ]; exact rfl) (Or.inl ⟨by as_aux_lemma => rfl, ?hy12⟩) ?rest12
    case hy12 => (intro w2 hSw; (try dsimp only at hSw); go_simp; try with_reducible rfl)
    try simp only [Act.put, List.setIfInBounds_toArray, List.set_cons_zero, List.set_cons_succ]
    refine plan_calls (by simp only [List.getElem?_toArray, List.getElem?_cons_zero, List.getElem?_cons_succ]; exact rfl) (by as_aux_lemma => rfl) (fun K hK => ?_)
    go_simp
    refine (H3.out _).mono ?_
    rintro e Y1w ⟨rfl, hb1⟩
    have Y1 := Lib.hid (keepS (W0 := W0) Y0.out hb1)
    clear hb1
    refine hK.out _ _ Y1.out ?_
    clear hK K
    try simp only [Act.put, List.setIfInBounds_toArray, List.set_cons_zero, List.set_cons_succ]
    as_aux_lemma =>
     refine plan_yes (v := ?v13) (by simp only [List.getElem?_toArray, List.getElem?_cons_zero, List.getElem?_cons_succ]; exact rfl) (Or.inl ⟨by as_aux_lemma => rfl, ?hy13⟩) ?rest13
     case hy13 => (intro w2 hSw; (try dsimp only at hSw); go_simp; try with_reducible rfl)
     try simp only [Act.put, List.setIfInBounds_toArray, List.set_cons_zero, List.set_cons_succ]
     refine plan_yes (v := .bool true) (by simp only [List.getElem?_toArray, List.getElem?_cons_zero, List.getElem?_cons_succ]; exact rfl) (Or.inl ⟨by as_aux_lemma => rfl, ?hy14⟩) ?rest14
     case hy14 => (intro w2 hSw; first | (apply eql_wide; rfl; rfl; rfl) | (apply eql_date; rfl; rfl; rfl) | (apply eql_period; rfl; rfl; rfl))
     try simp only [Act.put, List.setIfInBounds_toArray, List.set_cons_zero, List.set_cons_succ]
     refine plan_yes (v := ?v15) (by simp only [List.getElem?_toArray, List.getElem?_cons_zero, List.getElem?_cons_succ]; exact rfl) (Or.inl ⟨by as_aux_lemma => rfl, ?hy15⟩) ?rest15
     case hy15 => (intro w2 hSw; (try dsimp only at hSw); go_simp; try with_reducible rfl)
     try simp only [Act.put, List.setIfInBounds_toArray, List.set_cons_zero, List.set_cons_succ]
     refine plan_yes (v := ?v16) (by simp only [List.getElem?_toArray, List.getElem?_cons_zero, List.getElem?_cons_succ]; exact rfl) (Or.inl ⟨by as_aux_lemma => rfl, ?hy16⟩) ?rest16
     case hy16 => (intro w2 hSw; (try dsimp only at hSw); go_simp; try with_reducible rfl)
     try simp only [Act.put, List.setIfInBounds_toArray, List.set_cons_zero, List.set_cons_succ]
     refine plan_calls (by simp only [List.getElem?_toArray, List.getElem?_cons_zero, List.getElem?_cons_succ]; exact rfl) (by as_aux_lemma => rfl) (fun K hK => ?_)
     go_simp
     refine (HK.out _ (md_keep (Lib.hid (md_keep hM HB0.out)) Y1.out)).mono ?_
     rintro e Y2w ⟨rfl, hb1⟩
     have Y2 := Lib.hid (keepS (W0 := W0) Y1.out hb1)
     clear hb1
     refine hK.out _ _ Y2.out ?_
     clear hK K
     try simp only [Act.put, List.setIfInBounds_toArray, List.set_cons_zero, List.set_cons_succ]
     as_aux_lemma =>
      refine plan_yes (v := ?v17) (by simp only [List.getElem?_toArray, List.getElem?_cons_zero, List.getElem?_cons_succ]; exact rfl) (Or.inl ⟨by as_aux_lemma => rfl, ?hy17⟩) ?rest17
      case hy17 => (intro w2 hSw; (try dsimp only at hSw); go_simp; try with_reducible rfl)
      try simp only [Act.put, List.setIfInBounds_toArray, List.set_cons_zero, List.set_cons_succ]
      refine plan_yes (v := ?v18) (by simp only [List.getElem?_toArray, List.getElem?_cons_zero, List.getElem?_cons_succ]; exact rfl) (Or.inl ⟨by as_aux_lemma => rfl, ?hy18⟩) ?rest18
      case hy18 => (intro w2 hSw; (try dsimp only at hSw); go_simp; try with_reducible rfl)
      try simp only [Act.put, List.setIfInBounds_toArray, List.set_cons_zero, List.set_cons_succ]
      refine plan_done (NoPanic.normal ?_)
      have B0 := Y2.out
      have BW := Lib.hid (HB0.out.trans (B0.mono zW0))
      go_simp
      go_wp2
      go_ret
      exact ⟨rfl, BW.out⟩
  · have H1 := Lib.hid (pmLast_no y m d hc)
    have H2 := Lib.hid X2
    clear X2
    generalize ckC y m d = E at *
    have f1 : (E != 0) = true := by rw [bne_iff_ne]; exact hc
    replace hM := Lib.hid hM
    go_enter Tryd.func4, Tryd.ntmps4
    go_wp2_with fail
    
    refine (H1.out _ (by first | exact md_keep hM ((Below.refl w.heap.size w).alloc (Nat.le_refl _) _))).mono ?_
    rintro e V1 ⟨rfl, hb1⟩
    have B1 := Lib.hid (((Below.refl w.heap.size w).alloc (Nat.le_refl _) _).trans (hb1.mono (by first | assumption | (simp <;> omega) | (simp; done))))
    have A1 := Lib.hid (row_call hb1 (heap_alloc_new _ _))
    clear hb1
    have A1_0 : V1.cell? ⟨w.heap.size, 0, none⟩ = some (.int .i64 y) := cell_of_row _ _ _ _ _ _ A1.out
    have A1_1 : V1.cell? ⟨w.heap.size, 1, none⟩ = some (.int .i64 m) := cell_of_row _ _ _ _ _ _ A1.out
    have A1_2 : V1.cell? ⟨w.heap.size, 2, none⟩ = some (.int .i64 d) := cell_of_row _ _ _ _ _ _ A1.out
    have zA1 := lt_of_heap A1.out
    go_simp
    go_wp2_with fail
    refine (H2.out _).mono ?_
    rintro e V2 ⟨rfl, hb2⟩
    clear A1_0 A1_1 A1_2 zA1
    have nA1X1 := Lib.hid (lt_of_heap A1.out)
    have B2 := Lib.hid (((B1.out).alloc (B1.out.size) _).trans (hb2.mono (by have := B1.out.size; first | assumption | (simp <;> omega) | (simp; done))))
    replace A1 := Lib.hid (row_call hb2 (row_alloc A1.out _))
    have X1 := Lib.hid (row_call hb2 (heap_alloc_new _ _))
    clear hb2
    have A1_0 : V2.cell? ⟨w.heap.size, 0, none⟩ = some (.int .i64 y) := cell_of_row _ _ _ _ _ _ A1.out
    have A1_1 : V2.cell? ⟨w.heap.size, 1, none⟩ = some (.int .i64 m) := cell_of_row _ _ _ _ _ _ A1.out
    have A1_2 : V2.cell? ⟨w.heap.size, 2, none⟩ = some (.int .i64 d) := cell_of_row _ _ _ _ _ _ A1.out
    have X1_0 : V2.cell? ⟨V1.heap.size, 0, none⟩ = some (.int .i64 0) := cell_of_row _ _ _ _ _ _ X1.out
    have X1_1 : V2.cell? ⟨V1.heap.size, 1, none⟩ = some (.int .i64 0) := cell_of_row _ _ _ _ _ _ X1.out
    have X1_2 : V2.cell? ⟨V1.heap.size, 2, none⟩ = some (.int .i64 0) := cell_of_row _ _ _ _ _ _ X1.out
    have zA1 := lt_of_heap A1.out
    have zX1 := lt_of_heap X1.out
    go_simp
    go_wp2_with fail
    refine (HK.out _ (by first | exact md_keep hM (B2.out) | exact md_keep hM ((B2.out).alloc (B2.out.size) _) | exact md_keep hM (((B2.out).alloc (B2.out.size) _).alloc (by have := B2.out.size; simp <;> omega) _) | exact md_keep hM ((((B2.out).alloc (B2.out.size) _).alloc (by have := B2.out.size; simp <;> omega) _).alloc (by have := B2.out.size; simp <;> omega) _))).mono ?_
    rintro e V3 ⟨rfl, hb3⟩
    clear A1_0 A1_1 A1_2 zA1 X1_0 X1_1 X1_2 zX1
    have B3 : Hid (Below w.heap.size w V3) := by first | exact Lib.hid ((B2.out).trans (hb3.mono (by have := B2.out.size; first | assumption | (simp <;> omega) | (simp; done)))) | exact Lib.hid (((B2.out).alloc (B2.out.size) _).trans (hb3.mono (by have := B2.out.size; first | assumption | (simp <;> omega) | (simp; done)))) | exact Lib.hid ((((B2.out).alloc (B2.out.size) _).alloc (by have := B2.out.size; simp <;> omega) _).trans (hb3.mono (by have := B2.out.size; first | assumption | (simp <;> omega) | (simp; done)))) | exact Lib.hid (((((B2.out).alloc (B2.out.size) _).alloc (by have := B2.out.size; simp <;> omega) _).alloc (by have := B2.out.size; simp <;> omega) _).trans (hb3.mono (by have := B2.out.size; first | assumption | (simp <;> omega) | (simp; done))))
    first | replace A1 := Lib.hid (row_call hb3 A1.out) | replace A1 := Lib.hid (row_call hb3 (row_alloc A1.out _)) | replace A1 := Lib.hid (row_call hb3 (row_alloc (row_alloc A1.out _) _)) | replace A1 := Lib.hid (row_call hb3 (row_alloc (row_alloc (row_alloc A1.out _) _) _))
    first | replace X1 := Lib.hid (row_call hb3 X1.out) | replace X1 := Lib.hid (row_call hb3 (row_alloc X1.out _)) | replace X1 := Lib.hid (row_call hb3 (row_alloc (row_alloc X1.out _) _)) | replace X1 := Lib.hid (row_call hb3 (row_alloc (row_alloc (row_alloc X1.out _) _) _))
    clear hb3
    have A1_0 : V3.cell? ⟨w.heap.size, 0, none⟩ = some (.int .i64 y) := cell_of_row _ _ _ _ _ _ A1.out
    have A1_1 : V3.cell? ⟨w.heap.size, 1, none⟩ = some (.int .i64 m) := cell_of_row _ _ _ _ _ _ A1.out
    have A1_2 : V3.cell? ⟨w.heap.size, 2, none⟩ = some (.int .i64 d) := cell_of_row _ _ _ _ _ _ A1.out
    have X1_0 : V3.cell? ⟨V1.heap.size, 0, none⟩ = some (.int .i64 0) := cell_of_row _ _ _ _ _ _ X1.out
    have X1_1 : V3.cell? ⟨V1.heap.size, 1, none⟩ = some (.int .i64 0) := cell_of_row _ _ _ _ _ _ X1.out
    have X1_2 : V3.cell? ⟨V1.heap.size, 2, none⟩ = some (.int .i64 0) := cell_of_row _ _ _ _ _ _ X1.out
    have zA1 := lt_of_heap A1.out
    have zX1 := lt_of_heap X1.out
    go_simp
    go_wp2
    go_ret
    exact ⟨rfl, by first | exact B3.out | exact B3.out.alloc B3.out.size _⟩
theorem moE_28 {y m d n : Int} (hd : d ≤ 28) : moE y m d n 1 = moE y m d n 0 ∧ (moE y m d n 0 = 0 → moD y m d n = d) := by
  obtain ⟨_, a, b⟩ := mo_diff y m n
  have g := mdI_ge (moY y m n) (moM y m n) ⟨a, b⟩
  refine ⟨?_, fun _ => by unfold moD; omega⟩
  unfold moE
  rw [if_neg (by omega : ¬ ¬ ((1 : Int) = 0 ∨ (1 : Int) = 1)), if_neg (by omega : ¬ ¬ ((0 : Int) = 0 ∨ (0 : Int) = 1)), if_neg (by omega : ¬ (mdI (moY y m n) (moM y m n) < d ∧ (1 : Int) = 1)), if_neg (by omega : ¬ (mdI (moY y m n) (moM y m n) < d ∧ (0 : Int) = 1))]
theorem of_moE {y m d n p : Int} (hp : p = 0 ∨ p = 1) (h : moE y m d n p = 0) : ckC y m d = 0 ∧ -9999 ≤ moY y m n ∧ moY y m n ≤ 9999 ∧ ¬ (mdI (moY y m n) (moM y m n) < d ∧ p = 1) := by
  by_cases hc : ckC y m d = 0
  · by_cases ho : moY y m n < -9999 ∨ 9999 < moY y m n
    · rw [moE_out hp hc ho] at h; omega
    · by_cases hr : mdI (moY y m n) (moM y m n) < d ∧ p = 1
      · rw [moE_rej hp hc ho hr] at h; omega
      · exact ⟨hc, by omega, by omega, hr⟩
  · rw [moE_chk hp hc] at h; exact absurd h hc
set_option maxHeartbeats 3200000 in
set_option maxRecDepth 100000 in
theorem mb_le (y m d x n a b c E : Int) (hd : d ≤ 28) (hx : x.tmod 300000 = n) (n1 : -300000 < n) (n2 : n < 300000)
    (H1 : Hid (∀ w, MD w → Calls Tryd.prog 7 #[.agg #[.int .i64 y, .int .i64 m, .int .i64 d], .int .i64 n, .int .i64 0] w fun e w' => e = .returned (.tuple #[.agg #[.int .i64 a, .int .i64 b, .int .i64 c], .int .i64 E]) ∧ Below w.heap.size w w'))
    (H2 : Hid (∀ w, MD w → Calls Tryd.prog 7 #[.agg #[.int .i64 y, .int .i64 m, .int .i64 d], .int .i64 n, .int .i64 1] w fun e w' => e = .returned (.tuple #[.agg #[.int .i64 a, .int .i64 b, .int .i64 c], .int .i64 E]) ∧ Below w.heap.size w w'))
    (HX : (E != 0) = true ∨ (E = 0 ∧ c = d ∧ ∀ w, MD w → Calls Tryd.prog 7 #[.agg #[.int .i64 a, .int .i64 b, .int .i64 c], .int .i64 (-n), .int .i64 1] w fun e w' => e = .returned (.tuple #[.agg #[.int .i64 y, .int .i64 m, .int .i64 d], .int .i64 0]) ∧ Below w.heap.size w w')) (w : World) (hM : MD w) :
    Calls Tryd.prog 5 #[.agg #[.int .i64 y, .int .i64 m, .int .i64 d], .int .i64 x] w fun e w' => e = .returned (.bool true) ∧ Below w.heap.size w w' := by
  have HK := Lib.hid awake11_any
  have hmin : min d 28 = d := by omega
  replace hM := Lib.hid hM
  rcases HX with f1 | ⟨rfl, hcd, HY⟩
  · go_enter Tryd.func5, Tryd.ntmps5
    go_wp2_with fail
    
    refine (H1.out _ (by first | exact md_keep hM ((Below.refl w.heap.size w).alloc (Nat.le_refl _) _))).mono ?_
    rintro e V1 ⟨rfl, hb1⟩
    have B1 := Lib.hid (((Below.refl w.heap.size w).alloc (Nat.le_refl _) _).trans (hb1.mono (by first | assumption | (simp <;> omega) | (simp; done))))
    have A1 := Lib.hid (row_call hb1 (heap_alloc_new _ _))
    clear hb1
    have A1_0 : V1.cell? ⟨w.heap.size, 0, none⟩ = some (.int .i64 y) := cell_of_row _ _ _ _ _ _ A1.out
    have A1_1 : V1.cell? ⟨w.heap.size, 1, none⟩ = some (.int .i64 m) := cell_of_row _ _ _ _ _ _ A1.out
    have A1_2 : V1.cell? ⟨w.heap.size, 2, none⟩ = some (.int .i64 d) := cell_of_row _ _ _ _ _ _ A1.out
    have zA1 := lt_of_heap A1.out
    go_simp
    go_wp2_with fail
    refine (H2.out _ (by first | exact md_keep hM ((B1.out).alloc (B1.out.size) _))).mono ?_
    rintro e V2 ⟨rfl, hb2⟩
    clear A1_0 A1_1 A1_2 zA1
    have nA1X1 := Lib.hid (lt_of_heap A1.out)
    have B2 := Lib.hid (((B1.out).alloc (B1.out.size) _).trans (hb2.mono (by have := B1.out.size; first | assumption | (simp <;> omega) | (simp; done))))
    replace A1 := Lib.hid (row_call hb2 (row_alloc A1.out _))
    have X1 := Lib.hid (row_call hb2 (heap_alloc_new _ _))
    clear hb2
    have A1_0 : V2.cell? ⟨w.heap.size, 0, none⟩ = some (.int .i64 y) := cell_of_row _ _ _ _ _ _ A1.out
    have A1_1 : V2.cell? ⟨w.heap.size, 1, none⟩ = some (.int .i64 m) := cell_of_row _ _ _ _ _ _ A1.out
    have A1_2 : V2.cell? ⟨w.heap.size, 2, none⟩ = some (.int .i64 d) := cell_of_row _ _ _ _ _ _ A1.out
    have X1_0 : V2.cell? ⟨V1.heap.size, 0, none⟩ = some (.int .i64 a) := cell_of_row _ _ _ _ _ _ X1.out
    have X1_1 : V2.cell? ⟨V1.heap.size, 1, none⟩ = some (.int .i64 b) := cell_of_row _ _ _ _ _ _ X1.out
    have X1_2 : V2.cell? ⟨V1.heap.size, 2, none⟩ = some (.int .i64 c) := cell_of_row _ _ _ _ _ _ X1.out
    have zA1 := lt_of_heap A1.out
    have zX1 := lt_of_heap X1.out
    go_simp
    go_wp2_with fail
    refine (HK.out _ (by first | exact md_keep hM ((B2.out).alloc (B2.out.size) _))).mono ?_
    rintro e V3 ⟨rfl, hb3⟩
    clear A1_0 A1_1 A1_2 zA1 X1_0 X1_1 X1_2 zX1
    have nA1Y1 := Lib.hid (lt_of_heap A1.out)
    have nX1Y1 := Lib.hid (lt_of_heap X1.out)
    have B3 := Lib.hid (((B2.out).alloc (B2.out.size) _).trans (hb3.mono (by have := B2.out.size; first | assumption | (simp <;> omega) | (simp; done))))
    replace A1 := Lib.hid (row_call hb3 (row_alloc A1.out _))
    replace X1 := Lib.hid (row_call hb3 (row_alloc X1.out _))
    have Y1 := Lib.hid (row_call hb3 (heap_alloc_new _ _))
    clear hb3
    have A1_0 : V3.cell? ⟨w.heap.size, 0, none⟩ = some (.int .i64 y) := cell_of_row _ _ _ _ _ _ A1.out
    have A1_1 : V3.cell? ⟨w.heap.size, 1, none⟩ = some (.int .i64 m) := cell_of_row _ _ _ _ _ _ A1.out
    have A1_2 : V3.cell? ⟨w.heap.size, 2, none⟩ = some (.int .i64 d) := cell_of_row _ _ _ _ _ _ A1.out
    have X1_0 : V3.cell? ⟨V1.heap.size, 0, none⟩ = some (.int .i64 a) := cell_of_row _ _ _ _ _ _ X1.out
    have X1_1 : V3.cell? ⟨V1.heap.size, 1, none⟩ = some (.int .i64 b) := cell_of_row _ _ _ _ _ _ X1.out
    have X1_2 : V3.cell? ⟨V1.heap.size, 2, none⟩ = some (.int .i64 c) := cell_of_row _ _ _ _ _ _ X1.out
    have Y1_0 : V3.cell? ⟨V2.heap.size, 0, none⟩ = some (.int .i64 a) := cell_of_row _ _ _ _ _ _ Y1.out
    have Y1_1 : V3.cell? ⟨V2.heap.size, 1, none⟩ = some (.int .i64 b) := cell_of_row _ _ _ _ _ _ Y1.out
    have Y1_2 : V3.cell? ⟨V2.heap.size, 2, none⟩ = some (.int .i64 c) := cell_of_row _ _ _ _ _ _ Y1.out
    have zA1 := lt_of_heap A1.out
    have zX1 := lt_of_heap X1.out
    have zY1 := lt_of_heap Y1.out
    go_simp
    go_wp2
    go_ret
    exact ⟨rfl, by first | exact B3.out | exact B3.out.alloc B3.out.size _⟩
  · have hdc := hcd.symm
    subst hdc
    replace HY := Lib.hid HY
    go_enter Tryd.func5, Tryd.ntmps5
    go_wp2_with fail
    
    refine (H1.out _ (by first | exact md_keep hM ((Below.refl w.heap.size w).alloc (Nat.le_refl _) _))).mono ?_
    rintro e V1 ⟨rfl, hb1⟩
    have B1 := Lib.hid (((Below.refl w.heap.size w).alloc (Nat.le_refl _) _).trans (hb1.mono (by first | assumption | (simp <;> omega) | (simp; done))))
    have A1 := Lib.hid (row_call hb1 (heap_alloc_new _ _))
    clear hb1
    have A1_0 : V1.cell? ⟨w.heap.size, 0, none⟩ = some (.int .i64 y) := cell_of_row _ _ _ _ _ _ A1.out
    have A1_1 : V1.cell? ⟨w.heap.size, 1, none⟩ = some (.int .i64 m) := cell_of_row _ _ _ _ _ _ A1.out
    have A1_2 : V1.cell? ⟨w.heap.size, 2, none⟩ = some (.int .i64 d) := cell_of_row _ _ _ _ _ _ A1.out
    have zA1 := lt_of_heap A1.out
    go_simp
    go_wp2_with fail
    refine (H2.out _ (by first | exact md_keep hM ((B1.out).alloc (B1.out.size) _))).mono ?_
    rintro e V2 ⟨rfl, hb2⟩
    clear A1_0 A1_1 A1_2 zA1
    have nA1X1 := Lib.hid (lt_of_heap A1.out)
    have B2 := Lib.hid (((B1.out).alloc (B1.out.size) _).trans (hb2.mono (by have := B1.out.size; first | assumption | (simp <;> omega) | (simp; done))))
    replace A1 := Lib.hid (row_call hb2 (row_alloc A1.out _))
    have X1 := Lib.hid (row_call hb2 (heap_alloc_new _ _))
    clear hb2
    have A1_0 : V2.cell? ⟨w.heap.size, 0, none⟩ = some (.int .i64 y) := cell_of_row _ _ _ _ _ _ A1.out
    have A1_1 : V2.cell? ⟨w.heap.size, 1, none⟩ = some (.int .i64 m) := cell_of_row _ _ _ _ _ _ A1.out
    have A1_2 : V2.cell? ⟨w.heap.size, 2, none⟩ = some (.int .i64 d) := cell_of_row _ _ _ _ _ _ A1.out
    have X1_0 : V2.cell? ⟨V1.heap.size, 0, none⟩ = some (.int .i64 a) := cell_of_row _ _ _ _ _ _ X1.out
    have X1_1 : V2.cell? ⟨V1.heap.size, 1, none⟩ = some (.int .i64 b) := cell_of_row _ _ _ _ _ _ X1.out
    have X1_2 : V2.cell? ⟨V1.heap.size, 2, none⟩ = some (.int .i64 d) := cell_of_row _ _ _ _ _ _ X1.out
    have zA1 := lt_of_heap A1.out
    have zX1 := lt_of_heap X1.out
    go_simp
    go_wp2_with fail
    refine (HY.out _ (by first | exact md_keep hM ((B2.out).alloc (B2.out.size) _))).mono ?_
    rintro e V3 ⟨rfl, hb3⟩
    clear A1_0 A1_1 A1_2 zA1 X1_0 X1_1 X1_2 zX1
    have nA1Y1 := Lib.hid (lt_of_heap A1.out)
    have nX1Y1 := Lib.hid (lt_of_heap X1.out)
    have B3 := Lib.hid (((B2.out).alloc (B2.out.size) _).trans (hb3.mono (by have := B2.out.size; first | assumption | (simp <;> omega) | (simp; done))))
    replace A1 := Lib.hid (row_call hb3 (row_alloc A1.out _))
    replace X1 := Lib.hid (row_call hb3 (row_alloc X1.out _))
    have Y1 := Lib.hid (row_call hb3 (heap_alloc_new _ _))
    clear hb3
    have A1_0 : V3.cell? ⟨w.heap.size, 0, none⟩ = some (.int .i64 y) := cell_of_row _ _ _ _ _ _ A1.out
    have A1_1 : V3.cell? ⟨w.heap.size, 1, none⟩ = some (.int .i64 m) := cell_of_row _ _ _ _ _ _ A1.out
    have A1_2 : V3.cell? ⟨w.heap.size, 2, none⟩ = some (.int .i64 d) := cell_of_row _ _ _ _ _ _ A1.out
    have X1_0 : V3.cell? ⟨V1.heap.size, 0, none⟩ = some (.int .i64 a) := cell_of_row _ _ _ _ _ _ X1.out
    have X1_1 : V3.cell? ⟨V1.heap.size, 1, none⟩ = some (.int .i64 b) := cell_of_row _ _ _ _ _ _ X1.out
    have X1_2 : V3.cell? ⟨V1.heap.size, 2, none⟩ = some (.int .i64 d) := cell_of_row _ _ _ _ _ _ X1.out
    have Y1_0 : V3.cell? ⟨V2.heap.size, 0, none⟩ = some (.int .i64 a) := cell_of_row _ _ _ _ _ _ Y1.out
    have Y1_1 : V3.cell? ⟨V2.heap.size, 1, none⟩ = some (.int .i64 b) := cell_of_row _ _ _ _ _ _ Y1.out
    have Y1_2 : V3.cell? ⟨V2.heap.size, 2, none⟩ = some (.int .i64 d) := cell_of_row _ _ _ _ _ _ Y1.out
    have zA1 := lt_of_heap A1.out
    have zX1 := lt_of_heap X1.out
    have zY1 := lt_of_heap Y1.out
    go_simp
    go_wp2_with fail
    refine (HK.out _ (by first | exact md_keep hM ((B3.out).alloc (B3.out.size) _))).mono ?_
    rintro e V4 ⟨rfl, hb4⟩
    clear A1_0 A1_1 A1_2 zA1 X1_0 X1_1 X1_2 zX1 Y1_0 Y1_1 Y1_2 zY1
    have nA1Q1 := Lib.hid (lt_of_heap A1.out)
    have nX1Q1 := Lib.hid (lt_of_heap X1.out)
    have nY1Q1 := Lib.hid (lt_of_heap Y1.out)
    have B4 := Lib.hid (((B3.out).alloc (B3.out.size) _).trans (hb4.mono (by have := B3.out.size; first | assumption | (simp <;> omega) | (simp; done))))
    replace A1 := Lib.hid (row_call hb4 (row_alloc A1.out _))
    replace X1 := Lib.hid (row_call hb4 (row_alloc X1.out _))
    replace Y1 := Lib.hid (row_call hb4 (row_alloc Y1.out _))
    have Q1 := Lib.hid (row_call hb4 (heap_alloc_new _ _))
    clear hb4
    have A1_0 : V4.cell? ⟨w.heap.size, 0, none⟩ = some (.int .i64 y) := cell_of_row _ _ _ _ _ _ A1.out
    have A1_1 : V4.cell? ⟨w.heap.size, 1, none⟩ = some (.int .i64 m) := cell_of_row _ _ _ _ _ _ A1.out
    have A1_2 : V4.cell? ⟨w.heap.size, 2, none⟩ = some (.int .i64 d) := cell_of_row _ _ _ _ _ _ A1.out
    have X1_0 : V4.cell? ⟨V1.heap.size, 0, none⟩ = some (.int .i64 a) := cell_of_row _ _ _ _ _ _ X1.out
    have X1_1 : V4.cell? ⟨V1.heap.size, 1, none⟩ = some (.int .i64 b) := cell_of_row _ _ _ _ _ _ X1.out
    have X1_2 : V4.cell? ⟨V1.heap.size, 2, none⟩ = some (.int .i64 d) := cell_of_row _ _ _ _ _ _ X1.out
    have Y1_0 : V4.cell? ⟨V2.heap.size, 0, none⟩ = some (.int .i64 a) := cell_of_row _ _ _ _ _ _ Y1.out
    have Y1_1 : V4.cell? ⟨V2.heap.size, 1, none⟩ = some (.int .i64 b) := cell_of_row _ _ _ _ _ _ Y1.out
    have Y1_2 : V4.cell? ⟨V2.heap.size, 2, none⟩ = some (.int .i64 d) := cell_of_row _ _ _ _ _ _ Y1.out
    have Q1_0 : V4.cell? ⟨V3.heap.size, 0, none⟩ = some (.int .i64 y) := cell_of_row _ _ _ _ _ _ Q1.out
    have Q1_1 : V4.cell? ⟨V3.heap.size, 1, none⟩ = some (.int .i64 m) := cell_of_row _ _ _ _ _ _ Q1.out
    have Q1_2 : V4.cell? ⟨V3.heap.size, 2, none⟩ = some (.int .i64 d) := cell_of_row _ _ _ _ _ _ Q1.out
    have zA1 := lt_of_heap A1.out
    have zX1 := lt_of_heap X1.out
    have zY1 := lt_of_heap Y1.out
    have zQ1 := lt_of_heap Q1.out
    go_simp
    go_wp2
    go_ret
    exact ⟨rfl, by first | exact B4.out | exact B4.out.alloc B4.out.size _⟩
set_option maxHeartbeats 3200000 in
set_option maxRecDepth 100000 in
theorem mb_gt (y m d x n a b c E : Int) (hd : 28 < d) (hx : x.tmod 300000 = n) (n1 : -300000 < n) (n2 : n < 300000)
    (H1 : Hid (∀ w, MD w → Calls Tryd.prog 7 #[.agg #[.int .i64 y, .int .i64 m, .int .i64 28], .int .i64 n, .int .i64 0] w fun e w' => e = .returned (.tuple #[.agg #[.int .i64 a, .int .i64 b, .int .i64 c], .int .i64 E]) ∧ Below w.heap.size w w'))
    (H2 : Hid (∀ w, MD w → Calls Tryd.prog 7 #[.agg #[.int .i64 y, .int .i64 m, .int .i64 28], .int .i64 n, .int .i64 1] w fun e w' => e = .returned (.tuple #[.agg #[.int .i64 a, .int .i64 b, .int .i64 c], .int .i64 E]) ∧ Below w.heap.size w w'))
    (HX : (E != 0) = true ∨ (E = 0 ∧ c = 28 ∧ ∀ w, MD w → Calls Tryd.prog 7 #[.agg #[.int .i64 a, .int .i64 b, .int .i64 c], .int .i64 (-n), .int .i64 1] w fun e w' => e = .returned (.tuple #[.agg #[.int .i64 y, .int .i64 m, .int .i64 28], .int .i64 0]) ∧ Below w.heap.size w w')) (w : World) (hM : MD w) :
    Calls Tryd.prog 5 #[.agg #[.int .i64 y, .int .i64 m, .int .i64 d], .int .i64 x] w fun e w' => e = .returned (.bool true) ∧ Below w.heap.size w w' := by
  have HK := Lib.hid awake11_any
  have hmin : min d 28 = 28 := by omega
  replace hM := Lib.hid hM
  rcases HX with f1 | ⟨rfl, hcd, HY⟩
  · go_enter Tryd.func5, Tryd.ntmps5
    go_wp2_with fail
    
    refine (H1.out _ (by first | exact md_keep hM ((Below.refl w.heap.size w).alloc (Nat.le_refl _) _))).mono ?_
    rintro e V1 ⟨rfl, hb1⟩
    have B1 := Lib.hid (((Below.refl w.heap.size w).alloc (Nat.le_refl _) _).trans (hb1.mono (by first | assumption | (simp <;> omega) | (simp; done))))
    have A1 := Lib.hid (row_call hb1 (heap_alloc_new _ _))
    clear hb1
    have A1_0 : V1.cell? ⟨w.heap.size, 0, none⟩ = some (.int .i64 y) := cell_of_row _ _ _ _ _ _ A1.out
    have A1_1 : V1.cell? ⟨w.heap.size, 1, none⟩ = some (.int .i64 m) := cell_of_row _ _ _ _ _ _ A1.out
    have A1_2 : V1.cell? ⟨w.heap.size, 2, none⟩ = some (.int .i64 28) := cell_of_row _ _ _ _ _ _ A1.out
    have zA1 := lt_of_heap A1.out
    go_simp
    go_wp2_with fail
    refine (H2.out _ (by first | exact md_keep hM ((B1.out).alloc (B1.out.size) _))).mono ?_
    rintro e V2 ⟨rfl, hb2⟩
    clear A1_0 A1_1 A1_2 zA1
    have nA1X1 := Lib.hid (lt_of_heap A1.out)
    have B2 := Lib.hid (((B1.out).alloc (B1.out.size) _).trans (hb2.mono (by have := B1.out.size; first | assumption | (simp <;> omega) | (simp; done))))
    replace A1 := Lib.hid (row_call hb2 (row_alloc A1.out _))
    have X1 := Lib.hid (row_call hb2 (heap_alloc_new _ _))
    clear hb2
    have A1_0 : V2.cell? ⟨w.heap.size, 0, none⟩ = some (.int .i64 y) := cell_of_row _ _ _ _ _ _ A1.out
    have A1_1 : V2.cell? ⟨w.heap.size, 1, none⟩ = some (.int .i64 m) := cell_of_row _ _ _ _ _ _ A1.out
    have A1_2 : V2.cell? ⟨w.heap.size, 2, none⟩ = some (.int .i64 28) := cell_of_row _ _ _ _ _ _ A1.out
    have X1_0 : V2.cell? ⟨V1.heap.size, 0, none⟩ = some (.int .i64 a) := cell_of_row _ _ _ _ _ _ X1.out
    have X1_1 : V2.cell? ⟨V1.heap.size, 1, none⟩ = some (.int .i64 b) := cell_of_row _ _ _ _ _ _ X1.out
    have X1_2 : V2.cell? ⟨V1.heap.size, 2, none⟩ = some (.int .i64 c) := cell_of_row _ _ _ _ _ _ X1.out
    have zA1 := lt_of_heap A1.out
    have zX1 := lt_of_heap X1.out
    go_simp
    go_wp2_with fail
    refine (HK.out _ (by first | exact md_keep hM ((B2.out).alloc (B2.out.size) _))).mono ?_
    rintro e V3 ⟨rfl, hb3⟩
    clear A1_0 A1_1 A1_2 zA1 X1_0 X1_1 X1_2 zX1
    have nA1Y1 := Lib.hid (lt_of_heap A1.out)
    have nX1Y1 := Lib.hid (lt_of_heap X1.out)
    have B3 := Lib.hid (((B2.out).alloc (B2.out.size) _).trans (hb3.mono (by have := B2.out.size; first | assumption | (simp <;> omega) | (simp; done))))
    replace A1 := Lib.hid (row_call hb3 (row_alloc A1.out _))
    replace X1 := Lib.hid (row_call hb3 (row_alloc X1.out _))
    have Y1 := Lib.hid (row_call hb3 (heap_alloc_new _ _))
    clear hb3
    have A1_0 : V3.cell? ⟨w.heap.size, 0, none⟩ = some (.int .i64 y) := cell_of_row _ _ _ _ _ _ A1.out
    have A1_1 : V3.cell? ⟨w.heap.size, 1, none⟩ = some (.int .i64 m) := cell_of_row _ _ _ _ _ _ A1.out
    have A1_2 : V3.cell? ⟨w.heap.size, 2, none⟩ = some (.int .i64 28) := cell_of_row _ _ _ _ _ _ A1.out
    have X1_0 : V3.cell? ⟨V1.heap.size, 0, none⟩ = some (.int .i64 a) := cell_of_row _ _ _ _ _ _ X1.out
    have X1_1 : V3.cell? ⟨V1.heap.size, 1, none⟩ = some (.int .i64 b) := cell_of_row _ _ _ _ _ _ X1.out
    have X1_2 : V3.cell? ⟨V1.heap.size, 2, none⟩ = some (.int .i64 c) := cell_of_row _ _ _ _ _ _ X1.out
    have Y1_0 : V3.cell? ⟨V2.heap.size, 0, none⟩ = some (.int .i64 a) := cell_of_row _ _ _ _ _ _ Y1.out
    have Y1_1 : V3.cell? ⟨V2.heap.size, 1, none⟩ = some (.int .i64 b) := cell_of_row _ _ _ _ _ _ Y1.out
    have Y1_2 : V3.cell? ⟨V2.heap.size, 2, none⟩ = some (.int .i64 c) := cell_of_row _ _ _ _ _ _ Y1.out
    have zA1 := lt_of_heap A1.out
    have zX1 := lt_of_heap X1.out
    have zY1 := lt_of_heap Y1.out
    go_simp
    go_wp2
    go_ret
    exact ⟨rfl, by first | exact B3.out | exact B3.out.alloc B3.out.size _⟩
  · have hdc := hcd.symm
    subst hdc
    replace HY := Lib.hid HY
    go_enter Tryd.func5, Tryd.ntmps5
    go_wp2_with fail
    
    refine (H1.out _ (by first | exact md_keep hM ((Below.refl w.heap.size w).alloc (Nat.le_refl _) _))).mono ?_
    rintro e V1 ⟨rfl, hb1⟩
    have B1 := Lib.hid (((Below.refl w.heap.size w).alloc (Nat.le_refl _) _).trans (hb1.mono (by first | assumption | (simp <;> omega) | (simp; done))))
    have A1 := Lib.hid (row_call hb1 (heap_alloc_new _ _))
    clear hb1
    have A1_0 : V1.cell? ⟨w.heap.size, 0, none⟩ = some (.int .i64 y) := cell_of_row _ _ _ _ _ _ A1.out
    have A1_1 : V1.cell? ⟨w.heap.size, 1, none⟩ = some (.int .i64 m) := cell_of_row _ _ _ _ _ _ A1.out
    have A1_2 : V1.cell? ⟨w.heap.size, 2, none⟩ = some (.int .i64 28) := cell_of_row _ _ _ _ _ _ A1.out
    have zA1 := lt_of_heap A1.out
    go_simp
    go_wp2_with fail
    refine (H2.out _ (by first | exact md_keep hM ((B1.out).alloc (B1.out.size) _))).mono ?_
    rintro e V2 ⟨rfl, hb2⟩
    clear A1_0 A1_1 A1_2 zA1
    have nA1X1 := Lib.hid (lt_of_heap A1.out)
    have B2 := Lib.hid (((B1.out).alloc (B1.out.size) _).trans (hb2.mono (by have := B1.out.size; first | assumption | (simp <;> omega) | (simp; done))))
    replace A1 := Lib.hid (row_call hb2 (row_alloc A1.out _))
    have X1 := Lib.hid (row_call hb2 (heap_alloc_new _ _))
    clear hb2
    have A1_0 : V2.cell? ⟨w.heap.size, 0, none⟩ = some (.int .i64 y) := cell_of_row _ _ _ _ _ _ A1.out
    have A1_1 : V2.cell? ⟨w.heap.size, 1, none⟩ = some (.int .i64 m) := cell_of_row _ _ _ _ _ _ A1.out
    have A1_2 : V2.cell? ⟨w.heap.size, 2, none⟩ = some (.int .i64 28) := cell_of_row _ _ _ _ _ _ A1.out
    have X1_0 : V2.cell? ⟨V1.heap.size, 0, none⟩ = some (.int .i64 a) := cell_of_row _ _ _ _ _ _ X1.out
    have X1_1 : V2.cell? ⟨V1.heap.size, 1, none⟩ = some (.int .i64 b) := cell_of_row _ _ _ _ _ _ X1.out
    have X1_2 : V2.cell? ⟨V1.heap.size, 2, none⟩ = some (.int .i64 28) := cell_of_row _ _ _ _ _ _ X1.out
    have zA1 := lt_of_heap A1.out
    have zX1 := lt_of_heap X1.out
    go_simp
    go_wp2_with fail
    refine (HY.out _ (by first | exact md_keep hM ((B2.out).alloc (B2.out.size) _))).mono ?_
    rintro e V3 ⟨rfl, hb3⟩
    clear A1_0 A1_1 A1_2 zA1 X1_0 X1_1 X1_2 zX1
    have nA1Y1 := Lib.hid (lt_of_heap A1.out)
    have nX1Y1 := Lib.hid (lt_of_heap X1.out)
    have B3 := Lib.hid (((B2.out).alloc (B2.out.size) _).trans (hb3.mono (by have := B2.out.size; first | assumption | (simp <;> omega) | (simp; done))))
    replace A1 := Lib.hid (row_call hb3 (row_alloc A1.out _))
    replace X1 := Lib.hid (row_call hb3 (row_alloc X1.out _))
    have Y1 := Lib.hid (row_call hb3 (heap_alloc_new _ _))
    clear hb3
    have A1_0 : V3.cell? ⟨w.heap.size, 0, none⟩ = some (.int .i64 y) := cell_of_row _ _ _ _ _ _ A1.out
    have A1_1 : V3.cell? ⟨w.heap.size, 1, none⟩ = some (.int .i64 m) := cell_of_row _ _ _ _ _ _ A1.out
    have A1_2 : V3.cell? ⟨w.heap.size, 2, none⟩ = some (.int .i64 28) := cell_of_row _ _ _ _ _ _ A1.out
    have X1_0 : V3.cell? ⟨V1.heap.size, 0, none⟩ = some (.int .i64 a) := cell_of_row _ _ _ _ _ _ X1.out
    have X1_1 : V3.cell? ⟨V1.heap.size, 1, none⟩ = some (.int .i64 b) := cell_of_row _ _ _ _ _ _ X1.out
    have X1_2 : V3.cell? ⟨V1.heap.size, 2, none⟩ = some (.int .i64 28) := cell_of_row _ _ _ _ _ _ X1.out
    have Y1_0 : V3.cell? ⟨V2.heap.size, 0, none⟩ = some (.int .i64 a) := cell_of_row _ _ _ _ _ _ Y1.out
    have Y1_1 : V3.cell? ⟨V2.heap.size, 1, none⟩ = some (.int .i64 b) := cell_of_row _ _ _ _ _ _ Y1.out
    have Y1_2 : V3.cell? ⟨V2.heap.size, 2, none⟩ = some (.int .i64 28) := cell_of_row _ _ _ _ _ _ Y1.out
    have zA1 := lt_of_heap A1.out
    have zX1 := lt_of_heap X1.out
    have zY1 := lt_of_heap Y1.out
    go_simp
    go_wp2_with fail
    refine (HK.out _ (by first | exact md_keep hM ((B3.out).alloc (B3.out.size) _))).mono ?_
    rintro e V4 ⟨rfl, hb4⟩
    clear A1_0 A1_1 A1_2 zA1 X1_0 X1_1 X1_2 zX1 Y1_0 Y1_1 Y1_2 zY1
    have nA1Q1 := Lib.hid (lt_of_heap A1.out)
    have nX1Q1 := Lib.hid (lt_of_heap X1.out)
    have nY1Q1 := Lib.hid (lt_of_heap Y1.out)
    have B4 := Lib.hid (((B3.out).alloc (B3.out.size) _).trans (hb4.mono (by have := B3.out.size; first | assumption | (simp <;> omega) | (simp; done))))
    replace A1 := Lib.hid (row_call hb4 (row_alloc A1.out _))
    replace X1 := Lib.hid (row_call hb4 (row_alloc X1.out _))
    replace Y1 := Lib.hid (row_call hb4 (row_alloc Y1.out _))
    have Q1 := Lib.hid (row_call hb4 (heap_alloc_new _ _))
    clear hb4
    have A1_0 : V4.cell? ⟨w.heap.size, 0, none⟩ = some (.int .i64 y) := cell_of_row _ _ _ _ _ _ A1.out
    have A1_1 : V4.cell? ⟨w.heap.size, 1, none⟩ = some (.int .i64 m) := cell_of_row _ _ _ _ _ _ A1.out
    have A1_2 : V4.cell? ⟨w.heap.size, 2, none⟩ = some (.int .i64 28) := cell_of_row _ _ _ _ _ _ A1.out
    have X1_0 : V4.cell? ⟨V1.heap.size, 0, none⟩ = some (.int .i64 a) := cell_of_row _ _ _ _ _ _ X1.out
    have X1_1 : V4.cell? ⟨V1.heap.size, 1, none⟩ = some (.int .i64 b) := cell_of_row _ _ _ _ _ _ X1.out
    have X1_2 : V4.cell? ⟨V1.heap.size, 2, none⟩ = some (.int .i64 28) := cell_of_row _ _ _ _ _ _ X1.out
    have Y1_0 : V4.cell? ⟨V2.heap.size, 0, none⟩ = some (.int .i64 a) := cell_of_row _ _ _ _ _ _ Y1.out
    have Y1_1 : V4.cell? ⟨V2.heap.size, 1, none⟩ = some (.int .i64 b) := cell_of_row _ _ _ _ _ _ Y1.out
    have Y1_2 : V4.cell? ⟨V2.heap.size, 2, none⟩ = some (.int .i64 28) := cell_of_row _ _ _ _ _ _ Y1.out
    have Q1_0 : V4.cell? ⟨V3.heap.size, 0, none⟩ = some (.int .i64 y) := cell_of_row _ _ _ _ _ _ Q1.out
    have Q1_1 : V4.cell? ⟨V3.heap.size, 1, none⟩ = some (.int .i64 m) := cell_of_row _ _ _ _ _ _ Q1.out
    have Q1_2 : V4.cell? ⟨V3.heap.size, 2, none⟩ = some (.int .i64 28) := cell_of_row _ _ _ _ _ _ Q1.out
    have zA1 := lt_of_heap A1.out
    have zX1 := lt_of_heap X1.out
    have zY1 := lt_of_heap Y1.out
    have zQ1 := lt_of_heap Q1.out
    go_simp
    go_wp2
    go_ret
    exact ⟨rfl, by first | exact B4.out | exact B4.out.alloc B4.out.size _⟩
theorem mb_back {y m d n : Int} (hd : d ≤ 28) (bn : -300000 < n ∧ n < 300000) (h : moE y m d n 0 = 0) (w : World) (hM : MD w) :
    Calls Tryd.prog 7 #[.agg #[.int .i64 (moY y m n), .int .i64 (moM y m n), .int .i64 d], .int .i64 (-n), .int .i64 1] w fun e w' => e = .returned (.tuple #[.agg #[.int .i64 y, .int .i64 m, .int .i64 d], .int .i64 0]) ∧ Below w.heap.size w w' := by
  obtain ⟨hc, r1, r2, _⟩ := of_moE (Or.inl rfl) h
  obtain ⟨mb, y1, y2⟩ := of_ckC hc
  obtain ⟨p1, p2, p3, p4, p5⟩ := mayB_yes mb
  obtain ⟨_, a, b⟩ := mo_diff y m n
  obtain ⟨e1, e2⟩ := mo_back (y := y) (n := n) p3 p4
  have g := mdI_ge (moY y m n) (moM y m n) ⟨a, b⟩
  have hx : ckC (moY y m n) (moM y m n) d = 0 := ckC_ok (may_of p1 (by omega)) (by omega)
  have e : moE (moY y m n) (moM y m n) d (-n) 1 = 0 := moE_ok (Or.inr rfl) hx (by rw [e1]; omega) (by rw [e1, e2]; omega)
  have X := pmAdd_all (moY y m n) (moM y m n) d (-n) 1 (by unfold in64; omega) w hM
  rw [e, zvI_ok, zvI_ok, zvI_ok, e1, e2, show moD (moY y m n) (moM y m n) d (-n) = d by unfold moD; rw [e1, e2]; omega] at X
  exact X
theorem mb_both {y m d n : Int} (hd : d ≤ 28) (bn : -300000 < n ∧ n < 300000) : ∃ a b c E : Int,
    (∀ w, MD w → Calls Tryd.prog 7 #[.agg #[.int .i64 y, .int .i64 m, .int .i64 d], .int .i64 n, .int .i64 0] w fun e w' => e = .returned (.tuple #[.agg #[.int .i64 a, .int .i64 b, .int .i64 c], .int .i64 E]) ∧ Below w.heap.size w w') ∧
    (∀ w, MD w → Calls Tryd.prog 7 #[.agg #[.int .i64 y, .int .i64 m, .int .i64 d], .int .i64 n, .int .i64 1] w fun e w' => e = .returned (.tuple #[.agg #[.int .i64 a, .int .i64 b, .int .i64 c], .int .i64 E]) ∧ Below w.heap.size w w') ∧
    ((E != 0) = true ∨ (E = 0 ∧ c = d ∧ ∀ w, MD w → Calls Tryd.prog 7 #[.agg #[.int .i64 a, .int .i64 b, .int .i64 c], .int .i64 (-n), .int .i64 1] w fun e w' => e = .returned (.tuple #[.agg #[.int .i64 y, .int .i64 m, .int .i64 d], .int .i64 0]) ∧ Below w.heap.size w w')) := by
  obtain ⟨e1, e2⟩ := moE_28 (y := y) (m := m) (d := d) (n := n) hd
  have b : in64 n := by unfold in64; omega
  refine ⟨_, _, _, _, pmAdd_all y m d n 0 b, ?_, ?_⟩
  · have X := pmAdd_all y m d n 1 b
    rw [e1] at X
    exact X
  · by_cases h : moE y m d n 0 = 0
    · right
      rw [h, zvI_ok, zvI_ok, zvI_ok, e2 h]
      exact ⟨rfl, rfl, fun w hM => mb_back hd bn h w hM⟩
    · left
      rw [bne_iff_ne]; exact h
theorem monthsBack_walk (y m d x : Int) (w : World) (hM : MD w) : Calls Tryd.prog 5 #[.agg #[.int .i64 y, .int .i64 m, .int .i64 d], .int .i64 x] w fun e w' => e = .returned (.bool true) ∧ Below w.heap.size w w' := by
  have n1 := Int.lt_tmod_of_pos x (show (0 : Int) < 300000 by decide)
  have n2 := Int.tmod_lt_of_pos x (show (0 : Int) < 300000 by decide)
  by_cases hd : d ≤ 28
  · obtain ⟨a, b, c, E, H1, H2, HX⟩ := mb_both (y := y) (m := m) hd ⟨n1, n2⟩
    exact mb_le y m d x _ a b c E hd rfl n1 n2 (Lib.hid H1) (Lib.hid H2) HX w hM
  · obtain ⟨a, b, c, E, H1, H2, HX⟩ := mb_both (y := y) (m := m) (d := 28) (by decide) ⟨n1, n2⟩
    exact mb_gt y m d x _ a b c E (by omega) rfl n1 n2 (Lib.hid H1) (Lib.hid H2) HX w hM
set_option maxHeartbeats 3200000 in
set_option maxRecDepth 100000 in
theorem mc_err (y m d n E : Int) (hE : E ≠ 0)
    (H1 : Hid (∀ w, MD w → Calls Tryd.prog 7 #[.agg #[.int .i64 y, .int .i64 m, .int .i64 d], .int .i64 n, .int .i64 0] w fun e w' => e = .returned (.tuple #[.agg #[.int .i64 0, .int .i64 0, .int .i64 0], .int .i64 E]) ∧ Below w.heap.size w w')) (w : World) (hM : MD w) :
    Calls Tryd.prog 6 #[.agg #[.int .i64 y, .int .i64 m, .int .i64 d], .int .i64 n] w fun e w' => e = .returned (.bool true) ∧ Below w.heap.size w w' := by
  have HK := Lib.hid awake11_any
  have f1 : (E != 0) = true := by rw [bne_iff_ne]; exact hE
  replace hM := Lib.hid hM
  go_enter Tryd.func6, Tryd.ntmps6
  go_wp2_with fail
  
  refine (H1.out _ (by first | exact md_keep hM ((Below.refl w.heap.size w).alloc (Nat.le_refl _) _))).mono ?_
  rintro e V1 ⟨rfl, hb1⟩
  have B1 := Lib.hid (((Below.refl w.heap.size w).alloc (Nat.le_refl _) _).trans (hb1.mono (by first | assumption | (simp <;> omega) | (simp; done))))
  have A1 := Lib.hid (row_call hb1 (heap_alloc_new _ _))
  clear hb1
  have A1_0 : V1.cell? ⟨w.heap.size, 0, none⟩ = some (.int .i64 y) := cell_of_row _ _ _ _ _ _ A1.out
  have A1_1 : V1.cell? ⟨w.heap.size, 1, none⟩ = some (.int .i64 m) := cell_of_row _ _ _ _ _ _ A1.out
  have A1_2 : V1.cell? ⟨w.heap.size, 2, none⟩ = some (.int .i64 d) := cell_of_row _ _ _ _ _ _ A1.out
  have zA1 := lt_of_heap A1.out
  go_simp
  go_wp2_with fail
  refine (HK.out _ (by first | exact md_keep hM ((B1.out).alloc (B1.out.size) _))).mono ?_
  rintro e V2 ⟨rfl, hb2⟩
  clear A1_0 A1_1 A1_2 zA1
  have nA1X1 := Lib.hid (lt_of_heap A1.out)
  have B2 := Lib.hid (((B1.out).alloc (B1.out.size) _).trans (hb2.mono (by have := B1.out.size; first | assumption | (simp <;> omega) | (simp; done))))
  replace A1 := Lib.hid (row_call hb2 (row_alloc A1.out _))
  have X1 := Lib.hid (row_call hb2 (heap_alloc_new _ _))
  clear hb2
  have A1_0 : V2.cell? ⟨w.heap.size, 0, none⟩ = some (.int .i64 y) := cell_of_row _ _ _ _ _ _ A1.out
  have A1_1 : V2.cell? ⟨w.heap.size, 1, none⟩ = some (.int .i64 m) := cell_of_row _ _ _ _ _ _ A1.out
  have A1_2 : V2.cell? ⟨w.heap.size, 2, none⟩ = some (.int .i64 d) := cell_of_row _ _ _ _ _ _ A1.out
  have X1_0 : V2.cell? ⟨V1.heap.size, 0, none⟩ = some (.int .i64 0) := cell_of_row _ _ _ _ _ _ X1.out
  have X1_1 : V2.cell? ⟨V1.heap.size, 1, none⟩ = some (.int .i64 0) := cell_of_row _ _ _ _ _ _ X1.out
  have X1_2 : V2.cell? ⟨V1.heap.size, 2, none⟩ = some (.int .i64 0) := cell_of_row _ _ _ _ _ _ X1.out
  have zA1 := lt_of_heap A1.out
  have zX1 := lt_of_heap X1.out
  go_simp
  go_wp2
  go_ret
  exact ⟨rfl, by first | exact B2.out | exact B2.out.alloc B2.out.size _⟩
set_option maxHeartbeats 3200000 in
set_option maxRecDepth 100000 in
theorem mc_cut (y m d n a b M : Int) (hm : M < d) (a1 : -9999 ≤ a) (a2 : a ≤ 9999) (y1 : -9999 ≤ y) (y2 : y ≤ 9999) (b1 : 1 ≤ b) (b2 : b ≤ 12) (m1 : 1 ≤ m) (m2 : m ≤ 12) (hn : 12 * (a - y) + b - m = n)
    (H1 : Hid (∀ w, MD w → Calls Tryd.prog 7 #[.agg #[.int .i64 y, .int .i64 m, .int .i64 d], .int .i64 n, .int .i64 0] w fun e w' => e = .returned (.tuple #[.agg #[.int .i64 a, .int .i64 b, .int .i64 M], .int .i64 0]) ∧ Below w.heap.size w w'))
    (H2 : Hid (∀ w, MD w → Calls Tryd.prog 7 #[.agg #[.int .i64 y, .int .i64 m, .int .i64 d], .int .i64 n, .int .i64 1] w fun e w' => e = .returned (.tuple #[.agg #[.int .i64 0, .int .i64 0, .int .i64 0], .int .i64 7]) ∧ Below w.heap.size w w'))
    (H3 : Hid (∀ w, Calls Tryd.prog 12 #[.int .i64 a, .int .i64 b] w fun e w' => e = .returned (.int .i64 M) ∧ Below w.heap.size w w')) (w : World) (hM : MD w) :
    Calls Tryd.prog 6 #[.agg #[.int .i64 y, .int .i64 m, .int .i64 d], .int .i64 n] w fun e w' => e = .returned (.bool true) ∧ Below w.heap.size w w' := by
  have HK := Lib.hid awake11_any
  replace hM := Lib.hid hM
  go_enter Tryd.func6, Tryd.ntmps6
  go_wp2_with fail
  
  refine (H1.out _ (by first | exact md_keep hM ((Below.refl w.heap.size w).alloc (Nat.le_refl _) _))).mono ?_
  rintro e V1 ⟨rfl, hb1⟩
  have B1 := Lib.hid (((Below.refl w.heap.size w).alloc (Nat.le_refl _) _).trans (hb1.mono (by first | assumption | (simp <;> omega) | (simp; done))))
  have A1 := Lib.hid (row_call hb1 (heap_alloc_new _ _))
  clear hb1
  have A1_0 : V1.cell? ⟨w.heap.size, 0, none⟩ = some (.int .i64 y) := cell_of_row _ _ _ _ _ _ A1.out
  have A1_1 : V1.cell? ⟨w.heap.size, 1, none⟩ = some (.int .i64 m) := cell_of_row _ _ _ _ _ _ A1.out
  have A1_2 : V1.cell? ⟨w.heap.size, 2, none⟩ = some (.int .i64 d) := cell_of_row _ _ _ _ _ _ A1.out
  have zA1 := lt_of_heap A1.out
  go_simp
  go_wp2_with fail
  refine (H2.out _ (by first | exact md_keep hM ((B1.out).alloc (B1.out.size) _))).mono ?_
  rintro e V2 ⟨rfl, hb2⟩
  clear A1_0 A1_1 A1_2 zA1
  have nA1X1 := Lib.hid (lt_of_heap A1.out)
  have B2 := Lib.hid (((B1.out).alloc (B1.out.size) _).trans (hb2.mono (by have := B1.out.size; first | assumption | (simp <;> omega) | (simp; done))))
  replace A1 := Lib.hid (row_call hb2 (row_alloc A1.out _))
  have X1 := Lib.hid (row_call hb2 (heap_alloc_new _ _))
  clear hb2
  have A1_0 : V2.cell? ⟨w.heap.size, 0, none⟩ = some (.int .i64 y) := cell_of_row _ _ _ _ _ _ A1.out
  have A1_1 : V2.cell? ⟨w.heap.size, 1, none⟩ = some (.int .i64 m) := cell_of_row _ _ _ _ _ _ A1.out
  have A1_2 : V2.cell? ⟨w.heap.size, 2, none⟩ = some (.int .i64 d) := cell_of_row _ _ _ _ _ _ A1.out
  have X1_0 : V2.cell? ⟨V1.heap.size, 0, none⟩ = some (.int .i64 a) := cell_of_row _ _ _ _ _ _ X1.out
  have X1_1 : V2.cell? ⟨V1.heap.size, 1, none⟩ = some (.int .i64 b) := cell_of_row _ _ _ _ _ _ X1.out
  have X1_2 : V2.cell? ⟨V1.heap.size, 2, none⟩ = some (.int .i64 M) := cell_of_row _ _ _ _ _ _ X1.out
  have zA1 := lt_of_heap A1.out
  have zX1 := lt_of_heap X1.out
  go_simp
  go_wp2_with fail
  refine (H3.out _).mono ?_
  rintro e V3 ⟨rfl, hb3⟩
  clear A1_0 A1_1 A1_2 zA1 X1_0 X1_1 X1_2 zX1
  have nA1Y1 := Lib.hid (lt_of_heap A1.out)
  have nX1Y1 := Lib.hid (lt_of_heap X1.out)
  have B3 := Lib.hid (((B2.out).alloc (B2.out.size) _).trans (hb3.mono (by have := B2.out.size; first | assumption | (simp <;> omega) | (simp; done))))
  replace A1 := Lib.hid (row_call hb3 (row_alloc A1.out _))
  replace X1 := Lib.hid (row_call hb3 (row_alloc X1.out _))
  have Y1 := Lib.hid (row_call hb3 (heap_alloc_new _ _))
  clear hb3
  have A1_0 : V3.cell? ⟨w.heap.size, 0, none⟩ = some (.int .i64 y) := cell_of_row _ _ _ _ _ _ A1.out
  have A1_1 : V3.cell? ⟨w.heap.size, 1, none⟩ = some (.int .i64 m) := cell_of_row _ _ _ _ _ _ A1.out
  have A1_2 : V3.cell? ⟨w.heap.size, 2, none⟩ = some (.int .i64 d) := cell_of_row _ _ _ _ _ _ A1.out
  have X1_0 : V3.cell? ⟨V1.heap.size, 0, none⟩ = some (.int .i64 a) := cell_of_row _ _ _ _ _ _ X1.out
  have X1_1 : V3.cell? ⟨V1.heap.size, 1, none⟩ = some (.int .i64 b) := cell_of_row _ _ _ _ _ _ X1.out
  have X1_2 : V3.cell? ⟨V1.heap.size, 2, none⟩ = some (.int .i64 M) := cell_of_row _ _ _ _ _ _ X1.out
  have Y1_0 : V3.cell? ⟨V2.heap.size, 0, none⟩ = some (.int .i64 0) := cell_of_row _ _ _ _ _ _ Y1.out
  have Y1_1 : V3.cell? ⟨V2.heap.size, 1, none⟩ = some (.int .i64 0) := cell_of_row _ _ _ _ _ _ Y1.out
  have Y1_2 : V3.cell? ⟨V2.heap.size, 2, none⟩ = some (.int .i64 0) := cell_of_row _ _ _ _ _ _ Y1.out
  have zA1 := lt_of_heap A1.out
  have zX1 := lt_of_heap X1.out
  have zY1 := lt_of_heap Y1.out
  go_simp
  go_wp2_with fail
  refine (HK.out _ (by first | exact md_keep hM (B3.out) | exact md_keep hM ((B3.out).alloc (B3.out.size) _) | exact md_keep hM (((B3.out).alloc (B3.out.size) _).alloc (by have := B3.out.size; simp <;> omega) _) | exact md_keep hM ((((B3.out).alloc (B3.out.size) _).alloc (by have := B3.out.size; simp <;> omega) _).alloc (by have := B3.out.size; simp <;> omega) _))).mono ?_
  rintro e V4 ⟨rfl, hb4⟩
  clear A1_0 A1_1 A1_2 zA1 X1_0 X1_1 X1_2 zX1 Y1_0 Y1_1 Y1_2 zY1
  have B4 : Hid (Below w.heap.size w V4) := by first | exact Lib.hid ((B3.out).trans (hb4.mono (by have := B3.out.size; first | assumption | (simp <;> omega) | (simp; done)))) | exact Lib.hid (((B3.out).alloc (B3.out.size) _).trans (hb4.mono (by have := B3.out.size; first | assumption | (simp <;> omega) | (simp; done)))) | exact Lib.hid ((((B3.out).alloc (B3.out.size) _).alloc (by have := B3.out.size; simp <;> omega) _).trans (hb4.mono (by have := B3.out.size; first | assumption | (simp <;> omega) | (simp; done)))) | exact Lib.hid (((((B3.out).alloc (B3.out.size) _).alloc (by have := B3.out.size; simp <;> omega) _).alloc (by have := B3.out.size; simp <;> omega) _).trans (hb4.mono (by have := B3.out.size; first | assumption | (simp <;> omega) | (simp; done))))
  first | replace A1 := Lib.hid (row_call hb4 A1.out) | replace A1 := Lib.hid (row_call hb4 (row_alloc A1.out _)) | replace A1 := Lib.hid (row_call hb4 (row_alloc (row_alloc A1.out _) _)) | replace A1 := Lib.hid (row_call hb4 (row_alloc (row_alloc (row_alloc A1.out _) _) _))
  first | replace X1 := Lib.hid (row_call hb4 X1.out) | replace X1 := Lib.hid (row_call hb4 (row_alloc X1.out _)) | replace X1 := Lib.hid (row_call hb4 (row_alloc (row_alloc X1.out _) _)) | replace X1 := Lib.hid (row_call hb4 (row_alloc (row_alloc (row_alloc X1.out _) _) _))
  first | replace Y1 := Lib.hid (row_call hb4 Y1.out) | replace Y1 := Lib.hid (row_call hb4 (row_alloc Y1.out _)) | replace Y1 := Lib.hid (row_call hb4 (row_alloc (row_alloc Y1.out _) _)) | replace Y1 := Lib.hid (row_call hb4 (row_alloc (row_alloc (row_alloc Y1.out _) _) _))
  clear hb4
  have A1_0 : V4.cell? ⟨w.heap.size, 0, none⟩ = some (.int .i64 y) := cell_of_row _ _ _ _ _ _ A1.out
  have A1_1 : V4.cell? ⟨w.heap.size, 1, none⟩ = some (.int .i64 m) := cell_of_row _ _ _ _ _ _ A1.out
  have A1_2 : V4.cell? ⟨w.heap.size, 2, none⟩ = some (.int .i64 d) := cell_of_row _ _ _ _ _ _ A1.out
  have X1_0 : V4.cell? ⟨V1.heap.size, 0, none⟩ = some (.int .i64 a) := cell_of_row _ _ _ _ _ _ X1.out
  have X1_1 : V4.cell? ⟨V1.heap.size, 1, none⟩ = some (.int .i64 b) := cell_of_row _ _ _ _ _ _ X1.out
  have X1_2 : V4.cell? ⟨V1.heap.size, 2, none⟩ = some (.int .i64 M) := cell_of_row _ _ _ _ _ _ X1.out
  have Y1_0 : V4.cell? ⟨V2.heap.size, 0, none⟩ = some (.int .i64 0) := cell_of_row _ _ _ _ _ _ Y1.out
  have Y1_1 : V4.cell? ⟨V2.heap.size, 1, none⟩ = some (.int .i64 0) := cell_of_row _ _ _ _ _ _ Y1.out
  have Y1_2 : V4.cell? ⟨V2.heap.size, 2, none⟩ = some (.int .i64 0) := cell_of_row _ _ _ _ _ _ Y1.out
  have zA1 := lt_of_heap A1.out
  have zX1 := lt_of_heap X1.out
  have zY1 := lt_of_heap Y1.out
  go_simp
  go_wp2
  go_ret
  exact ⟨rfl, by first | exact B4.out | exact B4.out.alloc B4.out.size _⟩
set_option maxHeartbeats 3200000 in
set_option maxRecDepth 100000 in
theorem mc_low (y m d n a b M : Int) (hm : ¬ M < d) (a1 : -9999 ≤ a) (a2 : a ≤ 9999) (y1 : -9999 ≤ y) (y2 : y ≤ 9999) (b1 : 1 ≤ b) (b2 : b ≤ 12) (m1 : 1 ≤ m) (m2 : m ≤ 12) (hn : 12 * (a - y) + b - m = n)
    (H1 : Hid (∀ w, MD w → Calls Tryd.prog 7 #[.agg #[.int .i64 y, .int .i64 m, .int .i64 d], .int .i64 n, .int .i64 0] w fun e w' => e = .returned (.tuple #[.agg #[.int .i64 a, .int .i64 b, .int .i64 d], .int .i64 0]) ∧ Below w.heap.size w w'))
    (H2 : Hid (∀ w, MD w → Calls Tryd.prog 7 #[.agg #[.int .i64 y, .int .i64 m, .int .i64 d], .int .i64 n, .int .i64 1] w fun e w' => e = .returned (.tuple #[.agg #[.int .i64 a, .int .i64 b, .int .i64 d], .int .i64 0]) ∧ Below w.heap.size w w'))
    (H3 : Hid (∀ w, Calls Tryd.prog 12 #[.int .i64 a, .int .i64 b] w fun e w' => e = .returned (.int .i64 M) ∧ Below w.heap.size w w')) (w : World) (hM : MD w) :
    Calls Tryd.prog 6 #[.agg #[.int .i64 y, .int .i64 m, .int .i64 d], .int .i64 n] w fun e w' => e = .returned (.bool true) ∧ Below w.heap.size w w' := by
  have HK := Lib.hid awake11_any
  replace hM := Lib.hid hM
  go_enter Tryd.func6, Tryd.ntmps6
  go_wp2_with fail
  
  refine (H1.out _ (by first | exact md_keep hM ((Below.refl w.heap.size w).alloc (Nat.le_refl _) _))).mono ?_
  rintro e V1 ⟨rfl, hb1⟩
  have B1 := Lib.hid (((Below.refl w.heap.size w).alloc (Nat.le_refl _) _).trans (hb1.mono (by first | assumption | (simp <;> omega) | (simp; done))))
  have A1 := Lib.hid (row_call hb1 (heap_alloc_new _ _))
  clear hb1
  have A1_0 : V1.cell? ⟨w.heap.size, 0, none⟩ = some (.int .i64 y) := cell_of_row _ _ _ _ _ _ A1.out
  have A1_1 : V1.cell? ⟨w.heap.size, 1, none⟩ = some (.int .i64 m) := cell_of_row _ _ _ _ _ _ A1.out
  have A1_2 : V1.cell? ⟨w.heap.size, 2, none⟩ = some (.int .i64 d) := cell_of_row _ _ _ _ _ _ A1.out
  have zA1 := lt_of_heap A1.out
  go_simp
  go_wp2_with fail
  refine (H2.out _ (by first | exact md_keep hM ((B1.out).alloc (B1.out.size) _))).mono ?_
  rintro e V2 ⟨rfl, hb2⟩
  clear A1_0 A1_1 A1_2 zA1
  have nA1X1 := Lib.hid (lt_of_heap A1.out)
  have B2 := Lib.hid (((B1.out).alloc (B1.out.size) _).trans (hb2.mono (by have := B1.out.size; first | assumption | (simp <;> omega) | (simp; done))))
  replace A1 := Lib.hid (row_call hb2 (row_alloc A1.out _))
  have X1 := Lib.hid (row_call hb2 (heap_alloc_new _ _))
  clear hb2
  have A1_0 : V2.cell? ⟨w.heap.size, 0, none⟩ = some (.int .i64 y) := cell_of_row _ _ _ _ _ _ A1.out
  have A1_1 : V2.cell? ⟨w.heap.size, 1, none⟩ = some (.int .i64 m) := cell_of_row _ _ _ _ _ _ A1.out
  have A1_2 : V2.cell? ⟨w.heap.size, 2, none⟩ = some (.int .i64 d) := cell_of_row _ _ _ _ _ _ A1.out
  have X1_0 : V2.cell? ⟨V1.heap.size, 0, none⟩ = some (.int .i64 a) := cell_of_row _ _ _ _ _ _ X1.out
  have X1_1 : V2.cell? ⟨V1.heap.size, 1, none⟩ = some (.int .i64 b) := cell_of_row _ _ _ _ _ _ X1.out
  have X1_2 : V2.cell? ⟨V1.heap.size, 2, none⟩ = some (.int .i64 d) := cell_of_row _ _ _ _ _ _ X1.out
  have zA1 := lt_of_heap A1.out
  have zX1 := lt_of_heap X1.out
  go_simp
  go_wp2_with fail
  refine (H3.out _).mono ?_
  rintro e V3 ⟨rfl, hb3⟩
  clear A1_0 A1_1 A1_2 zA1 X1_0 X1_1 X1_2 zX1
  have nA1Y1 := Lib.hid (lt_of_heap A1.out)
  have nX1Y1 := Lib.hid (lt_of_heap X1.out)
  have B3 := Lib.hid (((B2.out).alloc (B2.out.size) _).trans (hb3.mono (by have := B2.out.size; first | assumption | (simp <;> omega) | (simp; done))))
  replace A1 := Lib.hid (row_call hb3 (row_alloc A1.out _))
  replace X1 := Lib.hid (row_call hb3 (row_alloc X1.out _))
  have Y1 := Lib.hid (row_call hb3 (heap_alloc_new _ _))
  clear hb3
  have A1_0 : V3.cell? ⟨w.heap.size, 0, none⟩ = some (.int .i64 y) := cell_of_row _ _ _ _ _ _ A1.out
  have A1_1 : V3.cell? ⟨w.heap.size, 1, none⟩ = some (.int .i64 m) := cell_of_row _ _ _ _ _ _ A1.out
  have A1_2 : V3.cell? ⟨w.heap.size, 2, none⟩ = some (.int .i64 d) := cell_of_row _ _ _ _ _ _ A1.out
  have X1_0 : V3.cell? ⟨V1.heap.size, 0, none⟩ = some (.int .i64 a) := cell_of_row _ _ _ _ _ _ X1.out
  have X1_1 : V3.cell? ⟨V1.heap.size, 1, none⟩ = some (.int .i64 b) := cell_of_row _ _ _ _ _ _ X1.out
  have X1_2 : V3.cell? ⟨V1.heap.size, 2, none⟩ = some (.int .i64 d) := cell_of_row _ _ _ _ _ _ X1.out
  have Y1_0 : V3.cell? ⟨V2.heap.size, 0, none⟩ = some (.int .i64 a) := cell_of_row _ _ _ _ _ _ Y1.out
  have Y1_1 : V3.cell? ⟨V2.heap.size, 1, none⟩ = some (.int .i64 b) := cell_of_row _ _ _ _ _ _ Y1.out
  have Y1_2 : V3.cell? ⟨V2.heap.size, 2, none⟩ = some (.int .i64 d) := cell_of_row _ _ _ _ _ _ Y1.out
  have zA1 := lt_of_heap A1.out
  have zX1 := lt_of_heap X1.out
  have zY1 := lt_of_heap Y1.out
  go_simp
  go_wp2_with fail
  refine (HK.out _ (by first | exact md_keep hM (B3.out) | exact md_keep hM ((B3.out).alloc (B3.out.size) _) | exact md_keep hM (((B3.out).alloc (B3.out.size) _).alloc (by have := B3.out.size; simp <;> omega) _) | exact md_keep hM ((((B3.out).alloc (B3.out.size) _).alloc (by have := B3.out.size; simp <;> omega) _).alloc (by have := B3.out.size; simp <;> omega) _))).mono ?_
  rintro e V4 ⟨rfl, hb4⟩
  clear A1_0 A1_1 A1_2 zA1 X1_0 X1_1 X1_2 zX1 Y1_0 Y1_1 Y1_2 zY1
  have B4 : Hid (Below w.heap.size w V4) := by first | exact Lib.hid ((B3.out).trans (hb4.mono (by have := B3.out.size; first | assumption | (simp <;> omega) | (simp; done)))) | exact Lib.hid (((B3.out).alloc (B3.out.size) _).trans (hb4.mono (by have := B3.out.size; first | assumption | (simp <;> omega) | (simp; done)))) | exact Lib.hid ((((B3.out).alloc (B3.out.size) _).alloc (by have := B3.out.size; simp <;> omega) _).trans (hb4.mono (by have := B3.out.size; first | assumption | (simp <;> omega) | (simp; done)))) | exact Lib.hid (((((B3.out).alloc (B3.out.size) _).alloc (by have := B3.out.size; simp <;> omega) _).alloc (by have := B3.out.size; simp <;> omega) _).trans (hb4.mono (by have := B3.out.size; first | assumption | (simp <;> omega) | (simp; done))))
  first | replace A1 := Lib.hid (row_call hb4 A1.out) | replace A1 := Lib.hid (row_call hb4 (row_alloc A1.out _)) | replace A1 := Lib.hid (row_call hb4 (row_alloc (row_alloc A1.out _) _)) | replace A1 := Lib.hid (row_call hb4 (row_alloc (row_alloc (row_alloc A1.out _) _) _))
  first | replace X1 := Lib.hid (row_call hb4 X1.out) | replace X1 := Lib.hid (row_call hb4 (row_alloc X1.out _)) | replace X1 := Lib.hid (row_call hb4 (row_alloc (row_alloc X1.out _) _)) | replace X1 := Lib.hid (row_call hb4 (row_alloc (row_alloc (row_alloc X1.out _) _) _))
  first | replace Y1 := Lib.hid (row_call hb4 Y1.out) | replace Y1 := Lib.hid (row_call hb4 (row_alloc Y1.out _)) | replace Y1 := Lib.hid (row_call hb4 (row_alloc (row_alloc Y1.out _) _)) | replace Y1 := Lib.hid (row_call hb4 (row_alloc (row_alloc (row_alloc Y1.out _) _) _))
  clear hb4
  have A1_0 : V4.cell? ⟨w.heap.size, 0, none⟩ = some (.int .i64 y) := cell_of_row _ _ _ _ _ _ A1.out
  have A1_1 : V4.cell? ⟨w.heap.size, 1, none⟩ = some (.int .i64 m) := cell_of_row _ _ _ _ _ _ A1.out
  have A1_2 : V4.cell? ⟨w.heap.size, 2, none⟩ = some (.int .i64 d) := cell_of_row _ _ _ _ _ _ A1.out
  have X1_0 : V4.cell? ⟨V1.heap.size, 0, none⟩ = some (.int .i64 a) := cell_of_row _ _ _ _ _ _ X1.out
  have X1_1 : V4.cell? ⟨V1.heap.size, 1, none⟩ = some (.int .i64 b) := cell_of_row _ _ _ _ _ _ X1.out
  have X1_2 : V4.cell? ⟨V1.heap.size, 2, none⟩ = some (.int .i64 d) := cell_of_row _ _ _ _ _ _ X1.out
  have Y1_0 : V4.cell? ⟨V2.heap.size, 0, none⟩ = some (.int .i64 a) := cell_of_row _ _ _ _ _ _ Y1.out
  have Y1_1 : V4.cell? ⟨V2.heap.size, 1, none⟩ = some (.int .i64 b) := cell_of_row _ _ _ _ _ _ Y1.out
  have Y1_2 : V4.cell? ⟨V2.heap.size, 2, none⟩ = some (.int .i64 d) := cell_of_row _ _ _ _ _ _ Y1.out
  have zA1 := lt_of_heap A1.out
  have zX1 := lt_of_heap X1.out
  have zY1 := lt_of_heap Y1.out
  go_simp
  go_wp2
  go_ret
  exact ⟨rfl, by first | exact B4.out | exact B4.out.alloc B4.out.size _⟩
theorem monthsClamped_walk (y m d n : Int) (bn : in64 n) (w : World) (hM : MD w) : Calls Tryd.prog 6 #[.agg #[.int .i64 y, .int .i64 m, .int .i64 d], .int .i64 n] w fun e w' => e = .returned (.bool true) ∧ Below w.heap.size w w' := by
  have X1 := pmAdd_all y m d n 0 bn
  have X2 := pmAdd_all y m d n 1 bn
  by_cases h : moE y m d n 0 = 0
  · obtain ⟨hc, r1, r2, _⟩ := of_moE (Or.inl rfl) h
    obtain ⟨mb, y1, y2⟩ := of_ckC hc
    obtain ⟨p1, p2, p3, p4, p5⟩ := mayB_yes mb
    obtain ⟨hn, a1, a2⟩ := mo_diff y m n
    have H3 := Lib.hid (fun w => grow_of (rMonthDays_p (moY y m n) (moM y m n) w))
    rw [h, zvI_ok, zvI_ok, zvI_ok] at X1
    by_cases hd : mdI (moY y m n) (moM y m n) < d
    · rw [show moD y m d n = mdI (moY y m n) (moM y m n) by unfold moD; omega] at X1
      rw [moE_rej (Or.inr rfl) hc (by omega) ⟨hd, rfl⟩, zvI_no (by decide), zvI_no (by decide), zvI_no (by decide)] at X2
      exact mc_cut y m d n _ _ _ hd r1 r2 y1 y2 a1 a2 p3 p4 hn (Lib.hid X1) (Lib.hid X2) H3 w hM
    · rw [show moD y m d n = d by unfold moD; omega] at X1
      rw [moE_ok (Or.inr rfl) hc (by omega) (fun k => hd k.1), zvI_ok, zvI_ok, zvI_ok, show moD y m d n = d by unfold moD; omega] at X2
      exact mc_low y m d n _ _ _ hd r1 r2 y1 y2 a1 a2 p3 p4 hn (Lib.hid X1) (Lib.hid X2) H3 w hM
  · rw [zvI_no h, zvI_no h, zvI_no h] at X1
    exact mc_err y m d n _ h (Lib.hid X1) w hM
end Go.Proofs.YtacepnmagdpecaaDoor
