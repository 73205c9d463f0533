/- Several texts in one: UnG. -/
import Derived.Test.YtoopbgpoelpjfaaDoorZUn3
namespace Go.Proofs.YtoopbgpoelpjfaaDoor
set_option linter.unusedVariables false
set_option linter.unusedSimpArgs false
open Go.ChangeShapes Go.WideShapes Go.ChangeAt Go.RowKit
set_option maxHeartbeats 3200000 in
set_option maxRecDepth 100000 in
theorem gr_u0 (y m d Y M D p q r X1 X2 X3 F : Int) (p1 : -100000 ≤ p) (p2 : p ≤ 100000) (q1 : -12 < q) (q2 : q < 12) (c1 : 0 < p) (c2 : 0 ≤ q) (c3 : 0 ≤ r)
    (H1 : Hid (∀ w, MD w → Calls Tryd.prog 7 #[.agg #[.int .i64 y, .int .i64 m, .int .i64 d], .agg #[.int .i64 Y, .int .i64 M, .int .i64 D]] w fun e w' => e = .returned (.tuple #[.agg #[.int .i64 p, .int .i64 q, .int .i64 r], .int .i64 0]) ∧ Below w.heap.size w w'))
    (HC : Hid (∀ w, Calls Tryd.prog 13 #[.agg #[.int .i64 y, .int .i64 m, .int .i64 d], .agg #[.int .i64 Y, .int .i64 M, .int .i64 D]] w fun e w' => e = .returned (.int .i64 (-1)) ∧ Below w.heap.size w w'))
    (HA : Hid (∀ w, Calls Tryd.prog 14 #[.agg #[.int .i64 y, .int .i64 m, .int .i64 d], .int .i64 (12 * p + q + 1), .int .i64 0] w fun e w' => e = .returned (.tuple #[.agg #[.int .i64 X1, .int .i64 X2, .int .i64 X3], .int .i64 F]) ∧ Below w.heap.size w w'))
    (HX : (F != 0) = true ∨ (F = 0 ∧ ∀ w, Calls Tryd.prog 13 #[.agg #[.int .i64 X1, .int .i64 X2, .int .i64 X3], .agg #[.int .i64 Y, .int .i64 M, .int .i64 D]] w fun e w' => e = .returned (.int .i64 (1)) ∧ Below w.heap.size w w')) (w : World) (hM : MD w) :
    Calls Tryd.prog 5 #[.agg #[.int .i64 y, .int .i64 m, .int .i64 d], .agg #[.int .i64 Y, .int .i64 M, .int .i64 D]] w fun e w' => e = .returned (.bool true) ∧ Below w.heap.size w w' := by
  have HK := Lib.hid awake12_any
  replace hM := Lib.hid hM
  replace HX := Lib.hid HX
  go_enter Tryd.func5, Tryd.ntmps5
  go_wp2_with fail
  
  refine (H1.out _ (by first | exact md_keep hM (((Below.refl w.heap.size w).alloc (Nat.le_refl _) _).alloc (by simp <;> omega) _))).mono ?_
  rintro e V1 ⟨rfl, hb1⟩
  have B1 := Lib.hid ((((Below.refl w.heap.size w).alloc (Nat.le_refl _) _).alloc (by simp <;> omega) _).trans (hb1.mono (by first | assumption | (simp <;> omega) | (simp; done))))
  have A1 := Lib.hid (row_call hb1 (row_alloc (heap_alloc_new _ _) _))
  have C1 := Lib.hid (row_at (k' := w.heap.size + 1) (by simp) (row_call hb1 (heap_alloc_new _ _)))
  clear hb1
  have A1_0 : V1.cell? ⟨w.heap.size, 0, none⟩ = some (.int .i64 y) := cell_of_row _ _ _ _ _ _ A1.out
  have A1_1 : V1.cell? ⟨w.heap.size, 1, none⟩ = some (.int .i64 m) := cell_of_row _ _ _ _ _ _ A1.out
  have A1_2 : V1.cell? ⟨w.heap.size, 2, none⟩ = some (.int .i64 d) := cell_of_row _ _ _ _ _ _ A1.out
  have C1_0 : V1.cell? ⟨w.heap.size + 1, 0, none⟩ = some (.int .i64 Y) := cell_of_row _ _ _ _ _ _ C1.out
  have C1_1 : V1.cell? ⟨w.heap.size + 1, 1, none⟩ = some (.int .i64 M) := cell_of_row _ _ _ _ _ _ C1.out
  have C1_2 : V1.cell? ⟨w.heap.size + 1, 2, none⟩ = some (.int .i64 D) := cell_of_row _ _ _ _ _ _ C1.out
  have zA1 := lt_of_heap A1.out
  have zC1 := lt_of_heap C1.out
  go_simp
  go_wp2_with fail
  refine (HC.out _).mono ?_
  rintro e V2 ⟨rfl, hb2⟩
  clear A1_0 A1_1 A1_2 zA1 C1_0 C1_1 C1_2 zC1
  have nA1P1 := Lib.hid (lt_of_heap A1.out)
  have nC1P1 := Lib.hid (lt_of_heap C1.out)
  have B2 := Lib.hid (((B1.out).alloc (B1.out.size) _).trans (hb2.mono (by have := B1.out.size; first | assumption | (simp <;> omega) | (simp; done))))
  replace A1 := Lib.hid (row_call hb2 (row_alloc A1.out _))
  replace C1 := Lib.hid (row_call hb2 (row_alloc C1.out _))
  have P1 := Lib.hid (row_call hb2 (heap_alloc_new _ _))
  clear hb2
  have A1_0 : V2.cell? ⟨w.heap.size, 0, none⟩ = some (.int .i64 y) := cell_of_row _ _ _ _ _ _ A1.out
  have A1_1 : V2.cell? ⟨w.heap.size, 1, none⟩ = some (.int .i64 m) := cell_of_row _ _ _ _ _ _ A1.out
  have A1_2 : V2.cell? ⟨w.heap.size, 2, none⟩ = some (.int .i64 d) := cell_of_row _ _ _ _ _ _ A1.out
  have C1_0 : V2.cell? ⟨w.heap.size + 1, 0, none⟩ = some (.int .i64 Y) := cell_of_row _ _ _ _ _ _ C1.out
  have C1_1 : V2.cell? ⟨w.heap.size + 1, 1, none⟩ = some (.int .i64 M) := cell_of_row _ _ _ _ _ _ C1.out
  have C1_2 : V2.cell? ⟨w.heap.size + 1, 2, none⟩ = some (.int .i64 D) := cell_of_row _ _ _ _ _ _ C1.out
  have P1_0 : V2.cell? ⟨V1.heap.size, 0, none⟩ = some (.int .i64 p) := cell_of_row _ _ _ _ _ _ P1.out
  have P1_1 : V2.cell? ⟨V1.heap.size, 1, none⟩ = some (.int .i64 q) := cell_of_row _ _ _ _ _ _ P1.out
  have P1_2 : V2.cell? ⟨V1.heap.size, 2, none⟩ = some (.int .i64 r) := cell_of_row _ _ _ _ _ _ P1.out
  have zA1 := lt_of_heap A1.out
  have zC1 := lt_of_heap C1.out
  have zP1 := lt_of_heap P1.out
  go_simp
  go_wp2_with fail
  refine (HC.out _).mono ?_
  rintro e V3 ⟨rfl, hb3⟩
  clear A1_0 A1_1 A1_2 zA1 C1_0 C1_1 C1_2 zC1 P1_0 P1_1 P1_2 zP1
  have B3 : Hid (Below w.heap.size w V3) := by first | exact Lib.hid ((B2.out).trans (hb3.mono (by have := B2.out.size; first | assumption | (simp <;> omega) | (simp; done)))) | exact Lib.hid (((B2.out).alloc (B2.out.size) _).trans (hb3.mono (by have := B2.out.size; first | assumption | (simp <;> omega) | (simp; done)))) | exact Lib.hid ((((B2.out).alloc (B2.out.size) _).alloc (by have := B2.out.size; simp <;> omega) _).trans (hb3.mono (by have := B2.out.size; first | assumption | (simp <;> omega) | (simp; done)))) | exact Lib.hid (((((B2.out).alloc (B2.out.size) _).alloc (by have := B2.out.size; simp <;> omega) _).alloc (by have := B2.out.size; simp <;> omega) _).trans (hb3.mono (by have := B2.out.size; first | assumption | (simp <;> omega) | (simp; done))))
  first | replace A1 := Lib.hid (row_call hb3 A1.out) | replace A1 := Lib.hid (row_call hb3 (row_alloc A1.out _)) | replace A1 := Lib.hid (row_call hb3 (row_alloc (row_alloc A1.out _) _)) | replace A1 := Lib.hid (row_call hb3 (row_alloc (row_alloc (row_alloc A1.out _) _) _))
  first | replace C1 := Lib.hid (row_call hb3 C1.out) | replace C1 := Lib.hid (row_call hb3 (row_alloc C1.out _)) | replace C1 := Lib.hid (row_call hb3 (row_alloc (row_alloc C1.out _) _)) | replace C1 := Lib.hid (row_call hb3 (row_alloc (row_alloc (row_alloc C1.out _) _) _))
  first | replace P1 := Lib.hid (row_call hb3 P1.out) | replace P1 := Lib.hid (row_call hb3 (row_alloc P1.out _)) | replace P1 := Lib.hid (row_call hb3 (row_alloc (row_alloc P1.out _) _)) | replace P1 := Lib.hid (row_call hb3 (row_alloc (row_alloc (row_alloc P1.out _) _) _))
  clear hb3
  have A1_0 : V3.cell? ⟨w.heap.size, 0, none⟩ = some (.int .i64 y) := cell_of_row _ _ _ _ _ _ A1.out
  have A1_1 : V3.cell? ⟨w.heap.size, 1, none⟩ = some (.int .i64 m) := cell_of_row _ _ _ _ _ _ A1.out
  have A1_2 : V3.cell? ⟨w.heap.size, 2, none⟩ = some (.int .i64 d) := cell_of_row _ _ _ _ _ _ A1.out
  have C1_0 : V3.cell? ⟨w.heap.size + 1, 0, none⟩ = some (.int .i64 Y) := cell_of_row _ _ _ _ _ _ C1.out
  have C1_1 : V3.cell? ⟨w.heap.size + 1, 1, none⟩ = some (.int .i64 M) := cell_of_row _ _ _ _ _ _ C1.out
  have C1_2 : V3.cell? ⟨w.heap.size + 1, 2, none⟩ = some (.int .i64 D) := cell_of_row _ _ _ _ _ _ C1.out
  have P1_0 : V3.cell? ⟨V1.heap.size, 0, none⟩ = some (.int .i64 p) := cell_of_row _ _ _ _ _ _ P1.out
  have P1_1 : V3.cell? ⟨V1.heap.size, 1, none⟩ = some (.int .i64 q) := cell_of_row _ _ _ _ _ _ P1.out
  have P1_2 : V3.cell? ⟨V1.heap.size, 2, none⟩ = some (.int .i64 r) := cell_of_row _ _ _ _ _ _ P1.out
  have zA1 := lt_of_heap A1.out
  have zC1 := lt_of_heap C1.out
  have zP1 := lt_of_heap P1.out
  go_simp
  go_wp2_with fail
  refine (HC.out _).mono ?_
  rintro e V4 ⟨rfl, hb4⟩
  clear A1_0 A1_1 A1_2 zA1 C1_0 C1_1 C1_2 zC1 P1_0 P1_1 P1_2 zP1
  have B4 : Hid (Below w.heap.size w V4) := by first | exact Lib.hid ((B3.out).trans (hb4.mono (by have := B3.out.size; first | assumption | (simp <;> omega) | (simp; done)))) | exact Lib.hid (((B3.out).alloc (B3.out.size) _).trans (hb4.mono (by have := B3.out.size; first | assumption | (simp <;> omega) | (simp; done)))) | exact Lib.hid ((((B3.out).alloc (B3.out.size) _).alloc (by have := B3.out.size; simp <;> omega) _).trans (hb4.mono (by have := B3.out.size; first | assumption | (simp <;> omega) | (simp; done)))) | exact Lib.hid (((((B3.out).alloc (B3.out.size) _).alloc (by have := B3.out.size; simp <;> omega) _).alloc (by have := B3.out.size; simp <;> omega) _).trans (hb4.mono (by have := B3.out.size; first | assumption | (simp <;> omega) | (simp; done))))
  first | replace A1 := Lib.hid (row_call hb4 A1.out) | replace A1 := Lib.hid (row_call hb4 (row_alloc A1.out _)) | replace A1 := Lib.hid (row_call hb4 (row_alloc (row_alloc A1.out _) _)) | replace A1 := Lib.hid (row_call hb4 (row_alloc (row_alloc (row_alloc A1.out _) _) _))
  first | replace C1 := Lib.hid (row_call hb4 C1.out) | replace C1 := Lib.hid (row_call hb4 (row_alloc C1.out _)) | replace C1 := Lib.hid (row_call hb4 (row_alloc (row_alloc C1.out _) _)) | replace C1 := Lib.hid (row_call hb4 (row_alloc (row_alloc (row_alloc C1.out _) _) _))
  first | replace P1 := Lib.hid (row_call hb4 P1.out) | replace P1 := Lib.hid (row_call hb4 (row_alloc P1.out _)) | replace P1 := Lib.hid (row_call hb4 (row_alloc (row_alloc P1.out _) _)) | replace P1 := Lib.hid (row_call hb4 (row_alloc (row_alloc (row_alloc P1.out _) _) _))
  clear hb4
  have A1_0 : V4.cell? ⟨w.heap.size, 0, none⟩ = some (.int .i64 y) := cell_of_row _ _ _ _ _ _ A1.out
  have A1_1 : V4.cell? ⟨w.heap.size, 1, none⟩ = some (.int .i64 m) := cell_of_row _ _ _ _ _ _ A1.out
  have A1_2 : V4.cell? ⟨w.heap.size, 2, none⟩ = some (.int .i64 d) := cell_of_row _ _ _ _ _ _ A1.out
  have C1_0 : V4.cell? ⟨w.heap.size + 1, 0, none⟩ = some (.int .i64 Y) := cell_of_row _ _ _ _ _ _ C1.out
  have C1_1 : V4.cell? ⟨w.heap.size + 1, 1, none⟩ = some (.int .i64 M) := cell_of_row _ _ _ _ _ _ C1.out
  have C1_2 : V4.cell? ⟨w.heap.size + 1, 2, none⟩ = some (.int .i64 D) := cell_of_row _ _ _ _ _ _ C1.out
  have P1_0 : V4.cell? ⟨V1.heap.size, 0, none⟩ = some (.int .i64 p) := cell_of_row _ _ _ _ _ _ P1.out
  have P1_1 : V4.cell? ⟨V1.heap.size, 1, none⟩ = some (.int .i64 q) := cell_of_row _ _ _ _ _ _ P1.out
  have P1_2 : V4.cell? ⟨V1.heap.size, 2, none⟩ = some (.int .i64 r) := cell_of_row _ _ _ _ _ _ P1.out
  have zA1 := lt_of_heap A1.out
  have zC1 := lt_of_heap C1.out
  have zP1 := lt_of_heap P1.out
  go_simp
  go_wp2_with fail
  refine (HA.out _).mono ?_
  rintro e V5 ⟨rfl, hb5⟩
  clear A1_0 A1_1 A1_2 zA1 C1_0 C1_1 C1_2 zC1 P1_0 P1_1 P1_2 zP1
  have B5 : Hid (Below w.heap.size w V5) := by first | exact Lib.hid ((B4.out).trans (hb5.mono (by have := B4.out.size; first | assumption | (simp <;> omega) | (simp; done)))) | exact Lib.hid (((B4.out).alloc (B4.out.size) _).trans (hb5.mono (by have := B4.out.size; first | assumption | (simp <;> omega) | (simp; done)))) | exact Lib.hid ((((B4.out).alloc (B4.out.size) _).alloc (by have := B4.out.size; simp <;> omega) _).trans (hb5.mono (by have := B4.out.size; first | assumption | (simp <;> omega) | (simp; done)))) | exact Lib.hid (((((B4.out).alloc (B4.out.size) _).alloc (by have := B4.out.size; simp <;> omega) _).alloc (by have := B4.out.size; simp <;> omega) _).trans (hb5.mono (by have := B4.out.size; first | assumption | (simp <;> omega) | (simp; done))))
  first | replace A1 := Lib.hid (row_call hb5 A1.out) | replace A1 := Lib.hid (row_call hb5 (row_alloc A1.out _)) | replace A1 := Lib.hid (row_call hb5 (row_alloc (row_alloc A1.out _) _)) | replace A1 := Lib.hid (row_call hb5 (row_alloc (row_alloc (row_alloc A1.out _) _) _))
  first | replace C1 := Lib.hid (row_call hb5 C1.out) | replace C1 := Lib.hid (row_call hb5 (row_alloc C1.out _)) | replace C1 := Lib.hid (row_call hb5 (row_alloc (row_alloc C1.out _) _)) | replace C1 := Lib.hid (row_call hb5 (row_alloc (row_alloc (row_alloc C1.out _) _) _))
  first | replace P1 := Lib.hid (row_call hb5 P1.out) | replace P1 := Lib.hid (row_call hb5 (row_alloc P1.out _)) | replace P1 := Lib.hid (row_call hb5 (row_alloc (row_alloc P1.out _) _)) | replace P1 := Lib.hid (row_call hb5 (row_alloc (row_alloc (row_alloc P1.out _) _) _))
  clear hb5
  have A1_0 : V5.cell? ⟨w.heap.size, 0, none⟩ = some (.int .i64 y) := cell_of_row _ _ _ _ _ _ A1.out
  have A1_1 : V5.cell? ⟨w.heap.size, 1, none⟩ = some (.int .i64 m) := cell_of_row _ _ _ _ _ _ A1.out
  have A1_2 : V5.cell? ⟨w.heap.size, 2, none⟩ = some (.int .i64 d) := cell_of_row _ _ _ _ _ _ A1.out
  have C1_0 : V5.cell? ⟨w.heap.size + 1, 0, none⟩ = some (.int .i64 Y) := cell_of_row _ _ _ _ _ _ C1.out
  have C1_1 : V5.cell? ⟨w.heap.size + 1, 1, none⟩ = some (.int .i64 M) := cell_of_row _ _ _ _ _ _ C1.out
  have C1_2 : V5.cell? ⟨w.heap.size + 1, 2, none⟩ = some (.int .i64 D) := cell_of_row _ _ _ _ _ _ C1.out
  have P1_0 : V5.cell? ⟨V1.heap.size, 0, none⟩ = some (.int .i64 p) := cell_of_row _ _ _ _ _ _ P1.out
  have P1_1 : V5.cell? ⟨V1.heap.size, 1, none⟩ = some (.int .i64 q) := cell_of_row _ _ _ _ _ _ P1.out
  have P1_2 : V5.cell? ⟨V1.heap.size, 2, none⟩ = some (.int .i64 r) := cell_of_row _ _ _ _ _ _ P1.out
  have zA1 := lt_of_heap A1.out
  have zC1 := lt_of_heap C1.out
  have zP1 := lt_of_heap P1.out
  go_simp
  
  rcases HX.out with f1 | ⟨rfl, HY⟩
  · skip
    clear HX
    go_wp2_with fail
    refine (HK.out _ (by first | exact md_keep hM ((B5.out).alloc (B5.out.size) _))).mono ?_
    rintro e V6 ⟨rfl, hb6⟩
    clear A1_0 A1_1 A1_2 zA1 C1_0 C1_1 C1_2 zC1 P1_0 P1_1 P1_2 zP1
    have nA1N1 := Lib.hid (lt_of_heap A1.out)
    have nC1N1 := Lib.hid (lt_of_heap C1.out)
    have nP1N1 := Lib.hid (lt_of_heap P1.out)
    have B6 := Lib.hid (((B5.out).alloc (B5.out.size) _).trans (hb6.mono (by have := B5.out.size; first | assumption | (simp <;> omega) | (simp; done))))
    replace A1 := Lib.hid (row_call hb6 (row_alloc A1.out _))
    replace C1 := Lib.hid (row_call hb6 (row_alloc C1.out _))
    replace P1 := Lib.hid (row_call hb6 (row_alloc P1.out _))
    have N1 := Lib.hid (row_call hb6 (heap_alloc_new _ _))
    clear hb6
    have A1_0 : V6.cell? ⟨w.heap.size, 0, none⟩ = some (.int .i64 y) := cell_of_row _ _ _ _ _ _ A1.out
    have A1_1 : V6.cell? ⟨w.heap.size, 1, none⟩ = some (.int .i64 m) := cell_of_row _ _ _ _ _ _ A1.out
    have A1_2 : V6.cell? ⟨w.heap.size, 2, none⟩ = some (.int .i64 d) := cell_of_row _ _ _ _ _ _ A1.out
    have C1_0 : V6.cell? ⟨w.heap.size + 1, 0, none⟩ = some (.int .i64 Y) := cell_of_row _ _ _ _ _ _ C1.out
    have C1_1 : V6.cell? ⟨w.heap.size + 1, 1, none⟩ = some (.int .i64 M) := cell_of_row _ _ _ _ _ _ C1.out
    have C1_2 : V6.cell? ⟨w.heap.size + 1, 2, none⟩ = some (.int .i64 D) := cell_of_row _ _ _ _ _ _ C1.out
    have P1_0 : V6.cell? ⟨V1.heap.size, 0, none⟩ = some (.int .i64 p) := cell_of_row _ _ _ _ _ _ P1.out
    have P1_1 : V6.cell? ⟨V1.heap.size, 1, none⟩ = some (.int .i64 q) := cell_of_row _ _ _ _ _ _ P1.out
    have P1_2 : V6.cell? ⟨V1.heap.size, 2, none⟩ = some (.int .i64 r) := cell_of_row _ _ _ _ _ _ P1.out
    have N1_0 : V6.cell? ⟨V5.heap.size, 0, none⟩ = some (.int .i64 X1) := cell_of_row _ _ _ _ _ _ N1.out
    have N1_1 : V6.cell? ⟨V5.heap.size, 1, none⟩ = some (.int .i64 X2) := cell_of_row _ _ _ _ _ _ N1.out
    have N1_2 : V6.cell? ⟨V5.heap.size, 2, none⟩ = some (.int .i64 X3) := cell_of_row _ _ _ _ _ _ N1.out
    have zA1 := lt_of_heap A1.out
    have zC1 := lt_of_heap C1.out
    have zP1 := lt_of_heap P1.out
    have zN1 := lt_of_heap N1.out
    go_simp
    go_wp2
    go_ret
    exact ⟨rfl, by first | exact B6.out | exact B6.out.alloc B6.out.size _⟩
  · skip
    
    clear HX
    replace HY := Lib.hid HY
    go_wp2_with fail
    refine (HY.out _).mono ?_
    rintro e V6 ⟨rfl, hb6⟩
    clear A1_0 A1_1 A1_2 zA1 C1_0 C1_1 C1_2 zC1 P1_0 P1_1 P1_2 zP1
    have nA1N1 := Lib.hid (lt_of_heap A1.out)
    have nC1N1 := Lib.hid (lt_of_heap C1.out)
    have nP1N1 := Lib.hid (lt_of_heap P1.out)
    have B6 := Lib.hid (((B5.out).alloc (B5.out.size) _).trans (hb6.mono (by have := B5.out.size; first | assumption | (simp <;> omega) | (simp; done))))
    replace A1 := Lib.hid (row_call hb6 (row_alloc A1.out _))
    replace C1 := Lib.hid (row_call hb6 (row_alloc C1.out _))
    replace P1 := Lib.hid (row_call hb6 (row_alloc P1.out _))
    have N1 := Lib.hid (row_call hb6 (heap_alloc_new _ _))
    clear hb6
    have A1_0 : V6.cell? ⟨w.heap.size, 0, none⟩ = some (.int .i64 y) := cell_of_row _ _ _ _ _ _ A1.out
    have A1_1 : V6.cell? ⟨w.heap.size, 1, none⟩ = some (.int .i64 m) := cell_of_row _ _ _ _ _ _ A1.out
    have A1_2 : V6.cell? ⟨w.heap.size, 2, none⟩ = some (.int .i64 d) := cell_of_row _ _ _ _ _ _ A1.out
    have C1_0 : V6.cell? ⟨w.heap.size + 1, 0, none⟩ = some (.int .i64 Y) := cell_of_row _ _ _ _ _ _ C1.out
    have C1_1 : V6.cell? ⟨w.heap.size + 1, 1, none⟩ = some (.int .i64 M) := cell_of_row _ _ _ _ _ _ C1.out
    have C1_2 : V6.cell? ⟨w.heap.size + 1, 2, none⟩ = some (.int .i64 D) := cell_of_row _ _ _ _ _ _ C1.out
    have P1_0 : V6.cell? ⟨V1.heap.size, 0, none⟩ = some (.int .i64 p) := cell_of_row _ _ _ _ _ _ P1.out
    have P1_1 : V6.cell? ⟨V1.heap.size, 1, none⟩ = some (.int .i64 q) := cell_of_row _ _ _ _ _ _ P1.out
    have P1_2 : V6.cell? ⟨V1.heap.size, 2, none⟩ = some (.int .i64 r) := cell_of_row _ _ _ _ _ _ P1.out
    have N1_0 : V6.cell? ⟨V5.heap.size, 0, none⟩ = some (.int .i64 X1) := cell_of_row _ _ _ _ _ _ N1.out
    have N1_1 : V6.cell? ⟨V5.heap.size, 1, none⟩ = some (.int .i64 X2) := cell_of_row _ _ _ _ _ _ N1.out
    have N1_2 : V6.cell? ⟨V5.heap.size, 2, none⟩ = some (.int .i64 X3) := cell_of_row _ _ _ _ _ _ N1.out
    have zA1 := lt_of_heap A1.out
    have zC1 := lt_of_heap C1.out
    have zP1 := lt_of_heap P1.out
    have zN1 := lt_of_heap N1.out
    go_simp
    go_wp2_with fail
    refine (HK.out _ (by first | exact md_keep hM (B6.out) | exact md_keep hM ((B6.out).alloc (B6.out.size) _) | exact md_keep hM (((B6.out).alloc (B6.out.size) _).alloc (by have := B6.out.size; simp <;> omega) _) | exact md_keep hM ((((B6.out).alloc (B6.out.size) _).alloc (by have := B6.out.size; simp <;> omega) _).alloc (by have := B6.out.size; simp <;> omega) _))).mono ?_
    rintro e V7 ⟨rfl, hb7⟩
    clear A1_0 A1_1 A1_2 zA1 C1_0 C1_1 C1_2 zC1 P1_0 P1_1 P1_2 zP1 N1_0 N1_1 N1_2 zN1
    have B7 : Hid (Below w.heap.size w V7) := by first | exact Lib.hid ((B6.out).trans (hb7.mono (by have := B6.out.size; first | assumption | (simp <;> omega) | (simp; done)))) | exact Lib.hid (((B6.out).alloc (B6.out.size) _).trans (hb7.mono (by have := B6.out.size; first | assumption | (simp <;> omega) | (simp; done)))) | exact Lib.hid ((((B6.out).alloc (B6.out.size) _).alloc (by have := B6.out.size; simp <;> omega) _).trans (hb7.mono (by have := B6.out.size; first | assumption | (simp <;> omega) | (simp; done)))) | exact Lib.hid (((((B6.out).alloc (B6.out.size) _).alloc (by have := B6.out.size; simp <;> omega) _).alloc (by have := B6.out.size; simp <;> omega) _).trans (hb7.mono (by have := B6.out.size; first | assumption | (simp <;> omega) | (simp; done))))
    first | replace A1 := Lib.hid (row_call hb7 A1.out) | replace A1 := Lib.hid (row_call hb7 (row_alloc A1.out _)) | replace A1 := Lib.hid (row_call hb7 (row_alloc (row_alloc A1.out _) _)) | replace A1 := Lib.hid (row_call hb7 (row_alloc (row_alloc (row_alloc A1.out _) _) _))
    first | replace C1 := Lib.hid (row_call hb7 C1.out) | replace C1 := Lib.hid (row_call hb7 (row_alloc C1.out _)) | replace C1 := Lib.hid (row_call hb7 (row_alloc (row_alloc C1.out _) _)) | replace C1 := Lib.hid (row_call hb7 (row_alloc (row_alloc (row_alloc C1.out _) _) _))
    first | replace P1 := Lib.hid (row_call hb7 P1.out) | replace P1 := Lib.hid (row_call hb7 (row_alloc P1.out _)) | replace P1 := Lib.hid (row_call hb7 (row_alloc (row_alloc P1.out _) _)) | replace P1 := Lib.hid (row_call hb7 (row_alloc (row_alloc (row_alloc P1.out _) _) _))
    first | replace N1 := Lib.hid (row_call hb7 N1.out) | replace N1 := Lib.hid (row_call hb7 (row_alloc N1.out _)) | replace N1 := Lib.hid (row_call hb7 (row_alloc (row_alloc N1.out _) _)) | replace N1 := Lib.hid (row_call hb7 (row_alloc (row_alloc (row_alloc N1.out _) _) _))
    clear hb7
    have A1_0 : V7.cell? ⟨w.heap.size, 0, none⟩ = some (.int .i64 y) := cell_of_row _ _ _ _ _ _ A1.out
    have A1_1 : V7.cell? ⟨w.heap.size, 1, none⟩ = some (.int .i64 m) := cell_of_row _ _ _ _ _ _ A1.out
    have A1_2 : V7.cell? ⟨w.heap.size, 2, none⟩ = some (.int .i64 d) := cell_of_row _ _ _ _ _ _ A1.out
    have C1_0 : V7.cell? ⟨w.heap.size + 1, 0, none⟩ = some (.int .i64 Y) := cell_of_row _ _ _ _ _ _ C1.out
    have C1_1 : V7.cell? ⟨w.heap.size + 1, 1, none⟩ = some (.int .i64 M) := cell_of_row _ _ _ _ _ _ C1.out
    have C1_2 : V7.cell? ⟨w.heap.size + 1, 2, none⟩ = some (.int .i64 D) := cell_of_row _ _ _ _ _ _ C1.out
    have P1_0 : V7.cell? ⟨V1.heap.size, 0, none⟩ = some (.int .i64 p) := cell_of_row _ _ _ _ _ _ P1.out
    have P1_1 : V7.cell? ⟨V1.heap.size, 1, none⟩ = some (.int .i64 q) := cell_of_row _ _ _ _ _ _ P1.out
    have P1_2 : V7.cell? ⟨V1.heap.size, 2, none⟩ = some (.int .i64 r) := cell_of_row _ _ _ _ _ _ P1.out
    have N1_0 : V7.cell? ⟨V5.heap.size, 0, none⟩ = some (.int .i64 X1) := cell_of_row _ _ _ _ _ _ N1.out
    have N1_1 : V7.cell? ⟨V5.heap.size, 1, none⟩ = some (.int .i64 X2) := cell_of_row _ _ _ _ _ _ N1.out
    have N1_2 : V7.cell? ⟨V5.heap.size, 2, none⟩ = some (.int .i64 X3) := cell_of_row _ _ _ _ _ _ N1.out
    have zA1 := lt_of_heap A1.out
    have zC1 := lt_of_heap C1.out
    have zP1 := lt_of_heap P1.out
    have zN1 := lt_of_heap N1.out
    go_simp
    go_wp2
    go_ret
    exact ⟨rfl, by first | exact B7.out | exact B7.out.alloc B7.out.size _⟩
set_option maxHeartbeats 3200000 in
set_option maxRecDepth 100000 in
theorem gr_u1 (y m d Y M D p q r X1 X2 X3 F : Int) (p1 : -100000 ≤ p) (p2 : p ≤ 100000) (q1 : -12 < q) (q2 : q < 12) (c2 : 0 < q) (c3 : 0 ≤ r)
    (H1 : Hid (∀ w, MD w → Calls Tryd.prog 7 #[.agg #[.int .i64 y, .int .i64 m, .int .i64 d], .agg #[.int .i64 Y, .int .i64 M, .int .i64 D]] w fun e w' => e = .returned (.tuple #[.agg #[.int .i64 0, .int .i64 q, .int .i64 r], .int .i64 0]) ∧ Below w.heap.size w w'))
    (HC : Hid (∀ w, Calls Tryd.prog 13 #[.agg #[.int .i64 y, .int .i64 m, .int .i64 d], .agg #[.int .i64 Y, .int .i64 M, .int .i64 D]] w fun e w' => e = .returned (.int .i64 (-1)) ∧ Below w.heap.size w w'))
    (HA : Hid (∀ w, Calls Tryd.prog 14 #[.agg #[.int .i64 y, .int .i64 m, .int .i64 d], .int .i64 (q + 1), .int .i64 0] w fun e w' => e = .returned (.tuple #[.agg #[.int .i64 X1, .int .i64 X2, .int .i64 X3], .int .i64 F]) ∧ Below w.heap.size w w'))
    (HX : (F != 0) = true ∨ (F = 0 ∧ ∀ w, Calls Tryd.prog 13 #[.agg #[.int .i64 X1, .int .i64 X2, .int .i64 X3], .agg #[.int .i64 Y, .int .i64 M, .int .i64 D]] w fun e w' => e = .returned (.int .i64 (1)) ∧ Below w.heap.size w w')) (w : World) (hM : MD w) :
    Calls Tryd.prog 5 #[.agg #[.int .i64 y, .int .i64 m, .int .i64 d], .agg #[.int .i64 Y, .int .i64 M, .int .i64 D]] w fun e w' => e = .returned (.bool true) ∧ Below w.heap.size w w' := by
  have HK := Lib.hid awake12_any
  replace hM := Lib.hid hM
  replace HX := Lib.hid HX
  go_enter Tryd.func5, Tryd.ntmps5
  go_wp2_with fail
  
  refine (H1.out _ (by first | exact md_keep hM (((Below.refl w.heap.size w).alloc (Nat.le_refl _) _).alloc (by simp <;> omega) _))).mono ?_
  rintro e V1 ⟨rfl, hb1⟩
  have B1 := Lib.hid ((((Below.refl w.heap.size w).alloc (Nat.le_refl _) _).alloc (by simp <;> omega) _).trans (hb1.mono (by first | assumption | (simp <;> omega) | (simp; done))))
  have A1 := Lib.hid (row_call hb1 (row_alloc (heap_alloc_new _ _) _))
  have C1 := Lib.hid (row_at (k' := w.heap.size + 1) (by simp) (row_call hb1 (heap_alloc_new _ _)))
  clear hb1
  have A1_0 : V1.cell? ⟨w.heap.size, 0, none⟩ = some (.int .i64 y) := cell_of_row _ _ _ _ _ _ A1.out
  have A1_1 : V1.cell? ⟨w.heap.size, 1, none⟩ = some (.int .i64 m) := cell_of_row _ _ _ _ _ _ A1.out
  have A1_2 : V1.cell? ⟨w.heap.size, 2, none⟩ = some (.int .i64 d) := cell_of_row _ _ _ _ _ _ A1.out
  have C1_0 : V1.cell? ⟨w.heap.size + 1, 0, none⟩ = some (.int .i64 Y) := cell_of_row _ _ _ _ _ _ C1.out
  have C1_1 : V1.cell? ⟨w.heap.size + 1, 1, none⟩ = some (.int .i64 M) := cell_of_row _ _ _ _ _ _ C1.out
  have C1_2 : V1.cell? ⟨w.heap.size + 1, 2, none⟩ = some (.int .i64 D) := cell_of_row _ _ _ _ _ _ C1.out
  have zA1 := lt_of_heap A1.out
  have zC1 := lt_of_heap C1.out
  go_simp
  go_wp2_with fail
  refine (HC.out _).mono ?_
  rintro e V2 ⟨rfl, hb2⟩
  clear A1_0 A1_1 A1_2 zA1 C1_0 C1_1 C1_2 zC1
  have nA1P1 := Lib.hid (lt_of_heap A1.out)
  have nC1P1 := Lib.hid (lt_of_heap C1.out)
  have B2 := Lib.hid (((B1.out).alloc (B1.out.size) _).trans (hb2.mono (by have := B1.out.size; first | assumption | (simp <;> omega) | (simp; done))))
  replace A1 := Lib.hid (row_call hb2 (row_alloc A1.out _))
  replace C1 := Lib.hid (row_call hb2 (row_alloc C1.out _))
  have P1 := Lib.hid (row_call hb2 (heap_alloc_new _ _))
  clear hb2
  have A1_0 : V2.cell? ⟨w.heap.size, 0, none⟩ = some (.int .i64 y) := cell_of_row _ _ _ _ _ _ A1.out
  have A1_1 : V2.cell? ⟨w.heap.size, 1, none⟩ = some (.int .i64 m) := cell_of_row _ _ _ _ _ _ A1.out
  have A1_2 : V2.cell? ⟨w.heap.size, 2, none⟩ = some (.int .i64 d) := cell_of_row _ _ _ _ _ _ A1.out
  have C1_0 : V2.cell? ⟨w.heap.size + 1, 0, none⟩ = some (.int .i64 Y) := cell_of_row _ _ _ _ _ _ C1.out
  have C1_1 : V2.cell? ⟨w.heap.size + 1, 1, none⟩ = some (.int .i64 M) := cell_of_row _ _ _ _ _ _ C1.out
  have C1_2 : V2.cell? ⟨w.heap.size + 1, 2, none⟩ = some (.int .i64 D) := cell_of_row _ _ _ _ _ _ C1.out
  have P1_0 : V2.cell? ⟨V1.heap.size, 0, none⟩ = some (.int .i64 0) := cell_of_row _ _ _ _ _ _ P1.out
  have P1_1 : V2.cell? ⟨V1.heap.size, 1, none⟩ = some (.int .i64 q) := cell_of_row _ _ _ _ _ _ P1.out
  have P1_2 : V2.cell? ⟨V1.heap.size, 2, none⟩ = some (.int .i64 r) := cell_of_row _ _ _ _ _ _ P1.out
  have zA1 := lt_of_heap A1.out
  have zC1 := lt_of_heap C1.out
  have zP1 := lt_of_heap P1.out
  go_simp
  go_wp2_with fail
  refine (HC.out _).mono ?_
  rintro e V3 ⟨rfl, hb3⟩
  clear A1_0 A1_1 A1_2 zA1 C1_0 C1_1 C1_2 zC1 P1_0 P1_1 P1_2 zP1
  have B3 : Hid (Below w.heap.size w V3) := by first | exact Lib.hid ((B2.out).trans (hb3.mono (by have := B2.out.size; first | assumption | (simp <;> omega) | (simp; done)))) | exact Lib.hid (((B2.out).alloc (B2.out.size) _).trans (hb3.mono (by have := B2.out.size; first | assumption | (simp <;> omega) | (simp; done)))) | exact Lib.hid ((((B2.out).alloc (B2.out.size) _).alloc (by have := B2.out.size; simp <;> omega) _).trans (hb3.mono (by have := B2.out.size; first | assumption | (simp <;> omega) | (simp; done)))) | exact Lib.hid (((((B2.out).alloc (B2.out.size) _).alloc (by have := B2.out.size; simp <;> omega) _).alloc (by have := B2.out.size; simp <;> omega) _).trans (hb3.mono (by have := B2.out.size; first | assumption | (simp <;> omega) | (simp; done))))
  first | replace A1 := Lib.hid (row_call hb3 A1.out) | replace A1 := Lib.hid (row_call hb3 (row_alloc A1.out _)) | replace A1 := Lib.hid (row_call hb3 (row_alloc (row_alloc A1.out _) _)) | replace A1 := Lib.hid (row_call hb3 (row_alloc (row_alloc (row_alloc A1.out _) _) _))
  first | replace C1 := Lib.hid (row_call hb3 C1.out) | replace C1 := Lib.hid (row_call hb3 (row_alloc C1.out _)) | replace C1 := Lib.hid (row_call hb3 (row_alloc (row_alloc C1.out _) _)) | replace C1 := Lib.hid (row_call hb3 (row_alloc (row_alloc (row_alloc C1.out _) _) _))
  first | replace P1 := Lib.hid (row_call hb3 P1.out) | replace P1 := Lib.hid (row_call hb3 (row_alloc P1.out _)) | replace P1 := Lib.hid (row_call hb3 (row_alloc (row_alloc P1.out _) _)) | replace P1 := Lib.hid (row_call hb3 (row_alloc (row_alloc (row_alloc P1.out _) _) _))
  clear hb3
  have A1_0 : V3.cell? ⟨w.heap.size, 0, none⟩ = some (.int .i64 y) := cell_of_row _ _ _ _ _ _ A1.out
  have A1_1 : V3.cell? ⟨w.heap.size, 1, none⟩ = some (.int .i64 m) := cell_of_row _ _ _ _ _ _ A1.out
  have A1_2 : V3.cell? ⟨w.heap.size, 2, none⟩ = some (.int .i64 d) := cell_of_row _ _ _ _ _ _ A1.out
  have C1_0 : V3.cell? ⟨w.heap.size + 1, 0, none⟩ = some (.int .i64 Y) := cell_of_row _ _ _ _ _ _ C1.out
  have C1_1 : V3.cell? ⟨w.heap.size + 1, 1, none⟩ = some (.int .i64 M) := cell_of_row _ _ _ _ _ _ C1.out
  have C1_2 : V3.cell? ⟨w.heap.size + 1, 2, none⟩ = some (.int .i64 D) := cell_of_row _ _ _ _ _ _ C1.out
  have P1_0 : V3.cell? ⟨V1.heap.size, 0, none⟩ = some (.int .i64 0) := cell_of_row _ _ _ _ _ _ P1.out
  have P1_1 : V3.cell? ⟨V1.heap.size, 1, none⟩ = some (.int .i64 q) := cell_of_row _ _ _ _ _ _ P1.out
  have P1_2 : V3.cell? ⟨V1.heap.size, 2, none⟩ = some (.int .i64 r) := cell_of_row _ _ _ _ _ _ P1.out
  have zA1 := lt_of_heap A1.out
  have zC1 := lt_of_heap C1.out
  have zP1 := lt_of_heap P1.out
  go_simp
  go_wp2_with fail
  refine (HC.out _).mono ?_
  rintro e V4 ⟨rfl, hb4⟩
  clear A1_0 A1_1 A1_2 zA1 C1_0 C1_1 C1_2 zC1 P1_0 P1_1 P1_2 zP1
  have B4 : Hid (Below w.heap.size w V4) := by first | exact Lib.hid ((B3.out).trans (hb4.mono (by have := B3.out.size; first | assumption | (simp <;> omega) | (simp; done)))) | exact Lib.hid (((B3.out).alloc (B3.out.size) _).trans (hb4.mono (by have := B3.out.size; first | assumption | (simp <;> omega) | (simp; done)))) | exact Lib.hid ((((B3.out).alloc (B3.out.size) _).alloc (by have := B3.out.size; simp <;> omega) _).trans (hb4.mono (by have := B3.out.size; first | assumption | (simp <;> omega) | (simp; done)))) | exact Lib.hid (((((B3.out).alloc (B3.out.size) _).alloc (by have := B3.out.size; simp <;> omega) _).alloc (by have := B3.out.size; simp <;> omega) _).trans (hb4.mono (by have := B3.out.size; first | assumption | (simp <;> omega) | (simp; done))))
  first | replace A1 := Lib.hid (row_call hb4 A1.out) | replace A1 := Lib.hid (row_call hb4 (row_alloc A1.out _)) | replace A1 := Lib.hid (row_call hb4 (row_alloc (row_alloc A1.out _) _)) | replace A1 := Lib.hid (row_call hb4 (row_alloc (row_alloc (row_alloc A1.out _) _) _))
  first | replace C1 := Lib.hid (row_call hb4 C1.out) | replace C1 := Lib.hid (row_call hb4 (row_alloc C1.out _)) | replace C1 := Lib.hid (row_call hb4 (row_alloc (row_alloc C1.out _) _)) | replace C1 := Lib.hid (row_call hb4 (row_alloc (row_alloc (row_alloc C1.out _) _) _))
  first | replace P1 := Lib.hid (row_call hb4 P1.out) | replace P1 := Lib.hid (row_call hb4 (row_alloc P1.out _)) | replace P1 := Lib.hid (row_call hb4 (row_alloc (row_alloc P1.out _) _)) | replace P1 := Lib.hid (row_call hb4 (row_alloc (row_alloc (row_alloc P1.out _) _) _))
  clear hb4
  have A1_0 : V4.cell? ⟨w.heap.size, 0, none⟩ = some (.int .i64 y) := cell_of_row _ _ _ _ _ _ A1.out
  have A1_1 : V4.cell? ⟨w.heap.size, 1, none⟩ = some (.int .i64 m) := cell_of_row _ _ _ _ _ _ A1.out
  have A1_2 : V4.cell? ⟨w.heap.size, 2, none⟩ = some (.int .i64 d) := cell_of_row _ _ _ _ _ _ A1.out
  have C1_0 : V4.cell? ⟨w.heap.size + 1, 0, none⟩ = some (.int .i64 Y) := cell_of_row _ _ _ _ _ _ C1.out
  have C1_1 : V4.cell? ⟨w.heap.size + 1, 1, none⟩ = some (.int .i64 M) := cell_of_row _ _ _ _ _ _ C1.out
  have C1_2 : V4.cell? ⟨w.heap.size + 1, 2, none⟩ = some (.int .i64 D) := cell_of_row _ _ _ _ _ _ C1.out
  have P1_0 : V4.cell? ⟨V1.heap.size, 0, none⟩ = some (.int .i64 0) := cell_of_row _ _ _ _ _ _ P1.out
  have P1_1 : V4.cell? ⟨V1.heap.size, 1, none⟩ = some (.int .i64 q) := cell_of_row _ _ _ _ _ _ P1.out
  have P1_2 : V4.cell? ⟨V1.heap.size, 2, none⟩ = some (.int .i64 r) := cell_of_row _ _ _ _ _ _ P1.out
  have zA1 := lt_of_heap A1.out
  have zC1 := lt_of_heap C1.out
  have zP1 := lt_of_heap P1.out
  go_simp
  go_wp2_with fail
  refine (HA.out _).mono ?_
  rintro e V5 ⟨rfl, hb5⟩
  clear A1_0 A1_1 A1_2 zA1 C1_0 C1_1 C1_2 zC1 P1_0 P1_1 P1_2 zP1
  have B5 : Hid (Below w.heap.size w V5) := by first | exact Lib.hid ((B4.out).trans (hb5.mono (by have := B4.out.size; first | assumption | (simp <;> omega) | (simp; done)))) | exact Lib.hid (((B4.out).alloc (B4.out.size) _).trans (hb5.mono (by have := B4.out.size; first | assumption | (simp <;> omega) | (simp; done)))) | exact Lib.hid ((((B4.out).alloc (B4.out.size) _).alloc (by have := B4.out.size; simp <;> omega) _).trans (hb5.mono (by have := B4.out.size; first | assumption | (simp <;> omega) | (simp; done)))) | exact Lib.hid (((((B4.out).alloc (B4.out.size) _).alloc (by have := B4.out.size; simp <;> omega) _).alloc (by have := B4.out.size; simp <;> omega) _).trans (hb5.mono (by have := B4.out.size; first | assumption | (simp <;> omega) | (simp; done))))
  first | replace A1 := Lib.hid (row_call hb5 A1.out) | replace A1 := Lib.hid (row_call hb5 (row_alloc A1.out _)) | replace A1 := Lib.hid (row_call hb5 (row_alloc (row_alloc A1.out _) _)) | replace A1 := Lib.hid (row_call hb5 (row_alloc (row_alloc (row_alloc A1.out _) _) _))
  first | replace C1 := Lib.hid (row_call hb5 C1.out) | replace C1 := Lib.hid (row_call hb5 (row_alloc C1.out _)) | replace C1 := Lib.hid (row_call hb5 (row_alloc (row_alloc C1.out _) _)) | replace C1 := Lib.hid (row_call hb5 (row_alloc (row_alloc (row_alloc C1.out _) _) _))
  first | replace P1 := Lib.hid (row_call hb5 P1.out) | replace P1 := Lib.hid (row_call hb5 (row_alloc P1.out _)) | replace P1 := Lib.hid (row_call hb5 (row_alloc (row_alloc P1.out _) _)) | replace P1 := Lib.hid (row_call hb5 (row_alloc (row_alloc (row_alloc P1.out _) _) _))
  clear hb5
  have A1_0 : V5.cell? ⟨w.heap.size, 0, none⟩ = some (.int .i64 y) := cell_of_row _ _ _ _ _ _ A1.out
  have A1_1 : V5.cell? ⟨w.heap.size, 1, none⟩ = some (.int .i64 m) := cell_of_row _ _ _ _ _ _ A1.out
  have A1_2 : V5.cell? ⟨w.heap.size, 2, none⟩ = some (.int .i64 d) := cell_of_row _ _ _ _ _ _ A1.out
  have C1_0 : V5.cell? ⟨w.heap.size + 1, 0, none⟩ = some (.int .i64 Y) := cell_of_row _ _ _ _ _ _ C1.out
  have C1_1 : V5.cell? ⟨w.heap.size + 1, 1, none⟩ = some (.int .i64 M) := cell_of_row _ _ _ _ _ _ C1.out
  have C1_2 : V5.cell? ⟨w.heap.size + 1, 2, none⟩ = some (.int .i64 D) := cell_of_row _ _ _ _ _ _ C1.out
  have P1_0 : V5.cell? ⟨V1.heap.size, 0, none⟩ = some (.int .i64 0) := cell_of_row _ _ _ _ _ _ P1.out
  have P1_1 : V5.cell? ⟨V1.heap.size, 1, none⟩ = some (.int .i64 q) := cell_of_row _ _ _ _ _ _ P1.out
  have P1_2 : V5.cell? ⟨V1.heap.size, 2, none⟩ = some (.int .i64 r) := cell_of_row _ _ _ _ _ _ P1.out
  have zA1 := lt_of_heap A1.out
  have zC1 := lt_of_heap C1.out
  have zP1 := lt_of_heap P1.out
  go_simp
  
  rcases HX.out with f1 | ⟨rfl, HY⟩
  · skip
    clear HX
    go_wp2_with fail
    refine (HK.out _ (by first | exact md_keep hM ((B5.out).alloc (B5.out.size) _))).mono ?_
    rintro e V6 ⟨rfl, hb6⟩
    clear A1_0 A1_1 A1_2 zA1 C1_0 C1_1 C1_2 zC1 P1_0 P1_1 P1_2 zP1
    have nA1N1 := Lib.hid (lt_of_heap A1.out)
    have nC1N1 := Lib.hid (lt_of_heap C1.out)
    have nP1N1 := Lib.hid (lt_of_heap P1.out)
    have B6 := Lib.hid (((B5.out).alloc (B5.out.size) _).trans (hb6.mono (by have := B5.out.size; first | assumption | (simp <;> omega) | (simp; done))))
    replace A1 := Lib.hid (row_call hb6 (row_alloc A1.out _))
    replace C1 := Lib.hid (row_call hb6 (row_alloc C1.out _))
    replace P1 := Lib.hid (row_call hb6 (row_alloc P1.out _))
    have N1 := Lib.hid (row_call hb6 (heap_alloc_new _ _))
    clear hb6
    have A1_0 : V6.cell? ⟨w.heap.size, 0, none⟩ = some (.int .i64 y) := cell_of_row _ _ _ _ _ _ A1.out
    have A1_1 : V6.cell? ⟨w.heap.size, 1, none⟩ = some (.int .i64 m) := cell_of_row _ _ _ _ _ _ A1.out
    have A1_2 : V6.cell? ⟨w.heap.size, 2, none⟩ = some (.int .i64 d) := cell_of_row _ _ _ _ _ _ A1.out
    have C1_0 : V6.cell? ⟨w.heap.size + 1, 0, none⟩ = some (.int .i64 Y) := cell_of_row _ _ _ _ _ _ C1.out
    have C1_1 : V6.cell? ⟨w.heap.size + 1, 1, none⟩ = some (.int .i64 M) := cell_of_row _ _ _ _ _ _ C1.out
    have C1_2 : V6.cell? ⟨w.heap.size + 1, 2, none⟩ = some (.int .i64 D) := cell_of_row _ _ _ _ _ _ C1.out
    have P1_0 : V6.cell? ⟨V1.heap.size, 0, none⟩ = some (.int .i64 0) := cell_of_row _ _ _ _ _ _ P1.out
    have P1_1 : V6.cell? ⟨V1.heap.size, 1, none⟩ = some (.int .i64 q) := cell_of_row _ _ _ _ _ _ P1.out
    have P1_2 : V6.cell? ⟨V1.heap.size, 2, none⟩ = some (.int .i64 r) := cell_of_row _ _ _ _ _ _ P1.out
    have N1_0 : V6.cell? ⟨V5.heap.size, 0, none⟩ = some (.int .i64 X1) := cell_of_row _ _ _ _ _ _ N1.out
    have N1_1 : V6.cell? ⟨V5.heap.size, 1, none⟩ = some (.int .i64 X2) := cell_of_row _ _ _ _ _ _ N1.out
    have N1_2 : V6.cell? ⟨V5.heap.size, 2, none⟩ = some (.int .i64 X3) := cell_of_row _ _ _ _ _ _ N1.out
    have zA1 := lt_of_heap A1.out
    have zC1 := lt_of_heap C1.out
    have zP1 := lt_of_heap P1.out
    have zN1 := lt_of_heap N1.out
    go_simp
    go_wp2
    go_ret
    exact ⟨rfl, by first | exact B6.out | exact B6.out.alloc B6.out.size _⟩
  · skip
    
    clear HX
    replace HY := Lib.hid HY
    go_wp2_with fail
    refine (HY.out _).mono ?_
    rintro e V6 ⟨rfl, hb6⟩
    clear A1_0 A1_1 A1_2 zA1 C1_0 C1_1 C1_2 zC1 P1_0 P1_1 P1_2 zP1
    have nA1N1 := Lib.hid (lt_of_heap A1.out)
    have nC1N1 := Lib.hid (lt_of_heap C1.out)
    have nP1N1 := Lib.hid (lt_of_heap P1.out)
    have B6 := Lib.hid (((B5.out).alloc (B5.out.size) _).trans (hb6.mono (by have := B5.out.size; first | assumption | (simp <;> omega) | (simp; done))))
    replace A1 := Lib.hid (row_call hb6 (row_alloc A1.out _))
    replace C1 := Lib.hid (row_call hb6 (row_alloc C1.out _))
    replace P1 := Lib.hid (row_call hb6 (row_alloc P1.out _))
    have N1 := Lib.hid (row_call hb6 (heap_alloc_new _ _))
    clear hb6
    have A1_0 : V6.cell? ⟨w.heap.size, 0, none⟩ = some (.int .i64 y) := cell_of_row _ _ _ _ _ _ A1.out
    have A1_1 : V6.cell? ⟨w.heap.size, 1, none⟩ = some (.int .i64 m) := cell_of_row _ _ _ _ _ _ A1.out
    have A1_2 : V6.cell? ⟨w.heap.size, 2, none⟩ = some (.int .i64 d) := cell_of_row _ _ _ _ _ _ A1.out
    have C1_0 : V6.cell? ⟨w.heap.size + 1, 0, none⟩ = some (.int .i64 Y) := cell_of_row _ _ _ _ _ _ C1.out
    have C1_1 : V6.cell? ⟨w.heap.size + 1, 1, none⟩ = some (.int .i64 M) := cell_of_row _ _ _ _ _ _ C1.out
    have C1_2 : V6.cell? ⟨w.heap.size + 1, 2, none⟩ = some (.int .i64 D) := cell_of_row _ _ _ _ _ _ C1.out
    have P1_0 : V6.cell? ⟨V1.heap.size, 0, none⟩ = some (.int .i64 0) := cell_of_row _ _ _ _ _ _ P1.out
    have P1_1 : V6.cell? ⟨V1.heap.size, 1, none⟩ = some (.int .i64 q) := cell_of_row _ _ _ _ _ _ P1.out
    have P1_2 : V6.cell? ⟨V1.heap.size, 2, none⟩ = some (.int .i64 r) := cell_of_row _ _ _ _ _ _ P1.out
    have N1_0 : V6.cell? ⟨V5.heap.size, 0, none⟩ = some (.int .i64 X1) := cell_of_row _ _ _ _ _ _ N1.out
    have N1_1 : V6.cell? ⟨V5.heap.size, 1, none⟩ = some (.int .i64 X2) := cell_of_row _ _ _ _ _ _ N1.out
    have N1_2 : V6.cell? ⟨V5.heap.size, 2, none⟩ = some (.int .i64 X3) := cell_of_row _ _ _ _ _ _ N1.out
    have zA1 := lt_of_heap A1.out
    have zC1 := lt_of_heap C1.out
    have zP1 := lt_of_heap P1.out
    have zN1 := lt_of_heap N1.out
    go_simp
    go_wp2_with fail
    refine (HK.out _ (by first | exact md_keep hM (B6.out) | exact md_keep hM ((B6.out).alloc (B6.out.size) _) | exact md_keep hM (((B6.out).alloc (B6.out.size) _).alloc (by have := B6.out.size; simp <;> omega) _) | exact md_keep hM ((((B6.out).alloc (B6.out.size) _).alloc (by have := B6.out.size; simp <;> omega) _).alloc (by have := B6.out.size; simp <;> omega) _))).mono ?_
    rintro e V7 ⟨rfl, hb7⟩
    clear A1_0 A1_1 A1_2 zA1 C1_0 C1_1 C1_2 zC1 P1_0 P1_1 P1_2 zP1 N1_0 N1_1 N1_2 zN1
    have B7 : Hid (Below w.heap.size w V7) := by first | exact Lib.hid ((B6.out).trans (hb7.mono (by have := B6.out.size; first | assumption | (simp <;> omega) | (simp; done)))) | exact Lib.hid (((B6.out).alloc (B6.out.size) _).trans (hb7.mono (by have := B6.out.size; first | assumption | (simp <;> omega) | (simp; done)))) | exact Lib.hid ((((B6.out).alloc (B6.out.size) _).alloc (by have := B6.out.size; simp <;> omega) _).trans (hb7.mono (by have := B6.out.size; first | assumption | (simp <;> omega) | (simp; done)))) | exact Lib.hid (((((B6.out).alloc (B6.out.size) _).alloc (by have := B6.out.size; simp <;> omega) _).alloc (by have := B6.out.size; simp <;> omega) _).trans (hb7.mono (by have := B6.out.size; first | assumption | (simp <;> omega) | (simp; done))))
    first | replace A1 := Lib.hid (row_call hb7 A1.out) | replace A1 := Lib.hid (row_call hb7 (row_alloc A1.out _)) | replace A1 := Lib.hid (row_call hb7 (row_alloc (row_alloc A1.out _) _)) | replace A1 := Lib.hid (row_call hb7 (row_alloc (row_alloc (row_alloc A1.out _) _) _))
    first | replace C1 := Lib.hid (row_call hb7 C1.out) | replace C1 := Lib.hid (row_call hb7 (row_alloc C1.out _)) | replace C1 := Lib.hid (row_call hb7 (row_alloc (row_alloc C1.out _) _)) | replace C1 := Lib.hid (row_call hb7 (row_alloc (row_alloc (row_alloc C1.out _) _) _))
    first | replace P1 := Lib.hid (row_call hb7 P1.out) | replace P1 := Lib.hid (row_call hb7 (row_alloc P1.out _)) | replace P1 := Lib.hid (row_call hb7 (row_alloc (row_alloc P1.out _) _)) | replace P1 := Lib.hid (row_call hb7 (row_alloc (row_alloc (row_alloc P1.out _) _) _))
    first | replace N1 := Lib.hid (row_call hb7 N1.out) | replace N1 := Lib.hid (row_call hb7 (row_alloc N1.out _)) | replace N1 := Lib.hid (row_call hb7 (row_alloc (row_alloc N1.out _) _)) | replace N1 := Lib.hid (row_call hb7 (row_alloc (row_alloc (row_alloc N1.out _) _) _))
    clear hb7
    have A1_0 : V7.cell? ⟨w.heap.size, 0, none⟩ = some (.int .i64 y) := cell_of_row _ _ _ _ _ _ A1.out
    have A1_1 : V7.cell? ⟨w.heap.size, 1, none⟩ = some (.int .i64 m) := cell_of_row _ _ _ _ _ _ A1.out
    have A1_2 : V7.cell? ⟨w.heap.size, 2, none⟩ = some (.int .i64 d) := cell_of_row _ _ _ _ _ _ A1.out
    have C1_0 : V7.cell? ⟨w.heap.size + 1, 0, none⟩ = some (.int .i64 Y) := cell_of_row _ _ _ _ _ _ C1.out
    have C1_1 : V7.cell? ⟨w.heap.size + 1, 1, none⟩ = some (.int .i64 M) := cell_of_row _ _ _ _ _ _ C1.out
    have C1_2 : V7.cell? ⟨w.heap.size + 1, 2, none⟩ = some (.int .i64 D) := cell_of_row _ _ _ _ _ _ C1.out
    have P1_0 : V7.cell? ⟨V1.heap.size, 0, none⟩ = some (.int .i64 0) := cell_of_row _ _ _ _ _ _ P1.out
    have P1_1 : V7.cell? ⟨V1.heap.size, 1, none⟩ = some (.int .i64 q) := cell_of_row _ _ _ _ _ _ P1.out
    have P1_2 : V7.cell? ⟨V1.heap.size, 2, none⟩ = some (.int .i64 r) := cell_of_row _ _ _ _ _ _ P1.out
    have N1_0 : V7.cell? ⟨V5.heap.size, 0, none⟩ = some (.int .i64 X1) := cell_of_row _ _ _ _ _ _ N1.out
    have N1_1 : V7.cell? ⟨V5.heap.size, 1, none⟩ = some (.int .i64 X2) := cell_of_row _ _ _ _ _ _ N1.out
    have N1_2 : V7.cell? ⟨V5.heap.size, 2, none⟩ = some (.int .i64 X3) := cell_of_row _ _ _ _ _ _ N1.out
    have zA1 := lt_of_heap A1.out
    have zC1 := lt_of_heap C1.out
    have zP1 := lt_of_heap P1.out
    have zN1 := lt_of_heap N1.out
    go_simp
    go_wp2
    go_ret
    exact ⟨rfl, by first | exact B7.out | exact B7.out.alloc B7.out.size _⟩
set_option maxHeartbeats 3200000 in
set_option maxRecDepth 100000 in
theorem gr_u2 (y m d Y M D p q r X1 X2 X3 F : Int) (p1 : -100000 ≤ p) (p2 : p ≤ 100000) (q1 : -12 < q) (q2 : q < 12) (c3 : 0 < r)
    (H1 : Hid (∀ w, MD w → Calls Tryd.prog 7 #[.agg #[.int .i64 y, .int .i64 m, .int .i64 d], .agg #[.int .i64 Y, .int .i64 M, .int .i64 D]] w fun e w' => e = .returned (.tuple #[.agg #[.int .i64 0, .int .i64 0, .int .i64 r], .int .i64 0]) ∧ Below w.heap.size w w'))
    (HC : Hid (∀ w, Calls Tryd.prog 13 #[.agg #[.int .i64 y, .int .i64 m, .int .i64 d], .agg #[.int .i64 Y, .int .i64 M, .int .i64 D]] w fun e w' => e = .returned (.int .i64 (-1)) ∧ Below w.heap.size w w'))
    (HA : Hid (∀ w, Calls Tryd.prog 14 #[.agg #[.int .i64 y, .int .i64 m, .int .i64 d], .int .i64 (1), .int .i64 0] w fun e w' => e = .returned (.tuple #[.agg #[.int .i64 X1, .int .i64 X2, .int .i64 X3], .int .i64 F]) ∧ Below w.heap.size w w'))
    (HX : (F != 0) = true ∨ (F = 0 ∧ ∀ w, Calls Tryd.prog 13 #[.agg #[.int .i64 X1, .int .i64 X2, .int .i64 X3], .agg #[.int .i64 Y, .int .i64 M, .int .i64 D]] w fun e w' => e = .returned (.int .i64 (1)) ∧ Below w.heap.size w w')) (w : World) (hM : MD w) :
    Calls Tryd.prog 5 #[.agg #[.int .i64 y, .int .i64 m, .int .i64 d], .agg #[.int .i64 Y, .int .i64 M, .int .i64 D]] w fun e w' => e = .returned (.bool true) ∧ Below w.heap.size w w' := by
  have HK := Lib.hid awake12_any
  replace hM := Lib.hid hM
  replace HX := Lib.hid HX
  go_enter Tryd.func5, Tryd.ntmps5
  go_wp2_with fail
  
  refine (H1.out _ (by first | exact md_keep hM (((Below.refl w.heap.size w).alloc (Nat.le_refl _) _).alloc (by simp <;> omega) _))).mono ?_
  rintro e V1 ⟨rfl, hb1⟩
  have B1 := Lib.hid ((((Below.refl w.heap.size w).alloc (Nat.le_refl _) _).alloc (by simp <;> omega) _).trans (hb1.mono (by first | assumption | (simp <;> omega) | (simp; done))))
  have A1 := Lib.hid (row_call hb1 (row_alloc (heap_alloc_new _ _) _))
  have C1 := Lib.hid (row_at (k' := w.heap.size + 1) (by simp) (row_call hb1 (heap_alloc_new _ _)))
  clear hb1
  have A1_0 : V1.cell? ⟨w.heap.size, 0, none⟩ = some (.int .i64 y) := cell_of_row _ _ _ _ _ _ A1.out
  have A1_1 : V1.cell? ⟨w.heap.size, 1, none⟩ = some (.int .i64 m) := cell_of_row _ _ _ _ _ _ A1.out
  have A1_2 : V1.cell? ⟨w.heap.size, 2, none⟩ = some (.int .i64 d) := cell_of_row _ _ _ _ _ _ A1.out
  have C1_0 : V1.cell? ⟨w.heap.size + 1, 0, none⟩ = some (.int .i64 Y) := cell_of_row _ _ _ _ _ _ C1.out
  have C1_1 : V1.cell? ⟨w.heap.size + 1, 1, none⟩ = some (.int .i64 M) := cell_of_row _ _ _ _ _ _ C1.out
  have C1_2 : V1.cell? ⟨w.heap.size + 1, 2, none⟩ = some (.int .i64 D) := cell_of_row _ _ _ _ _ _ C1.out
  have zA1 := lt_of_heap A1.out
  have zC1 := lt_of_heap C1.out
  go_simp
  go_wp2_with fail
  refine (HC.out _).mono ?_
  rintro e V2 ⟨rfl, hb2⟩
  clear A1_0 A1_1 A1_2 zA1 C1_0 C1_1 C1_2 zC1
  have nA1P1 := Lib.hid (lt_of_heap A1.out)
  have nC1P1 := Lib.hid (lt_of_heap C1.out)
  have B2 := Lib.hid (((B1.out).alloc (B1.out.size) _).trans (hb2.mono (by have := B1.out.size; first | assumption | (simp <;> omega) | (simp; done))))
  replace A1 := Lib.hid (row_call hb2 (row_alloc A1.out _))
  replace C1 := Lib.hid (row_call hb2 (row_alloc C1.out _))
  have P1 := Lib.hid (row_call hb2 (heap_alloc_new _ _))
  clear hb2
  have A1_0 : V2.cell? ⟨w.heap.size, 0, none⟩ = some (.int .i64 y) := cell_of_row _ _ _ _ _ _ A1.out
  have A1_1 : V2.cell? ⟨w.heap.size, 1, none⟩ = some (.int .i64 m) := cell_of_row _ _ _ _ _ _ A1.out
  have A1_2 : V2.cell? ⟨w.heap.size, 2, none⟩ = some (.int .i64 d) := cell_of_row _ _ _ _ _ _ A1.out
  have C1_0 : V2.cell? ⟨w.heap.size + 1, 0, none⟩ = some (.int .i64 Y) := cell_of_row _ _ _ _ _ _ C1.out
  have C1_1 : V2.cell? ⟨w.heap.size + 1, 1, none⟩ = some (.int .i64 M) := cell_of_row _ _ _ _ _ _ C1.out
  have C1_2 : V2.cell? ⟨w.heap.size + 1, 2, none⟩ = some (.int .i64 D) := cell_of_row _ _ _ _ _ _ C1.out
  have P1_0 : V2.cell? ⟨V1.heap.size, 0, none⟩ = some (.int .i64 0) := cell_of_row _ _ _ _ _ _ P1.out
  have P1_1 : V2.cell? ⟨V1.heap.size, 1, none⟩ = some (.int .i64 0) := cell_of_row _ _ _ _ _ _ P1.out
  have P1_2 : V2.cell? ⟨V1.heap.size, 2, none⟩ = some (.int .i64 r) := cell_of_row _ _ _ _ _ _ P1.out
  have zA1 := lt_of_heap A1.out
  have zC1 := lt_of_heap C1.out
  have zP1 := lt_of_heap P1.out
  go_simp
  go_wp2_with fail
  refine (HC.out _).mono ?_
  rintro e V3 ⟨rfl, hb3⟩
  clear A1_0 A1_1 A1_2 zA1 C1_0 C1_1 C1_2 zC1 P1_0 P1_1 P1_2 zP1
  have B3 : Hid (Below w.heap.size w V3) := by first | exact Lib.hid ((B2.out).trans (hb3.mono (by have := B2.out.size; first | assumption | (simp <;> omega) | (simp; done)))) | exact Lib.hid (((B2.out).alloc (B2.out.size) _).trans (hb3.mono (by have := B2.out.size; first | assumption | (simp <;> omega) | (simp; done)))) | exact Lib.hid ((((B2.out).alloc (B2.out.size) _).alloc (by have := B2.out.size; simp <;> omega) _).trans (hb3.mono (by have := B2.out.size; first | assumption | (simp <;> omega) | (simp; done)))) | exact Lib.hid (((((B2.out).alloc (B2.out.size) _).alloc (by have := B2.out.size; simp <;> omega) _).alloc (by have := B2.out.size; simp <;> omega) _).trans (hb3.mono (by have := B2.out.size; first | assumption | (simp <;> omega) | (simp; done))))
  first | replace A1 := Lib.hid (row_call hb3 A1.out) | replace A1 := Lib.hid (row_call hb3 (row_alloc A1.out _)) | replace A1 := Lib.hid (row_call hb3 (row_alloc (row_alloc A1.out _) _)) | replace A1 := Lib.hid (row_call hb3 (row_alloc (row_alloc (row_alloc A1.out _) _) _))
  first | replace C1 := Lib.hid (row_call hb3 C1.out) | replace C1 := Lib.hid (row_call hb3 (row_alloc C1.out _)) | replace C1 := Lib.hid (row_call hb3 (row_alloc (row_alloc C1.out _) _)) | replace C1 := Lib.hid (row_call hb3 (row_alloc (row_alloc (row_alloc C1.out _) _) _))
  first | replace P1 := Lib.hid (row_call hb3 P1.out) | replace P1 := Lib.hid (row_call hb3 (row_alloc P1.out _)) | replace P1 := Lib.hid (row_call hb3 (row_alloc (row_alloc P1.out _) _)) | replace P1 := Lib.hid (row_call hb3 (row_alloc (row_alloc (row_alloc P1.out _) _) _))
  clear hb3
  have A1_0 : V3.cell? ⟨w.heap.size, 0, none⟩ = some (.int .i64 y) := cell_of_row _ _ _ _ _ _ A1.out
  have A1_1 : V3.cell? ⟨w.heap.size, 1, none⟩ = some (.int .i64 m) := cell_of_row _ _ _ _ _ _ A1.out
  have A1_2 : V3.cell? ⟨w.heap.size, 2, none⟩ = some (.int .i64 d) := cell_of_row _ _ _ _ _ _ A1.out
  have C1_0 : V3.cell? ⟨w.heap.size + 1, 0, none⟩ = some (.int .i64 Y) := cell_of_row _ _ _ _ _ _ C1.out
  have C1_1 : V3.cell? ⟨w.heap.size + 1, 1, none⟩ = some (.int .i64 M) := cell_of_row _ _ _ _ _ _ C1.out
  have C1_2 : V3.cell? ⟨w.heap.size + 1, 2, none⟩ = some (.int .i64 D) := cell_of_row _ _ _ _ _ _ C1.out
  have P1_0 : V3.cell? ⟨V1.heap.size, 0, none⟩ = some (.int .i64 0) := cell_of_row _ _ _ _ _ _ P1.out
  have P1_1 : V3.cell? ⟨V1.heap.size, 1, none⟩ = some (.int .i64 0) := cell_of_row _ _ _ _ _ _ P1.out
  have P1_2 : V3.cell? ⟨V1.heap.size, 2, none⟩ = some (.int .i64 r) := cell_of_row _ _ _ _ _ _ P1.out
  have zA1 := lt_of_heap A1.out
  have zC1 := lt_of_heap C1.out
  have zP1 := lt_of_heap P1.out
  go_simp
  go_wp2_with fail
  refine (HC.out _).mono ?_
  rintro e V4 ⟨rfl, hb4⟩
  clear A1_0 A1_1 A1_2 zA1 C1_0 C1_1 C1_2 zC1 P1_0 P1_1 P1_2 zP1
  have B4 : Hid (Below w.heap.size w V4) := by first | exact Lib.hid ((B3.out).trans (hb4.mono (by have := B3.out.size; first | assumption | (simp <;> omega) | (simp; done)))) | exact Lib.hid (((B3.out).alloc (B3.out.size) _).trans (hb4.mono (by have := B3.out.size; first | assumption | (simp <;> omega) | (simp; done)))) | exact Lib.hid ((((B3.out).alloc (B3.out.size) _).alloc (by have := B3.out.size; simp <;> omega) _).trans (hb4.mono (by have := B3.out.size; first | assumption | (simp <;> omega) | (simp; done)))) | exact Lib.hid (((((B3.out).alloc (B3.out.size) _).alloc (by have := B3.out.size; simp <;> omega) _).alloc (by have := B3.out.size; simp <;> omega) _).trans (hb4.mono (by have := B3.out.size; first | assumption | (simp <;> omega) | (simp; done))))
  first | replace A1 := Lib.hid (row_call hb4 A1.out) | replace A1 := Lib.hid (row_call hb4 (row_alloc A1.out _)) | replace A1 := Lib.hid (row_call hb4 (row_alloc (row_alloc A1.out _) _)) | replace A1 := Lib.hid (row_call hb4 (row_alloc (row_alloc (row_alloc A1.out _) _) _))
  first | replace C1 := Lib.hid (row_call hb4 C1.out) | replace C1 := Lib.hid (row_call hb4 (row_alloc C1.out _)) | replace C1 := Lib.hid (row_call hb4 (row_alloc (row_alloc C1.out _) _)) | replace C1 := Lib.hid (row_call hb4 (row_alloc (row_alloc (row_alloc C1.out _) _) _))
  first | replace P1 := Lib.hid (row_call hb4 P1.out) | replace P1 := Lib.hid (row_call hb4 (row_alloc P1.out _)) | replace P1 := Lib.hid (row_call hb4 (row_alloc (row_alloc P1.out _) _)) | replace P1 := Lib.hid (row_call hb4 (row_alloc (row_alloc (row_alloc P1.out _) _) _))
  clear hb4
  have A1_0 : V4.cell? ⟨w.heap.size, 0, none⟩ = some (.int .i64 y) := cell_of_row _ _ _ _ _ _ A1.out
  have A1_1 : V4.cell? ⟨w.heap.size, 1, none⟩ = some (.int .i64 m) := cell_of_row _ _ _ _ _ _ A1.out
  have A1_2 : V4.cell? ⟨w.heap.size, 2, none⟩ = some (.int .i64 d) := cell_of_row _ _ _ _ _ _ A1.out
  have C1_0 : V4.cell? ⟨w.heap.size + 1, 0, none⟩ = some (.int .i64 Y) := cell_of_row _ _ _ _ _ _ C1.out
  have C1_1 : V4.cell? ⟨w.heap.size + 1, 1, none⟩ = some (.int .i64 M) := cell_of_row _ _ _ _ _ _ C1.out
  have C1_2 : V4.cell? ⟨w.heap.size + 1, 2, none⟩ = some (.int .i64 D) := cell_of_row _ _ _ _ _ _ C1.out
  have P1_0 : V4.cell? ⟨V1.heap.size, 0, none⟩ = some (.int .i64 0) := cell_of_row _ _ _ _ _ _ P1.out
  have P1_1 : V4.cell? ⟨V1.heap.size, 1, none⟩ = some (.int .i64 0) := cell_of_row _ _ _ _ _ _ P1.out
  have P1_2 : V4.cell? ⟨V1.heap.size, 2, none⟩ = some (.int .i64 r) := cell_of_row _ _ _ _ _ _ P1.out
  have zA1 := lt_of_heap A1.out
  have zC1 := lt_of_heap C1.out
  have zP1 := lt_of_heap P1.out
  go_simp
  go_wp2_with fail
  refine (HA.out _).mono ?_
  rintro e V5 ⟨rfl, hb5⟩
  clear A1_0 A1_1 A1_2 zA1 C1_0 C1_1 C1_2 zC1 P1_0 P1_1 P1_2 zP1
  have B5 : Hid (Below w.heap.size w V5) := by first | exact Lib.hid ((B4.out).trans (hb5.mono (by have := B4.out.size; first | assumption | (simp <;> omega) | (simp; done)))) | exact Lib.hid (((B4.out).alloc (B4.out.size) _).trans (hb5.mono (by have := B4.out.size; first | assumption | (simp <;> omega) | (simp; done)))) | exact Lib.hid ((((B4.out).alloc (B4.out.size) _).alloc (by have := B4.out.size; simp <;> omega) _).trans (hb5.mono (by have := B4.out.size; first | assumption | (simp <;> omega) | (simp; done)))) | exact Lib.hid (((((B4.out).alloc (B4.out.size) _).alloc (by have := B4.out.size; simp <;> omega) _).alloc (by have := B4.out.size; simp <;> omega) _).trans (hb5.mono (by have := B4.out.size; first | assumption | (simp <;> omega) | (simp; done))))
  first | replace A1 := Lib.hid (row_call hb5 A1.out) | replace A1 := Lib.hid (row_call hb5 (row_alloc A1.out _)) | replace A1 := Lib.hid (row_call hb5 (row_alloc (row_alloc A1.out _) _)) | replace A1 := Lib.hid (row_call hb5 (row_alloc (row_alloc (row_alloc A1.out _) _) _))
  first | replace C1 := Lib.hid (row_call hb5 C1.out) | replace C1 := Lib.hid (row_call hb5 (row_alloc C1.out _)) | replace C1 := Lib.hid (row_call hb5 (row_alloc (row_alloc C1.out _) _)) | replace C1 := Lib.hid (row_call hb5 (row_alloc (row_alloc (row_alloc C1.out _) _) _))
  first | replace P1 := Lib.hid (row_call hb5 P1.out) | replace P1 := Lib.hid (row_call hb5 (row_alloc P1.out _)) | replace P1 := Lib.hid (row_call hb5 (row_alloc (row_alloc P1.out _) _)) | replace P1 := Lib.hid (row_call hb5 (row_alloc (row_alloc (row_alloc P1.out _) _) _))
  clear hb5
  have A1_0 : V5.cell? ⟨w.heap.size, 0, none⟩ = some (.int .i64 y) := cell_of_row _ _ _ _ _ _ A1.out
  have A1_1 : V5.cell? ⟨w.heap.size, 1, none⟩ = some (.int .i64 m) := cell_of_row _ _ _ _ _ _ A1.out
  have A1_2 : V5.cell? ⟨w.heap.size, 2, none⟩ = some (.int .i64 d) := cell_of_row _ _ _ _ _ _ A1.out
  have C1_0 : V5.cell? ⟨w.heap.size + 1, 0, none⟩ = some (.int .i64 Y) := cell_of_row _ _ _ _ _ _ C1.out
  have C1_1 : V5.cell? ⟨w.heap.size + 1, 1, none⟩ = some (.int .i64 M) := cell_of_row _ _ _ _ _ _ C1.out
  have C1_2 : V5.cell? ⟨w.heap.size + 1, 2, none⟩ = some (.int .i64 D) := cell_of_row _ _ _ _ _ _ C1.out
  have P1_0 : V5.cell? ⟨V1.heap.size, 0, none⟩ = some (.int .i64 0) := cell_of_row _ _ _ _ _ _ P1.out
  have P1_1 : V5.cell? ⟨V1.heap.size, 1, none⟩ = some (.int .i64 0) := cell_of_row _ _ _ _ _ _ P1.out
  have P1_2 : V5.cell? ⟨V1.heap.size, 2, none⟩ = some (.int .i64 r) := cell_of_row _ _ _ _ _ _ P1.out
  have zA1 := lt_of_heap A1.out
  have zC1 := lt_of_heap C1.out
  have zP1 := lt_of_heap P1.out
  go_simp
  
  rcases HX.out with f1 | ⟨rfl, HY⟩
  · skip
    clear HX
    go_wp2_with fail
    refine (HK.out _ (by first | exact md_keep hM ((B5.out).alloc (B5.out.size) _))).mono ?_
    rintro e V6 ⟨rfl, hb6⟩
    clear A1_0 A1_1 A1_2 zA1 C1_0 C1_1 C1_2 zC1 P1_0 P1_1 P1_2 zP1
    have nA1N1 := Lib.hid (lt_of_heap A1.out)
    have nC1N1 := Lib.hid (lt_of_heap C1.out)
    have nP1N1 := Lib.hid (lt_of_heap P1.out)
    have B6 := Lib.hid (((B5.out).alloc (B5.out.size) _).trans (hb6.mono (by have := B5.out.size; first | assumption | (simp <;> omega) | (simp; done))))
    replace A1 := Lib.hid (row_call hb6 (row_alloc A1.out _))
    replace C1 := Lib.hid (row_call hb6 (row_alloc C1.out _))
    replace P1 := Lib.hid (row_call hb6 (row_alloc P1.out _))
    have N1 := Lib.hid (row_call hb6 (heap_alloc_new _ _))
    clear hb6
    have A1_0 : V6.cell? ⟨w.heap.size, 0, none⟩ = some (.int .i64 y) := cell_of_row _ _ _ _ _ _ A1.out
    have A1_1 : V6.cell? ⟨w.heap.size, 1, none⟩ = some (.int .i64 m) := cell_of_row _ _ _ _ _ _ A1.out
    have A1_2 : V6.cell? ⟨w.heap.size, 2, none⟩ = some (.int .i64 d) := cell_of_row _ _ _ _ _ _ A1.out
    have C1_0 : V6.cell? ⟨w.heap.size + 1, 0, none⟩ = some (.int .i64 Y) := cell_of_row _ _ _ _ _ _ C1.out
    have C1_1 : V6.cell? ⟨w.heap.size + 1, 1, none⟩ = some (.int .i64 M) := cell_of_row _ _ _ _ _ _ C1.out
    have C1_2 : V6.cell? ⟨w.heap.size + 1, 2, none⟩ = some (.int .i64 D) := cell_of_row _ _ _ _ _ _ C1.out
    have P1_0 : V6.cell? ⟨V1.heap.size, 0, none⟩ = some (.int .i64 0) := cell_of_row _ _ _ _ _ _ P1.out
    have P1_1 : V6.cell? ⟨V1.heap.size, 1, none⟩ = some (.int .i64 0) := cell_of_row _ _ _ _ _ _ P1.out
    have P1_2 : V6.cell? ⟨V1.heap.size, 2, none⟩ = some (.int .i64 r) := cell_of_row _ _ _ _ _ _ P1.out
    have N1_0 : V6.cell? ⟨V5.heap.size, 0, none⟩ = some (.int .i64 X1) := cell_of_row _ _ _ _ _ _ N1.out
    have N1_1 : V6.cell? ⟨V5.heap.size, 1, none⟩ = some (.int .i64 X2) := cell_of_row _ _ _ _ _ _ N1.out
    have N1_2 : V6.cell? ⟨V5.heap.size, 2, none⟩ = some (.int .i64 X3) := cell_of_row _ _ _ _ _ _ N1.out
    have zA1 := lt_of_heap A1.out
    have zC1 := lt_of_heap C1.out
    have zP1 := lt_of_heap P1.out
    have zN1 := lt_of_heap N1.out
    go_simp
    go_wp2
    go_ret
    exact ⟨rfl, by first | exact B6.out | exact B6.out.alloc B6.out.size _⟩
  · skip
    
    clear HX
    replace HY := Lib.hid HY
    go_wp2_with fail
    refine (HY.out _).mono ?_
    rintro e V6 ⟨rfl, hb6⟩
    clear A1_0 A1_1 A1_2 zA1 C1_0 C1_1 C1_2 zC1 P1_0 P1_1 P1_2 zP1
    have nA1N1 := Lib.hid (lt_of_heap A1.out)
    have nC1N1 := Lib.hid (lt_of_heap C1.out)
    have nP1N1 := Lib.hid (lt_of_heap P1.out)
    have B6 := Lib.hid (((B5.out).alloc (B5.out.size) _).trans (hb6.mono (by have := B5.out.size; first | assumption | (simp <;> omega) | (simp; done))))
    replace A1 := Lib.hid (row_call hb6 (row_alloc A1.out _))
    replace C1 := Lib.hid (row_call hb6 (row_alloc C1.out _))
    replace P1 := Lib.hid (row_call hb6 (row_alloc P1.out _))
    have N1 := Lib.hid (row_call hb6 (heap_alloc_new _ _))
    clear hb6
    have A1_0 : V6.cell? ⟨w.heap.size, 0, none⟩ = some (.int .i64 y) := cell_of_row _ _ _ _ _ _ A1.out
    have A1_1 : V6.cell? ⟨w.heap.size, 1, none⟩ = some (.int .i64 m) := cell_of_row _ _ _ _ _ _ A1.out
    have A1_2 : V6.cell? ⟨w.heap.size, 2, none⟩ = some (.int .i64 d) := cell_of_row _ _ _ _ _ _ A1.out
    have C1_0 : V6.cell? ⟨w.heap.size + 1, 0, none⟩ = some (.int .i64 Y) := cell_of_row _ _ _ _ _ _ C1.out
    have C1_1 : V6.cell? ⟨w.heap.size + 1, 1, none⟩ = some (.int .i64 M) := cell_of_row _ _ _ _ _ _ C1.out
    have C1_2 : V6.cell? ⟨w.heap.size + 1, 2, none⟩ = some (.int .i64 D) := cell_of_row _ _ _ _ _ _ C1.out
    have P1_0 : V6.cell? ⟨V1.heap.size, 0, none⟩ = some (.int .i64 0) := cell_of_row _ _ _ _ _ _ P1.out
    have P1_1 : V6.cell? ⟨V1.heap.size, 1, none⟩ = some (.int .i64 0) := cell_of_row _ _ _ _ _ _ P1.out
    have P1_2 : V6.cell? ⟨V1.heap.size, 2, none⟩ = some (.int .i64 r) := cell_of_row _ _ _ _ _ _ P1.out
    have N1_0 : V6.cell? ⟨V5.heap.size, 0, none⟩ = some (.int .i64 X1) := cell_of_row _ _ _ _ _ _ N1.out
    have N1_1 : V6.cell? ⟨V5.heap.size, 1, none⟩ = some (.int .i64 X2) := cell_of_row _ _ _ _ _ _ N1.out
    have N1_2 : V6.cell? ⟨V5.heap.size, 2, none⟩ = some (.int .i64 X3) := cell_of_row _ _ _ _ _ _ N1.out
    have zA1 := lt_of_heap A1.out
    have zC1 := lt_of_heap C1.out
    have zP1 := lt_of_heap P1.out
    have zN1 := lt_of_heap N1.out
    go_simp
    go_wp2_with fail
    refine (HK.out _ (by first | exact md_keep hM (B6.out) | exact md_keep hM ((B6.out).alloc (B6.out.size) _) | exact md_keep hM (((B6.out).alloc (B6.out.size) _).alloc (by have := B6.out.size; simp <;> omega) _) | exact md_keep hM ((((B6.out).alloc (B6.out.size) _).alloc (by have := B6.out.size; simp <;> omega) _).alloc (by have := B6.out.size; simp <;> omega) _))).mono ?_
    rintro e V7 ⟨rfl, hb7⟩
    clear A1_0 A1_1 A1_2 zA1 C1_0 C1_1 C1_2 zC1 P1_0 P1_1 P1_2 zP1 N1_0 N1_1 N1_2 zN1
    have B7 : Hid (Below w.heap.size w V7) := by first | exact Lib.hid ((B6.out).trans (hb7.mono (by have := B6.out.size; first | assumption | (simp <;> omega) | (simp; done)))) | exact Lib.hid (((B6.out).alloc (B6.out.size) _).trans (hb7.mono (by have := B6.out.size; first | assumption | (simp <;> omega) | (simp; done)))) | exact Lib.hid ((((B6.out).alloc (B6.out.size) _).alloc (by have := B6.out.size; simp <;> omega) _).trans (hb7.mono (by have := B6.out.size; first | assumption | (simp <;> omega) | (simp; done)))) | exact Lib.hid (((((B6.out).alloc (B6.out.size) _).alloc (by have := B6.out.size; simp <;> omega) _).alloc (by have := B6.out.size; simp <;> omega) _).trans (hb7.mono (by have := B6.out.size; first | assumption | (simp <;> omega) | (simp; done))))
    first | replace A1 := Lib.hid (row_call hb7 A1.out) | replace A1 := Lib.hid (row_call hb7 (row_alloc A1.out _)) | replace A1 := Lib.hid (row_call hb7 (row_alloc (row_alloc A1.out _) _)) | replace A1 := Lib.hid (row_call hb7 (row_alloc (row_alloc (row_alloc A1.out _) _) _))
    first | replace C1 := Lib.hid (row_call hb7 C1.out) | replace C1 := Lib.hid (row_call hb7 (row_alloc C1.out _)) | replace C1 := Lib.hid (row_call hb7 (row_alloc (row_alloc C1.out _) _)) | replace C1 := Lib.hid (row_call hb7 (row_alloc (row_alloc (row_alloc C1.out _) _) _))
    first | replace P1 := Lib.hid (row_call hb7 P1.out) | replace P1 := Lib.hid (row_call hb7 (row_alloc P1.out _)) | replace P1 := Lib.hid (row_call hb7 (row_alloc (row_alloc P1.out _) _)) | replace P1 := Lib.hid (row_call hb7 (row_alloc (row_alloc (row_alloc P1.out _) _) _))
    first | replace N1 := Lib.hid (row_call hb7 N1.out) | replace N1 := Lib.hid (row_call hb7 (row_alloc N1.out _)) | replace N1 := Lib.hid (row_call hb7 (row_alloc (row_alloc N1.out _) _)) | replace N1 := Lib.hid (row_call hb7 (row_alloc (row_alloc (row_alloc N1.out _) _) _))
    clear hb7
    have A1_0 : V7.cell? ⟨w.heap.size, 0, none⟩ = some (.int .i64 y) := cell_of_row _ _ _ _ _ _ A1.out
    have A1_1 : V7.cell? ⟨w.heap.size, 1, none⟩ = some (.int .i64 m) := cell_of_row _ _ _ _ _ _ A1.out
    have A1_2 : V7.cell? ⟨w.heap.size, 2, none⟩ = some (.int .i64 d) := cell_of_row _ _ _ _ _ _ A1.out
    have C1_0 : V7.cell? ⟨w.heap.size + 1, 0, none⟩ = some (.int .i64 Y) := cell_of_row _ _ _ _ _ _ C1.out
    have C1_1 : V7.cell? ⟨w.heap.size + 1, 1, none⟩ = some (.int .i64 M) := cell_of_row _ _ _ _ _ _ C1.out
    have C1_2 : V7.cell? ⟨w.heap.size + 1, 2, none⟩ = some (.int .i64 D) := cell_of_row _ _ _ _ _ _ C1.out
    have P1_0 : V7.cell? ⟨V1.heap.size, 0, none⟩ = some (.int .i64 0) := cell_of_row _ _ _ _ _ _ P1.out
    have P1_1 : V7.cell? ⟨V1.heap.size, 1, none⟩ = some (.int .i64 0) := cell_of_row _ _ _ _ _ _ P1.out
    have P1_2 : V7.cell? ⟨V1.heap.size, 2, none⟩ = some (.int .i64 r) := cell_of_row _ _ _ _ _ _ P1.out
    have N1_0 : V7.cell? ⟨V5.heap.size, 0, none⟩ = some (.int .i64 X1) := cell_of_row _ _ _ _ _ _ N1.out
    have N1_1 : V7.cell? ⟨V5.heap.size, 1, none⟩ = some (.int .i64 X2) := cell_of_row _ _ _ _ _ _ N1.out
    have N1_2 : V7.cell? ⟨V5.heap.size, 2, none⟩ = some (.int .i64 X3) := cell_of_row _ _ _ _ _ _ N1.out
    have zA1 := lt_of_heap A1.out
    have zC1 := lt_of_heap C1.out
    have zP1 := lt_of_heap P1.out
    have zN1 := lt_of_heap N1.out
    go_simp
    go_wp2
    go_ret
    exact ⟨rfl, by first | exact B7.out | exact B7.out.alloc B7.out.size _⟩
set_option maxHeartbeats 3200000 in
set_option maxRecDepth 100000 in
theorem gr_u3 (y m d Y M D p q r X1 X2 X3 F : Int) (p1 : -100000 ≤ p) (p2 : p ≤ 100000) (q1 : -12 < q) (q2 : q < 12) 
    (H1 : Hid (∀ w, MD w → Calls Tryd.prog 7 #[.agg #[.int .i64 y, .int .i64 m, .int .i64 d], .agg #[.int .i64 Y, .int .i64 M, .int .i64 D]] w fun e w' => e = .returned (.tuple #[.agg #[.int .i64 0, .int .i64 0, .int .i64 0], .int .i64 0]) ∧ Below w.heap.size w w'))
    (HC : Hid (∀ w, Calls Tryd.prog 13 #[.agg #[.int .i64 y, .int .i64 m, .int .i64 d], .agg #[.int .i64 Y, .int .i64 M, .int .i64 D]] w fun e w' => e = .returned (.int .i64 (-1)) ∧ Below w.heap.size w w'))
    (HA : Hid (∀ w, Calls Tryd.prog 14 #[.agg #[.int .i64 y, .int .i64 m, .int .i64 d], .int .i64 (1), .int .i64 0] w fun e w' => e = .returned (.tuple #[.agg #[.int .i64 X1, .int .i64 X2, .int .i64 X3], .int .i64 F]) ∧ Below w.heap.size w w'))
    (HX : (F != 0) = true ∨ (F = 0 ∧ ∀ w, Calls Tryd.prog 13 #[.agg #[.int .i64 X1, .int .i64 X2, .int .i64 X3], .agg #[.int .i64 Y, .int .i64 M, .int .i64 D]] w fun e w' => e = .returned (.int .i64 (1)) ∧ Below w.heap.size w w')) (w : World) (hM : MD w) :
    Calls Tryd.prog 5 #[.agg #[.int .i64 y, .int .i64 m, .int .i64 d], .agg #[.int .i64 Y, .int .i64 M, .int .i64 D]] w fun e w' => e = .returned (.bool true) ∧ Below w.heap.size w w' := by
  have HK := Lib.hid awake12_any
  replace hM := Lib.hid hM
  replace HX := Lib.hid HX
  go_enter Tryd.func5, Tryd.ntmps5
  go_wp2_with fail
  
  refine (H1.out _ (by first | exact md_keep hM (((Below.refl w.heap.size w).alloc (Nat.le_refl _) _).alloc (by simp <;> omega) _))).mono ?_
  rintro e V1 ⟨rfl, hb1⟩
  have B1 := Lib.hid ((((Below.refl w.heap.size w).alloc (Nat.le_refl _) _).alloc (by simp <;> omega) _).trans (hb1.mono (by first | assumption | (simp <;> omega) | (simp; done))))
  have A1 := Lib.hid (row_call hb1 (row_alloc (heap_alloc_new _ _) _))
  have C1 := Lib.hid (row_at (k' := w.heap.size + 1) (by simp) (row_call hb1 (heap_alloc_new _ _)))
  clear hb1
  have A1_0 : V1.cell? ⟨w.heap.size, 0, none⟩ = some (.int .i64 y) := cell_of_row _ _ _ _ _ _ A1.out
  have A1_1 : V1.cell? ⟨w.heap.size, 1, none⟩ = some (.int .i64 m) := cell_of_row _ _ _ _ _ _ A1.out
  have A1_2 : V1.cell? ⟨w.heap.size, 2, none⟩ = some (.int .i64 d) := cell_of_row _ _ _ _ _ _ A1.out
  have C1_0 : V1.cell? ⟨w.heap.size + 1, 0, none⟩ = some (.int .i64 Y) := cell_of_row _ _ _ _ _ _ C1.out
  have C1_1 : V1.cell? ⟨w.heap.size + 1, 1, none⟩ = some (.int .i64 M) := cell_of_row _ _ _ _ _ _ C1.out
  have C1_2 : V1.cell? ⟨w.heap.size + 1, 2, none⟩ = some (.int .i64 D) := cell_of_row _ _ _ _ _ _ C1.out
  have zA1 := lt_of_heap A1.out
  have zC1 := lt_of_heap C1.out
  go_simp
  go_wp2_with fail
  refine (HC.out _).mono ?_
  rintro e V2 ⟨rfl, hb2⟩
  clear A1_0 A1_1 A1_2 zA1 C1_0 C1_1 C1_2 zC1
  have nA1P1 := Lib.hid (lt_of_heap A1.out)
  have nC1P1 := Lib.hid (lt_of_heap C1.out)
  have B2 := Lib.hid (((B1.out).alloc (B1.out.size) _).trans (hb2.mono (by have := B1.out.size; first | assumption | (simp <;> omega) | (simp; done))))
  replace A1 := Lib.hid (row_call hb2 (row_alloc A1.out _))
  replace C1 := Lib.hid (row_call hb2 (row_alloc C1.out _))
  have P1 := Lib.hid (row_call hb2 (heap_alloc_new _ _))
  clear hb2
  have A1_0 : V2.cell? ⟨w.heap.size, 0, none⟩ = some (.int .i64 y) := cell_of_row _ _ _ _ _ _ A1.out
  have A1_1 : V2.cell? ⟨w.heap.size, 1, none⟩ = some (.int .i64 m) := cell_of_row _ _ _ _ _ _ A1.out
  have A1_2 : V2.cell? ⟨w.heap.size, 2, none⟩ = some (.int .i64 d) := cell_of_row _ _ _ _ _ _ A1.out
  have C1_0 : V2.cell? ⟨w.heap.size + 1, 0, none⟩ = some (.int .i64 Y) := cell_of_row _ _ _ _ _ _ C1.out
  have C1_1 : V2.cell? ⟨w.heap.size + 1, 1, none⟩ = some (.int .i64 M) := cell_of_row _ _ _ _ _ _ C1.out
  have C1_2 : V2.cell? ⟨w.heap.size + 1, 2, none⟩ = some (.int .i64 D) := cell_of_row _ _ _ _ _ _ C1.out
  have P1_0 : V2.cell? ⟨V1.heap.size, 0, none⟩ = some (.int .i64 0) := cell_of_row _ _ _ _ _ _ P1.out
  have P1_1 : V2.cell? ⟨V1.heap.size, 1, none⟩ = some (.int .i64 0) := cell_of_row _ _ _ _ _ _ P1.out
  have P1_2 : V2.cell? ⟨V1.heap.size, 2, none⟩ = some (.int .i64 0) := cell_of_row _ _ _ _ _ _ P1.out
  have zA1 := lt_of_heap A1.out
  have zC1 := lt_of_heap C1.out
  have zP1 := lt_of_heap P1.out
  go_simp
  go_wp2_with fail
  refine (HC.out _).mono ?_
  rintro e V3 ⟨rfl, hb3⟩
  clear A1_0 A1_1 A1_2 zA1 C1_0 C1_1 C1_2 zC1 P1_0 P1_1 P1_2 zP1
  have B3 : Hid (Below w.heap.size w V3) := by first | exact Lib.hid ((B2.out).trans (hb3.mono (by have := B2.out.size; first | assumption | (simp <;> omega) | (simp; done)))) | exact Lib.hid (((B2.out).alloc (B2.out.size) _).trans (hb3.mono (by have := B2.out.size; first | assumption | (simp <;> omega) | (simp; done)))) | exact Lib.hid ((((B2.out).alloc (B2.out.size) _).alloc (by have := B2.out.size; simp <;> omega) _).trans (hb3.mono (by have := B2.out.size; first | assumption | (simp <;> omega) | (simp; done)))) | exact Lib.hid (((((B2.out).alloc (B2.out.size) _).alloc (by have := B2.out.size; simp <;> omega) _).alloc (by have := B2.out.size; simp <;> omega) _).trans (hb3.mono (by have := B2.out.size; first | assumption | (simp <;> omega) | (simp; done))))
  first | replace A1 := Lib.hid (row_call hb3 A1.out) | replace A1 := Lib.hid (row_call hb3 (row_alloc A1.out _)) | replace A1 := Lib.hid (row_call hb3 (row_alloc (row_alloc A1.out _) _)) | replace A1 := Lib.hid (row_call hb3 (row_alloc (row_alloc (row_alloc A1.out _) _) _))
  first | replace C1 := Lib.hid (row_call hb3 C1.out) | replace C1 := Lib.hid (row_call hb3 (row_alloc C1.out _)) | replace C1 := Lib.hid (row_call hb3 (row_alloc (row_alloc C1.out _) _)) | replace C1 := Lib.hid (row_call hb3 (row_alloc (row_alloc (row_alloc C1.out _) _) _))
  first | replace P1 := Lib.hid (row_call hb3 P1.out) | replace P1 := Lib.hid (row_call hb3 (row_alloc P1.out _)) | replace P1 := Lib.hid (row_call hb3 (row_alloc (row_alloc P1.out _) _)) | replace P1 := Lib.hid (row_call hb3 (row_alloc (row_alloc (row_alloc P1.out _) _) _))
  clear hb3
  have A1_0 : V3.cell? ⟨w.heap.size, 0, none⟩ = some (.int .i64 y) := cell_of_row _ _ _ _ _ _ A1.out
  have A1_1 : V3.cell? ⟨w.heap.size, 1, none⟩ = some (.int .i64 m) := cell_of_row _ _ _ _ _ _ A1.out
  have A1_2 : V3.cell? ⟨w.heap.size, 2, none⟩ = some (.int .i64 d) := cell_of_row _ _ _ _ _ _ A1.out
  have C1_0 : V3.cell? ⟨w.heap.size + 1, 0, none⟩ = some (.int .i64 Y) := cell_of_row _ _ _ _ _ _ C1.out
  have C1_1 : V3.cell? ⟨w.heap.size + 1, 1, none⟩ = some (.int .i64 M) := cell_of_row _ _ _ _ _ _ C1.out
  have C1_2 : V3.cell? ⟨w.heap.size + 1, 2, none⟩ = some (.int .i64 D) := cell_of_row _ _ _ _ _ _ C1.out
  have P1_0 : V3.cell? ⟨V1.heap.size, 0, none⟩ = some (.int .i64 0) := cell_of_row _ _ _ _ _ _ P1.out
  have P1_1 : V3.cell? ⟨V1.heap.size, 1, none⟩ = some (.int .i64 0) := cell_of_row _ _ _ _ _ _ P1.out
  have P1_2 : V3.cell? ⟨V1.heap.size, 2, none⟩ = some (.int .i64 0) := cell_of_row _ _ _ _ _ _ P1.out
  have zA1 := lt_of_heap A1.out
  have zC1 := lt_of_heap C1.out
  have zP1 := lt_of_heap P1.out
  go_simp
  go_wp2_with fail
  refine (HC.out _).mono ?_
  rintro e V4 ⟨rfl, hb4⟩
  clear A1_0 A1_1 A1_2 zA1 C1_0 C1_1 C1_2 zC1 P1_0 P1_1 P1_2 zP1
  have B4 : Hid (Below w.heap.size w V4) := by first | exact Lib.hid ((B3.out).trans (hb4.mono (by have := B3.out.size; first | assumption | (simp <;> omega) | (simp; done)))) | exact Lib.hid (((B3.out).alloc (B3.out.size) _).trans (hb4.mono (by have := B3.out.size; first | assumption | (simp <;> omega) | (simp; done)))) | exact Lib.hid ((((B3.out).alloc (B3.out.size) _).alloc (by have := B3.out.size; simp <;> omega) _).trans (hb4.mono (by have := B3.out.size; first | assumption | (simp <;> omega) | (simp; done)))) | exact Lib.hid (((((B3.out).alloc (B3.out.size) _).alloc (by have := B3.out.size; simp <;> omega) _).alloc (by have := B3.out.size; simp <;> omega) _).trans (hb4.mono (by have := B3.out.size; first | assumption | (simp <;> omega) | (simp; done))))
  first | replace A1 := Lib.hid (row_call hb4 A1.out) | replace A1 := Lib.hid (row_call hb4 (row_alloc A1.out _)) | replace A1 := Lib.hid (row_call hb4 (row_alloc (row_alloc A1.out _) _)) | replace A1 := Lib.hid (row_call hb4 (row_alloc (row_alloc (row_alloc A1.out _) _) _))
  first | replace C1 := Lib.hid (row_call hb4 C1.out) | replace C1 := Lib.hid (row_call hb4 (row_alloc C1.out _)) | replace C1 := Lib.hid (row_call hb4 (row_alloc (row_alloc C1.out _) _)) | replace C1 := Lib.hid (row_call hb4 (row_alloc (row_alloc (row_alloc C1.out _) _) _))
  first | replace P1 := Lib.hid (row_call hb4 P1.out) | replace P1 := Lib.hid (row_call hb4 (row_alloc P1.out _)) | replace P1 := Lib.hid (row_call hb4 (row_alloc (row_alloc P1.out _) _)) | replace P1 := Lib.hid (row_call hb4 (row_alloc (row_alloc (row_alloc P1.out _) _) _))
  clear hb4
  have A1_0 : V4.cell? ⟨w.heap.size, 0, none⟩ = some (.int .i64 y) := cell_of_row _ _ _ _ _ _ A1.out
  have A1_1 : V4.cell? ⟨w.heap.size, 1, none⟩ = some (.int .i64 m) := cell_of_row _ _ _ _ _ _ A1.out
  have A1_2 : V4.cell? ⟨w.heap.size, 2, none⟩ = some (.int .i64 d) := cell_of_row _ _ _ _ _ _ A1.out
  have C1_0 : V4.cell? ⟨w.heap.size + 1, 0, none⟩ = some (.int .i64 Y) := cell_of_row _ _ _ _ _ _ C1.out
  have C1_1 : V4.cell? ⟨w.heap.size + 1, 1, none⟩ = some (.int .i64 M) := cell_of_row _ _ _ _ _ _ C1.out
  have C1_2 : V4.cell? ⟨w.heap.size + 1, 2, none⟩ = some (.int .i64 D) := cell_of_row _ _ _ _ _ _ C1.out
  have P1_0 : V4.cell? ⟨V1.heap.size, 0, none⟩ = some (.int .i64 0) := cell_of_row _ _ _ _ _ _ P1.out
  have P1_1 : V4.cell? ⟨V1.heap.size, 1, none⟩ = some (.int .i64 0) := cell_of_row _ _ _ _ _ _ P1.out
  have P1_2 : V4.cell? ⟨V1.heap.size, 2, none⟩ = some (.int .i64 0) := cell_of_row _ _ _ _ _ _ P1.out
  have zA1 := lt_of_heap A1.out
  have zC1 := lt_of_heap C1.out
  have zP1 := lt_of_heap P1.out
  go_simp
  go_wp2_with fail
  refine (HA.out _).mono ?_
  rintro e V5 ⟨rfl, hb5⟩
  clear A1_0 A1_1 A1_2 zA1 C1_0 C1_1 C1_2 zC1 P1_0 P1_1 P1_2 zP1
  have B5 : Hid (Below w.heap.size w V5) := by first | exact Lib.hid ((B4.out).trans (hb5.mono (by have := B4.out.size; first | assumption | (simp <;> omega) | (simp; done)))) | exact Lib.hid (((B4.out).alloc (B4.out.size) _).trans (hb5.mono (by have := B4.out.size; first | assumption | (simp <;> omega) | (simp; done)))) | exact Lib.hid ((((B4.out).alloc (B4.out.size) _).alloc (by have := B4.out.size; simp <;> omega) _).trans (hb5.mono (by have := B4.out.size; first | assumption | (simp <;> omega) | (simp; done)))) | exact Lib.hid (((((B4.out).alloc (B4.out.size) _).alloc (by have := B4.out.size; simp <;> omega) _).alloc (by have := B4.out.size; simp <;> omega) _).trans (hb5.mono (by have := B4.out.size; first | assumption | (simp <;> omega) | (simp; done))))
  first | replace A1 := Lib.hid (row_call hb5 A1.out) | replace A1 := Lib.hid (row_call hb5 (row_alloc A1.out _)) | replace A1 := Lib.hid (row_call hb5 (row_alloc (row_alloc A1.out _) _)) | replace A1 := Lib.hid (row_call hb5 (row_alloc (row_alloc (row_alloc A1.out _) _) _))
  first | replace C1 := Lib.hid (row_call hb5 C1.out) | replace C1 := Lib.hid (row_call hb5 (row_alloc C1.out _)) | replace C1 := Lib.hid (row_call hb5 (row_alloc (row_alloc C1.out _) _)) | replace C1 := Lib.hid (row_call hb5 (row_alloc (row_alloc (row_alloc C1.out _) _) _))
  first | replace P1 := Lib.hid (row_call hb5 P1.out) | replace P1 := Lib.hid (row_call hb5 (row_alloc P1.out _)) | replace P1 := Lib.hid (row_call hb5 (row_alloc (row_alloc P1.out _) _)) | replace P1 := Lib.hid (row_call hb5 (row_alloc (row_alloc (row_alloc P1.out _) _) _))
  clear hb5
  have A1_0 : V5.cell? ⟨w.heap.size, 0, none⟩ = some (.int .i64 y) := cell_of_row _ _ _ _ _ _ A1.out
  have A1_1 : V5.cell? ⟨w.heap.size, 1, none⟩ = some (.int .i64 m) := cell_of_row _ _ _ _ _ _ A1.out
  have A1_2 : V5.cell? ⟨w.heap.size, 2, none⟩ = some (.int .i64 d) := cell_of_row _ _ _ _ _ _ A1.out
  have C1_0 : V5.cell? ⟨w.heap.size + 1, 0, none⟩ = some (.int .i64 Y) := cell_of_row _ _ _ _ _ _ C1.out
  have C1_1 : V5.cell? ⟨w.heap.size + 1, 1, none⟩ = some (.int .i64 M) := cell_of_row _ _ _ _ _ _ C1.out
  have C1_2 : V5.cell? ⟨w.heap.size + 1, 2, none⟩ = some (.int .i64 D) := cell_of_row _ _ _ _ _ _ C1.out
  have P1_0 : V5.cell? ⟨V1.heap.size, 0, none⟩ = some (.int .i64 0) := cell_of_row _ _ _ _ _ _ P1.out
  have P1_1 : V5.cell? ⟨V1.heap.size, 1, none⟩ = some (.int .i64 0) := cell_of_row _ _ _ _ _ _ P1.out
  have P1_2 : V5.cell? ⟨V1.heap.size, 2, none⟩ = some (.int .i64 0) := cell_of_row _ _ _ _ _ _ P1.out
  have zA1 := lt_of_heap A1.out
  have zC1 := lt_of_heap C1.out
  have zP1 := lt_of_heap P1.out
  go_simp
  
  rcases HX.out with f1 | ⟨rfl, HY⟩
  · skip
    clear HX
    go_wp2_with fail
    refine (HK.out _ (by first | exact md_keep hM ((B5.out).alloc (B5.out.size) _))).mono ?_
    rintro e V6 ⟨rfl, hb6⟩
    clear A1_0 A1_1 A1_2 zA1 C1_0 C1_1 C1_2 zC1 P1_0 P1_1 P1_2 zP1
    have nA1N1 := Lib.hid (lt_of_heap A1.out)
    have nC1N1 := Lib.hid (lt_of_heap C1.out)
    have nP1N1 := Lib.hid (lt_of_heap P1.out)
    have B6 := Lib.hid (((B5.out).alloc (B5.out.size) _).trans (hb6.mono (by have := B5.out.size; first | assumption | (simp <;> omega) | (simp; done))))
    replace A1 := Lib.hid (row_call hb6 (row_alloc A1.out _))
    replace C1 := Lib.hid (row_call hb6 (row_alloc C1.out _))
    replace P1 := Lib.hid (row_call hb6 (row_alloc P1.out _))
    have N1 := Lib.hid (row_call hb6 (heap_alloc_new _ _))
    clear hb6
    have A1_0 : V6.cell? ⟨w.heap.size, 0, none⟩ = some (.int .i64 y) := cell_of_row _ _ _ _ _ _ A1.out
    have A1_1 : V6.cell? ⟨w.heap.size, 1, none⟩ = some (.int .i64 m) := cell_of_row _ _ _ _ _ _ A1.out
    have A1_2 : V6.cell? ⟨w.heap.size, 2, none⟩ = some (.int .i64 d) := cell_of_row _ _ _ _ _ _ A1.out
    have C1_0 : V6.cell? ⟨w.heap.size + 1, 0, none⟩ = some (.int .i64 Y) := cell_of_row _ _ _ _ _ _ C1.out
    have C1_1 : V6.cell? ⟨w.heap.size + 1, 1, none⟩ = some (.int .i64 M) := cell_of_row _ _ _ _ _ _ C1.out
    have C1_2 : V6.cell? ⟨w.heap.size + 1, 2, none⟩ = some (.int .i64 D) := cell_of_row _ _ _ _ _ _ C1.out
    have P1_0 : V6.cell? ⟨V1.heap.size, 0, none⟩ = some (.int .i64 0) := cell_of_row _ _ _ _ _ _ P1.out
    have P1_1 : V6.cell? ⟨V1.heap.size, 1, none⟩ = some (.int .i64 0) := cell_of_row _ _ _ _ _ _ P1.out
    have P1_2 : V6.cell? ⟨V1.heap.size, 2, none⟩ = some (.int .i64 0) := cell_of_row _ _ _ _ _ _ P1.out
    have N1_0 : V6.cell? ⟨V5.heap.size, 0, none⟩ = some (.int .i64 X1) := cell_of_row _ _ _ _ _ _ N1.out
    have N1_1 : V6.cell? ⟨V5.heap.size, 1, none⟩ = some (.int .i64 X2) := cell_of_row _ _ _ _ _ _ N1.out
    have N1_2 : V6.cell? ⟨V5.heap.size, 2, none⟩ = some (.int .i64 X3) := cell_of_row _ _ _ _ _ _ N1.out
    have zA1 := lt_of_heap A1.out
    have zC1 := lt_of_heap C1.out
    have zP1 := lt_of_heap P1.out
    have zN1 := lt_of_heap N1.out
    go_simp
    go_wp2
    go_ret
    exact ⟨rfl, by first | exact B6.out | exact B6.out.alloc B6.out.size _⟩
  · skip
    
    clear HX
    replace HY := Lib.hid HY
    go_wp2_with fail
    refine (HY.out _).mono ?_
    rintro e V6 ⟨rfl, hb6⟩
    clear A1_0 A1_1 A1_2 zA1 C1_0 C1_1 C1_2 zC1 P1_0 P1_1 P1_2 zP1
    have nA1N1 := Lib.hid (lt_of_heap A1.out)
    have nC1N1 := Lib.hid (lt_of_heap C1.out)
    have nP1N1 := Lib.hid (lt_of_heap P1.out)
    have B6 := Lib.hid (((B5.out).alloc (B5.out.size) _).trans (hb6.mono (by have := B5.out.size; first | assumption | (simp <;> omega) | (simp; done))))
    replace A1 := Lib.hid (row_call hb6 (row_alloc A1.out _))
    replace C1 := Lib.hid (row_call hb6 (row_alloc C1.out _))
    replace P1 := Lib.hid (row_call hb6 (row_alloc P1.out _))
    have N1 := Lib.hid (row_call hb6 (heap_alloc_new _ _))
    clear hb6
    have A1_0 : V6.cell? ⟨w.heap.size, 0, none⟩ = some (.int .i64 y) := cell_of_row _ _ _ _ _ _ A1.out
    have A1_1 : V6.cell? ⟨w.heap.size, 1, none⟩ = some (.int .i64 m) := cell_of_row _ _ _ _ _ _ A1.out
    have A1_2 : V6.cell? ⟨w.heap.size, 2, none⟩ = some (.int .i64 d) := cell_of_row _ _ _ _ _ _ A1.out
    have C1_0 : V6.cell? ⟨w.heap.size + 1, 0, none⟩ = some (.int .i64 Y) := cell_of_row _ _ _ _ _ _ C1.out
    have C1_1 : V6.cell? ⟨w.heap.size + 1, 1, none⟩ = some (.int .i64 M) := cell_of_row _ _ _ _ _ _ C1.out
    have C1_2 : V6.cell? ⟨w.heap.size + 1, 2, none⟩ = some (.int .i64 D) := cell_of_row _ _ _ _ _ _ C1.out
    have P1_0 : V6.cell? ⟨V1.heap.size, 0, none⟩ = some (.int .i64 0) := cell_of_row _ _ _ _ _ _ P1.out
    have P1_1 : V6.cell? ⟨V1.heap.size, 1, none⟩ = some (.int .i64 0) := cell_of_row _ _ _ _ _ _ P1.out
    have P1_2 : V6.cell? ⟨V1.heap.size, 2, none⟩ = some (.int .i64 0) := cell_of_row _ _ _ _ _ _ P1.out
    have N1_0 : V6.cell? ⟨V5.heap.size, 0, none⟩ = some (.int .i64 X1) := cell_of_row _ _ _ _ _ _ N1.out
    have N1_1 : V6.cell? ⟨V5.heap.size, 1, none⟩ = some (.int .i64 X2) := cell_of_row _ _ _ _ _ _ N1.out
    have N1_2 : V6.cell? ⟨V5.heap.size, 2, none⟩ = some (.int .i64 X3) := cell_of_row _ _ _ _ _ _ N1.out
    have zA1 := lt_of_heap A1.out
    have zC1 := lt_of_heap C1.out
    have zP1 := lt_of_heap P1.out
    have zN1 := lt_of_heap N1.out
    go_simp
    go_wp2_with fail
    refine (HK.out _ (by first | exact md_keep hM (B6.out) | exact md_keep hM ((B6.out).alloc (B6.out.size) _) | exact md_keep hM (((B6.out).alloc (B6.out.size) _).alloc (by have := B6.out.size; simp <;> omega) _) | exact md_keep hM ((((B6.out).alloc (B6.out.size) _).alloc (by have := B6.out.size; simp <;> omega) _).alloc (by have := B6.out.size; simp <;> omega) _))).mono ?_
    rintro e V7 ⟨rfl, hb7⟩
    clear A1_0 A1_1 A1_2 zA1 C1_0 C1_1 C1_2 zC1 P1_0 P1_1 P1_2 zP1 N1_0 N1_1 N1_2 zN1
    have B7 : Hid (Below w.heap.size w V7) := by first | exact Lib.hid ((B6.out).trans (hb7.mono (by have := B6.out.size; first | assumption | (simp <;> omega) | (simp; done)))) | exact Lib.hid (((B6.out).alloc (B6.out.size) _).trans (hb7.mono (by have := B6.out.size; first | assumption | (simp <;> omega) | (simp; done)))) | exact Lib.hid ((((B6.out).alloc (B6.out.size) _).alloc (by have := B6.out.size; simp <;> omega) _).trans (hb7.mono (by have := B6.out.size; first | assumption | (simp <;> omega) | (simp; done)))) | exact Lib.hid (((((B6.out).alloc (B6.out.size) _).alloc (by have := B6.out.size; simp <;> omega) _).alloc (by have := B6.out.size; simp <;> omega) _).trans (hb7.mono (by have := B6.out.size; first | assumption | (simp <;> omega) | (simp; done))))
    first | replace A1 := Lib.hid (row_call hb7 A1.out) | replace A1 := Lib.hid (row_call hb7 (row_alloc A1.out _)) | replace A1 := Lib.hid (row_call hb7 (row_alloc (row_alloc A1.out _) _)) | replace A1 := Lib.hid (row_call hb7 (row_alloc (row_alloc (row_alloc A1.out _) _) _))
    first | replace C1 := Lib.hid (row_call hb7 C1.out) | replace C1 := Lib.hid (row_call hb7 (row_alloc C1.out _)) | replace C1 := Lib.hid (row_call hb7 (row_alloc (row_alloc C1.out _) _)) | replace C1 := Lib.hid (row_call hb7 (row_alloc (row_alloc (row_alloc C1.out _) _) _))
    first | replace P1 := Lib.hid (row_call hb7 P1.out) | replace P1 := Lib.hid (row_call hb7 (row_alloc P1.out _)) | replace P1 := Lib.hid (row_call hb7 (row_alloc (row_alloc P1.out _) _)) | replace P1 := Lib.hid (row_call hb7 (row_alloc (row_alloc (row_alloc P1.out _) _) _))
    first | replace N1 := Lib.hid (row_call hb7 N1.out) | replace N1 := Lib.hid (row_call hb7 (row_alloc N1.out _)) | replace N1 := Lib.hid (row_call hb7 (row_alloc (row_alloc N1.out _) _)) | replace N1 := Lib.hid (row_call hb7 (row_alloc (row_alloc (row_alloc N1.out _) _) _))
    clear hb7
    have A1_0 : V7.cell? ⟨w.heap.size, 0, none⟩ = some (.int .i64 y) := cell_of_row _ _ _ _ _ _ A1.out
    have A1_1 : V7.cell? ⟨w.heap.size, 1, none⟩ = some (.int .i64 m) := cell_of_row _ _ _ _ _ _ A1.out
    have A1_2 : V7.cell? ⟨w.heap.size, 2, none⟩ = some (.int .i64 d) := cell_of_row _ _ _ _ _ _ A1.out
    have C1_0 : V7.cell? ⟨w.heap.size + 1, 0, none⟩ = some (.int .i64 Y) := cell_of_row _ _ _ _ _ _ C1.out
    have C1_1 : V7.cell? ⟨w.heap.size + 1, 1, none⟩ = some (.int .i64 M) := cell_of_row _ _ _ _ _ _ C1.out
    have C1_2 : V7.cell? ⟨w.heap.size + 1, 2, none⟩ = some (.int .i64 D) := cell_of_row _ _ _ _ _ _ C1.out
    have P1_0 : V7.cell? ⟨V1.heap.size, 0, none⟩ = some (.int .i64 0) := cell_of_row _ _ _ _ _ _ P1.out
    have P1_1 : V7.cell? ⟨V1.heap.size, 1, none⟩ = some (.int .i64 0) := cell_of_row _ _ _ _ _ _ P1.out
    have P1_2 : V7.cell? ⟨V1.heap.size, 2, none⟩ = some (.int .i64 0) := cell_of_row _ _ _ _ _ _ P1.out
    have N1_0 : V7.cell? ⟨V5.heap.size, 0, none⟩ = some (.int .i64 X1) := cell_of_row _ _ _ _ _ _ N1.out
    have N1_1 : V7.cell? ⟨V5.heap.size, 1, none⟩ = some (.int .i64 X2) := cell_of_row _ _ _ _ _ _ N1.out
    have N1_2 : V7.cell? ⟨V5.heap.size, 2, none⟩ = some (.int .i64 X3) := cell_of_row _ _ _ _ _ _ N1.out
    have zA1 := lt_of_heap A1.out
    have zC1 := lt_of_heap C1.out
    have zP1 := lt_of_heap P1.out
    have zN1 := lt_of_heap N1.out
    go_simp
    go_wp2
    go_ret
    exact ⟨rfl, by first | exact B7.out | exact B7.out.alloc B7.out.size _⟩
set_option maxHeartbeats 3200000 in
set_option maxRecDepth 100000 in
theorem gr_d0 (y m d Y M D p q r X1 X2 X3 F : Int) (p1 : -100000 ≤ p) (p2 : p ≤ 100000) (q1 : -12 < q) (q2 : q < 12) (c1 : p < 0) (c2 : q ≤ 0) (c3 : r ≤ 0)
    (H1 : Hid (∀ w, MD w → Calls Tryd.prog 7 #[.agg #[.int .i64 y, .int .i64 m, .int .i64 d], .agg #[.int .i64 Y, .int .i64 M, .int .i64 D]] w fun e w' => e = .returned (.tuple #[.agg #[.int .i64 p, .int .i64 q, .int .i64 r], .int .i64 0]) ∧ Below w.heap.size w w'))
    (HC : Hid (∀ w, Calls Tryd.prog 13 #[.agg #[.int .i64 y, .int .i64 m, .int .i64 d], .agg #[.int .i64 Y, .int .i64 M, .int .i64 D]] w fun e w' => e = .returned (.int .i64 (1)) ∧ Below w.heap.size w w'))
    (HA : Hid (∀ w, Calls Tryd.prog 14 #[.agg #[.int .i64 y, .int .i64 m, .int .i64 d], .int .i64 (12 * p + q + -1), .int .i64 0] w fun e w' => e = .returned (.tuple #[.agg #[.int .i64 X1, .int .i64 X2, .int .i64 X3], .int .i64 F]) ∧ Below w.heap.size w w'))
    (HX : (F != 0) = true ∨ (F = 0 ∧ ∀ w, Calls Tryd.prog 13 #[.agg #[.int .i64 X1, .int .i64 X2, .int .i64 X3], .agg #[.int .i64 Y, .int .i64 M, .int .i64 D]] w fun e w' => e = .returned (.int .i64 (-1)) ∧ Below w.heap.size w w')) (w : World) (hM : MD w) :
    Calls Tryd.prog 5 #[.agg #[.int .i64 y, .int .i64 m, .int .i64 d], .agg #[.int .i64 Y, .int .i64 M, .int .i64 D]] w fun e w' => e = .returned (.bool true) ∧ Below w.heap.size w w' := by
  have HK := Lib.hid awake12_any
  replace hM := Lib.hid hM
  replace HX := Lib.hid HX
  go_enter Tryd.func5, Tryd.ntmps5
  go_wp2_with fail
  
  refine (H1.out _ (by first | exact md_keep hM (((Below.refl w.heap.size w).alloc (Nat.le_refl _) _).alloc (by simp <;> omega) _))).mono ?_
  rintro e V1 ⟨rfl, hb1⟩
  have B1 := Lib.hid ((((Below.refl w.heap.size w).alloc (Nat.le_refl _) _).alloc (by simp <;> omega) _).trans (hb1.mono (by first | assumption | (simp <;> omega) | (simp; done))))
  have A1 := Lib.hid (row_call hb1 (row_alloc (heap_alloc_new _ _) _))
  have C1 := Lib.hid (row_at (k' := w.heap.size + 1) (by simp) (row_call hb1 (heap_alloc_new _ _)))
  clear hb1
  have A1_0 : V1.cell? ⟨w.heap.size, 0, none⟩ = some (.int .i64 y) := cell_of_row _ _ _ _ _ _ A1.out
  have A1_1 : V1.cell? ⟨w.heap.size, 1, none⟩ = some (.int .i64 m) := cell_of_row _ _ _ _ _ _ A1.out
  have A1_2 : V1.cell? ⟨w.heap.size, 2, none⟩ = some (.int .i64 d) := cell_of_row _ _ _ _ _ _ A1.out
  have C1_0 : V1.cell? ⟨w.heap.size + 1, 0, none⟩ = some (.int .i64 Y) := cell_of_row _ _ _ _ _ _ C1.out
  have C1_1 : V1.cell? ⟨w.heap.size + 1, 1, none⟩ = some (.int .i64 M) := cell_of_row _ _ _ _ _ _ C1.out
  have C1_2 : V1.cell? ⟨w.heap.size + 1, 2, none⟩ = some (.int .i64 D) := cell_of_row _ _ _ _ _ _ C1.out
  have zA1 := lt_of_heap A1.out
  have zC1 := lt_of_heap C1.out
  go_simp
  go_wp2_with fail
  refine (HC.out _).mono ?_
  rintro e V2 ⟨rfl, hb2⟩
  clear A1_0 A1_1 A1_2 zA1 C1_0 C1_1 C1_2 zC1
  have nA1P1 := Lib.hid (lt_of_heap A1.out)
  have nC1P1 := Lib.hid (lt_of_heap C1.out)
  have B2 := Lib.hid (((B1.out).alloc (B1.out.size) _).trans (hb2.mono (by have := B1.out.size; first | assumption | (simp <;> omega) | (simp; done))))
  replace A1 := Lib.hid (row_call hb2 (row_alloc A1.out _))
  replace C1 := Lib.hid (row_call hb2 (row_alloc C1.out _))
  have P1 := Lib.hid (row_call hb2 (heap_alloc_new _ _))
  clear hb2
  have A1_0 : V2.cell? ⟨w.heap.size, 0, none⟩ = some (.int .i64 y) := cell_of_row _ _ _ _ _ _ A1.out
  have A1_1 : V2.cell? ⟨w.heap.size, 1, none⟩ = some (.int .i64 m) := cell_of_row _ _ _ _ _ _ A1.out
  have A1_2 : V2.cell? ⟨w.heap.size, 2, none⟩ = some (.int .i64 d) := cell_of_row _ _ _ _ _ _ A1.out
  have C1_0 : V2.cell? ⟨w.heap.size + 1, 0, none⟩ = some (.int .i64 Y) := cell_of_row _ _ _ _ _ _ C1.out
  have C1_1 : V2.cell? ⟨w.heap.size + 1, 1, none⟩ = some (.int .i64 M) := cell_of_row _ _ _ _ _ _ C1.out
  have C1_2 : V2.cell? ⟨w.heap.size + 1, 2, none⟩ = some (.int .i64 D) := cell_of_row _ _ _ _ _ _ C1.out
  have P1_0 : V2.cell? ⟨V1.heap.size, 0, none⟩ = some (.int .i64 p) := cell_of_row _ _ _ _ _ _ P1.out
  have P1_1 : V2.cell? ⟨V1.heap.size, 1, none⟩ = some (.int .i64 q) := cell_of_row _ _ _ _ _ _ P1.out
  have P1_2 : V2.cell? ⟨V1.heap.size, 2, none⟩ = some (.int .i64 r) := cell_of_row _ _ _ _ _ _ P1.out
  have zA1 := lt_of_heap A1.out
  have zC1 := lt_of_heap C1.out
  have zP1 := lt_of_heap P1.out
  go_simp
  go_wp2_with fail
  refine (HC.out _).mono ?_
  rintro e V3 ⟨rfl, hb3⟩
  clear A1_0 A1_1 A1_2 zA1 C1_0 C1_1 C1_2 zC1 P1_0 P1_1 P1_2 zP1
  have B3 : Hid (Below w.heap.size w V3) := by first | exact Lib.hid ((B2.out).trans (hb3.mono (by have := B2.out.size; first | assumption | (simp <;> omega) | (simp; done)))) | exact Lib.hid (((B2.out).alloc (B2.out.size) _).trans (hb3.mono (by have := B2.out.size; first | assumption | (simp <;> omega) | (simp; done)))) | exact Lib.hid ((((B2.out).alloc (B2.out.size) _).alloc (by have := B2.out.size; simp <;> omega) _).trans (hb3.mono (by have := B2.out.size; first | assumption | (simp <;> omega) | (simp; done)))) | exact Lib.hid (((((B2.out).alloc (B2.out.size) _).alloc (by have := B2.out.size; simp <;> omega) _).alloc (by have := B2.out.size; simp <;> omega) _).trans (hb3.mono (by have := B2.out.size; first | assumption | (simp <;> omega) | (simp; done))))
  first | replace A1 := Lib.hid (row_call hb3 A1.out) | replace A1 := Lib.hid (row_call hb3 (row_alloc A1.out _)) | replace A1 := Lib.hid (row_call hb3 (row_alloc (row_alloc A1.out _) _)) | replace A1 := Lib.hid (row_call hb3 (row_alloc (row_alloc (row_alloc A1.out _) _) _))
  first | replace C1 := Lib.hid (row_call hb3 C1.out) | replace C1 := Lib.hid (row_call hb3 (row_alloc C1.out _)) | replace C1 := Lib.hid (row_call hb3 (row_alloc (row_alloc C1.out _) _)) | replace C1 := Lib.hid (row_call hb3 (row_alloc (row_alloc (row_alloc C1.out _) _) _))
  first | replace P1 := Lib.hid (row_call hb3 P1.out) | replace P1 := Lib.hid (row_call hb3 (row_alloc P1.out _)) | replace P1 := Lib.hid (row_call hb3 (row_alloc (row_alloc P1.out _) _)) | replace P1 := Lib.hid (row_call hb3 (row_alloc (row_alloc (row_alloc P1.out _) _) _))
  clear hb3
  have A1_0 : V3.cell? ⟨w.heap.size, 0, none⟩ = some (.int .i64 y) := cell_of_row _ _ _ _ _ _ A1.out
  have A1_1 : V3.cell? ⟨w.heap.size, 1, none⟩ = some (.int .i64 m) := cell_of_row _ _ _ _ _ _ A1.out
  have A1_2 : V3.cell? ⟨w.heap.size, 2, none⟩ = some (.int .i64 d) := cell_of_row _ _ _ _ _ _ A1.out
  have C1_0 : V3.cell? ⟨w.heap.size + 1, 0, none⟩ = some (.int .i64 Y) := cell_of_row _ _ _ _ _ _ C1.out
  have C1_1 : V3.cell? ⟨w.heap.size + 1, 1, none⟩ = some (.int .i64 M) := cell_of_row _ _ _ _ _ _ C1.out
  have C1_2 : V3.cell? ⟨w.heap.size + 1, 2, none⟩ = some (.int .i64 D) := cell_of_row _ _ _ _ _ _ C1.out
  have P1_0 : V3.cell? ⟨V1.heap.size, 0, none⟩ = some (.int .i64 p) := cell_of_row _ _ _ _ _ _ P1.out
  have P1_1 : V3.cell? ⟨V1.heap.size, 1, none⟩ = some (.int .i64 q) := cell_of_row _ _ _ _ _ _ P1.out
  have P1_2 : V3.cell? ⟨V1.heap.size, 2, none⟩ = some (.int .i64 r) := cell_of_row _ _ _ _ _ _ P1.out
  have zA1 := lt_of_heap A1.out
  have zC1 := lt_of_heap C1.out
  have zP1 := lt_of_heap P1.out
  go_simp
  go_wp2_with fail
  refine (HC.out _).mono ?_
  rintro e V4 ⟨rfl, hb4⟩
  clear A1_0 A1_1 A1_2 zA1 C1_0 C1_1 C1_2 zC1 P1_0 P1_1 P1_2 zP1
  have B4 : Hid (Below w.heap.size w V4) := by first | exact Lib.hid ((B3.out).trans (hb4.mono (by have := B3.out.size; first | assumption | (simp <;> omega) | (simp; done)))) | exact Lib.hid (((B3.out).alloc (B3.out.size) _).trans (hb4.mono (by have := B3.out.size; first | assumption | (simp <;> omega) | (simp; done)))) | exact Lib.hid ((((B3.out).alloc (B3.out.size) _).alloc (by have := B3.out.size; simp <;> omega) _).trans (hb4.mono (by have := B3.out.size; first | assumption | (simp <;> omega) | (simp; done)))) | exact Lib.hid (((((B3.out).alloc (B3.out.size) _).alloc (by have := B3.out.size; simp <;> omega) _).alloc (by have := B3.out.size; simp <;> omega) _).trans (hb4.mono (by have := B3.out.size; first | assumption | (simp <;> omega) | (simp; done))))
  first | replace A1 := Lib.hid (row_call hb4 A1.out) | replace A1 := Lib.hid (row_call hb4 (row_alloc A1.out _)) | replace A1 := Lib.hid (row_call hb4 (row_alloc (row_alloc A1.out _) _)) | replace A1 := Lib.hid (row_call hb4 (row_alloc (row_alloc (row_alloc A1.out _) _) _))
  first | replace C1 := Lib.hid (row_call hb4 C1.out) | replace C1 := Lib.hid (row_call hb4 (row_alloc C1.out _)) | replace C1 := Lib.hid (row_call hb4 (row_alloc (row_alloc C1.out _) _)) | replace C1 := Lib.hid (row_call hb4 (row_alloc (row_alloc (row_alloc C1.out _) _) _))
  first | replace P1 := Lib.hid (row_call hb4 P1.out) | replace P1 := Lib.hid (row_call hb4 (row_alloc P1.out _)) | replace P1 := Lib.hid (row_call hb4 (row_alloc (row_alloc P1.out _) _)) | replace P1 := Lib.hid (row_call hb4 (row_alloc (row_alloc (row_alloc P1.out _) _) _))
  clear hb4
  have A1_0 : V4.cell? ⟨w.heap.size, 0, none⟩ = some (.int .i64 y) := cell_of_row _ _ _ _ _ _ A1.out
  have A1_1 : V4.cell? ⟨w.heap.size, 1, none⟩ = some (.int .i64 m) := cell_of_row _ _ _ _ _ _ A1.out
  have A1_2 : V4.cell? ⟨w.heap.size, 2, none⟩ = some (.int .i64 d) := cell_of_row _ _ _ _ _ _ A1.out
  have C1_0 : V4.cell? ⟨w.heap.size + 1, 0, none⟩ = some (.int .i64 Y) := cell_of_row _ _ _ _ _ _ C1.out
  have C1_1 : V4.cell? ⟨w.heap.size + 1, 1, none⟩ = some (.int .i64 M) := cell_of_row _ _ _ _ _ _ C1.out
  have C1_2 : V4.cell? ⟨w.heap.size + 1, 2, none⟩ = some (.int .i64 D) := cell_of_row _ _ _ _ _ _ C1.out
  have P1_0 : V4.cell? ⟨V1.heap.size, 0, none⟩ = some (.int .i64 p) := cell_of_row _ _ _ _ _ _ P1.out
  have P1_1 : V4.cell? ⟨V1.heap.size, 1, none⟩ = some (.int .i64 q) := cell_of_row _ _ _ _ _ _ P1.out
  have P1_2 : V4.cell? ⟨V1.heap.size, 2, none⟩ = some (.int .i64 r) := cell_of_row _ _ _ _ _ _ P1.out
  have zA1 := lt_of_heap A1.out
  have zC1 := lt_of_heap C1.out
  have zP1 := lt_of_heap P1.out
  go_simp
  go_wp2_with fail
  refine (HA.out _).mono ?_
  rintro e V5 ⟨rfl, hb5⟩
  clear A1_0 A1_1 A1_2 zA1 C1_0 C1_1 C1_2 zC1 P1_0 P1_1 P1_2 zP1
  have B5 : Hid (Below w.heap.size w V5) := by first | exact Lib.hid ((B4.out).trans (hb5.mono (by have := B4.out.size; first | assumption | (simp <;> omega) | (simp; done)))) | exact Lib.hid (((B4.out).alloc (B4.out.size) _).trans (hb5.mono (by have := B4.out.size; first | assumption | (simp <;> omega) | (simp; done)))) | exact Lib.hid ((((B4.out).alloc (B4.out.size) _).alloc (by have := B4.out.size; simp <;> omega) _).trans (hb5.mono (by have := B4.out.size; first | assumption | (simp <;> omega) | (simp; done)))) | exact Lib.hid (((((B4.out).alloc (B4.out.size) _).alloc (by have := B4.out.size; simp <;> omega) _).alloc (by have := B4.out.size; simp <;> omega) _).trans (hb5.mono (by have := B4.out.size; first | assumption | (simp <;> omega) | (simp; done))))
  first | replace A1 := Lib.hid (row_call hb5 A1.out) | replace A1 := Lib.hid (row_call hb5 (row_alloc A1.out _)) | replace A1 := Lib.hid (row_call hb5 (row_alloc (row_alloc A1.out _) _)) | replace A1 := Lib.hid (row_call hb5 (row_alloc (row_alloc (row_alloc A1.out _) _) _))
  first | replace C1 := Lib.hid (row_call hb5 C1.out) | replace C1 := Lib.hid (row_call hb5 (row_alloc C1.out _)) | replace C1 := Lib.hid (row_call hb5 (row_alloc (row_alloc C1.out _) _)) | replace C1 := Lib.hid (row_call hb5 (row_alloc (row_alloc (row_alloc C1.out _) _) _))
  first | replace P1 := Lib.hid (row_call hb5 P1.out) | replace P1 := Lib.hid (row_call hb5 (row_alloc P1.out _)) | replace P1 := Lib.hid (row_call hb5 (row_alloc (row_alloc P1.out _) _)) | replace P1 := Lib.hid (row_call hb5 (row_alloc (row_alloc (row_alloc P1.out _) _) _))
  clear hb5
  have A1_0 : V5.cell? ⟨w.heap.size, 0, none⟩ = some (.int .i64 y) := cell_of_row _ _ _ _ _ _ A1.out
  have A1_1 : V5.cell? ⟨w.heap.size, 1, none⟩ = some (.int .i64 m) := cell_of_row _ _ _ _ _ _ A1.out
  have A1_2 : V5.cell? ⟨w.heap.size, 2, none⟩ = some (.int .i64 d) := cell_of_row _ _ _ _ _ _ A1.out
  have C1_0 : V5.cell? ⟨w.heap.size + 1, 0, none⟩ = some (.int .i64 Y) := cell_of_row _ _ _ _ _ _ C1.out
  have C1_1 : V5.cell? ⟨w.heap.size + 1, 1, none⟩ = some (.int .i64 M) := cell_of_row _ _ _ _ _ _ C1.out
  have C1_2 : V5.cell? ⟨w.heap.size + 1, 2, none⟩ = some (.int .i64 D) := cell_of_row _ _ _ _ _ _ C1.out
  have P1_0 : V5.cell? ⟨V1.heap.size, 0, none⟩ = some (.int .i64 p) := cell_of_row _ _ _ _ _ _ P1.out
  have P1_1 : V5.cell? ⟨V1.heap.size, 1, none⟩ = some (.int .i64 q) := cell_of_row _ _ _ _ _ _ P1.out
  have P1_2 : V5.cell? ⟨V1.heap.size, 2, none⟩ = some (.int .i64 r) := cell_of_row _ _ _ _ _ _ P1.out
  have zA1 := lt_of_heap A1.out
  have zC1 := lt_of_heap C1.out
  have zP1 := lt_of_heap P1.out
  go_simp
  
  rcases HX.out with f1 | ⟨rfl, HY⟩
  · skip
    clear HX
    go_wp2_with fail
    refine (HK.out _ (by first | exact md_keep hM ((B5.out).alloc (B5.out.size) _))).mono ?_
    rintro e V6 ⟨rfl, hb6⟩
    clear A1_0 A1_1 A1_2 zA1 C1_0 C1_1 C1_2 zC1 P1_0 P1_1 P1_2 zP1
    have nA1N1 := Lib.hid (lt_of_heap A1.out)
    have nC1N1 := Lib.hid (lt_of_heap C1.out)
    have nP1N1 := Lib.hid (lt_of_heap P1.out)
    have B6 := Lib.hid (((B5.out).alloc (B5.out.size) _).trans (hb6.mono (by have := B5.out.size; first | assumption | (simp <;> omega) | (simp; done))))
    replace A1 := Lib.hid (row_call hb6 (row_alloc A1.out _))
    replace C1 := Lib.hid (row_call hb6 (row_alloc C1.out _))
    replace P1 := Lib.hid (row_call hb6 (row_alloc P1.out _))
    have N1 := Lib.hid (row_call hb6 (heap_alloc_new _ _))
    clear hb6
    have A1_0 : V6.cell? ⟨w.heap.size, 0, none⟩ = some (.int .i64 y) := cell_of_row _ _ _ _ _ _ A1.out
    have A1_1 : V6.cell? ⟨w.heap.size, 1, none⟩ = some (.int .i64 m) := cell_of_row _ _ _ _ _ _ A1.out
    have A1_2 : V6.cell? ⟨w.heap.size, 2, none⟩ = some (.int .i64 d) := cell_of_row _ _ _ _ _ _ A1.out
    have C1_0 : V6.cell? ⟨w.heap.size + 1, 0, none⟩ = some (.int .i64 Y) := cell_of_row _ _ _ _ _ _ C1.out
    have C1_1 : V6.cell? ⟨w.heap.size + 1, 1, none⟩ = some (.int .i64 M) := cell_of_row _ _ _ _ _ _ C1.out
    have C1_2 : V6.cell? ⟨w.heap.size + 1, 2, none⟩ = some (.int .i64 D) := cell_of_row _ _ _ _ _ _ C1.out
    have P1_0 : V6.cell? ⟨V1.heap.size, 0, none⟩ = some (.int .i64 p) := cell_of_row _ _ _ _ _ _ P1.out
    have P1_1 : V6.cell? ⟨V1.heap.size, 1, none⟩ = some (.int .i64 q) := cell_of_row _ _ _ _ _ _ P1.out
    have P1_2 : V6.cell? ⟨V1.heap.size, 2, none⟩ = some (.int .i64 r) := cell_of_row _ _ _ _ _ _ P1.out
    have N1_0 : V6.cell? ⟨V5.heap.size, 0, none⟩ = some (.int .i64 X1) := cell_of_row _ _ _ _ _ _ N1.out
    have N1_1 : V6.cell? ⟨V5.heap.size, 1, none⟩ = some (.int .i64 X2) := cell_of_row _ _ _ _ _ _ N1.out
    have N1_2 : V6.cell? ⟨V5.heap.size, 2, none⟩ = some (.int .i64 X3) := cell_of_row _ _ _ _ _ _ N1.out
    have zA1 := lt_of_heap A1.out
    have zC1 := lt_of_heap C1.out
    have zP1 := lt_of_heap P1.out
    have zN1 := lt_of_heap N1.out
    go_simp
    go_wp2
    go_ret
    exact ⟨rfl, by first | exact B6.out | exact B6.out.alloc B6.out.size _⟩
  · skip
    
    clear HX
    replace HY := Lib.hid HY
    go_wp2_with fail
    refine (HY.out _).mono ?_
    rintro e V6 ⟨rfl, hb6⟩
    clear A1_0 A1_1 A1_2 zA1 C1_0 C1_1 C1_2 zC1 P1_0 P1_1 P1_2 zP1
    have nA1N1 := Lib.hid (lt_of_heap A1.out)
    have nC1N1 := Lib.hid (lt_of_heap C1.out)
    have nP1N1 := Lib.hid (lt_of_heap P1.out)
    have B6 := Lib.hid (((B5.out).alloc (B5.out.size) _).trans (hb6.mono (by have := B5.out.size; first | assumption | (simp <;> omega) | (simp; done))))
    replace A1 := Lib.hid (row_call hb6 (row_alloc A1.out _))
    replace C1 := Lib.hid (row_call hb6 (row_alloc C1.out _))
    replace P1 := Lib.hid (row_call hb6 (row_alloc P1.out _))
    have N1 := Lib.hid (row_call hb6 (heap_alloc_new _ _))
    clear hb6
    have A1_0 : V6.cell? ⟨w.heap.size, 0, none⟩ = some (.int .i64 y) := cell_of_row _ _ _ _ _ _ A1.out
    have A1_1 : V6.cell? ⟨w.heap.size, 1, none⟩ = some (.int .i64 m) := cell_of_row _ _ _ _ _ _ A1.out
    have A1_2 : V6.cell? ⟨w.heap.size, 2, none⟩ = some (.int .i64 d) := cell_of_row _ _ _ _ _ _ A1.out
    have C1_0 : V6.cell? ⟨w.heap.size + 1, 0, none⟩ = some (.int .i64 Y) := cell_of_row _ _ _ _ _ _ C1.out
    have C1_1 : V6.cell? ⟨w.heap.size + 1, 1, none⟩ = some (.int .i64 M) := cell_of_row _ _ _ _ _ _ C1.out
    have C1_2 : V6.cell? ⟨w.heap.size + 1, 2, none⟩ = some (.int .i64 D) := cell_of_row _ _ _ _ _ _ C1.out
    have P1_0 : V6.cell? ⟨V1.heap.size, 0, none⟩ = some (.int .i64 p) := cell_of_row _ _ _ _ _ _ P1.out
    have P1_1 : V6.cell? ⟨V1.heap.size, 1, none⟩ = some (.int .i64 q) := cell_of_row _ _ _ _ _ _ P1.out
    have P1_2 : V6.cell? ⟨V1.heap.size, 2, none⟩ = some (.int .i64 r) := cell_of_row _ _ _ _ _ _ P1.out
    have N1_0 : V6.cell? ⟨V5.heap.size, 0, none⟩ = some (.int .i64 X1) := cell_of_row _ _ _ _ _ _ N1.out
    have N1_1 : V6.cell? ⟨V5.heap.size, 1, none⟩ = some (.int .i64 X2) := cell_of_row _ _ _ _ _ _ N1.out
    have N1_2 : V6.cell? ⟨V5.heap.size, 2, none⟩ = some (.int .i64 X3) := cell_of_row _ _ _ _ _ _ N1.out
    have zA1 := lt_of_heap A1.out
    have zC1 := lt_of_heap C1.out
    have zP1 := lt_of_heap P1.out
    have zN1 := lt_of_heap N1.out
    go_simp
    go_wp2_with fail
    refine (HK.out _ (by first | exact md_keep hM (B6.out) | exact md_keep hM ((B6.out).alloc (B6.out.size) _) | exact md_keep hM (((B6.out).alloc (B6.out.size) _).alloc (by have := B6.out.size; simp <;> omega) _) | exact md_keep hM ((((B6.out).alloc (B6.out.size) _).alloc (by have := B6.out.size; simp <;> omega) _).alloc (by have := B6.out.size; simp <;> omega) _))).mono ?_
    rintro e V7 ⟨rfl, hb7⟩
    clear A1_0 A1_1 A1_2 zA1 C1_0 C1_1 C1_2 zC1 P1_0 P1_1 P1_2 zP1 N1_0 N1_1 N1_2 zN1
    have B7 : Hid (Below w.heap.size w V7) := by first | exact Lib.hid ((B6.out).trans (hb7.mono (by have := B6.out.size; first | assumption | (simp <;> omega) | (simp; done)))) | exact Lib.hid (((B6.out).alloc (B6.out.size) _).trans (hb7.mono (by have := B6.out.size; first | assumption | (simp <;> omega) | (simp; done)))) | exact Lib.hid ((((B6.out).alloc (B6.out.size) _).alloc (by have := B6.out.size; simp <;> omega) _).trans (hb7.mono (by have := B6.out.size; first | assumption | (simp <;> omega) | (simp; done)))) | exact Lib.hid (((((B6.out).alloc (B6.out.size) _).alloc (by have := B6.out.size; simp <;> omega) _).alloc (by have := B6.out.size; simp <;> omega) _).trans (hb7.mono (by have := B6.out.size; first | assumption | (simp <;> omega) | (simp; done))))
    first | replace A1 := Lib.hid (row_call hb7 A1.out) | replace A1 := Lib.hid (row_call hb7 (row_alloc A1.out _)) | replace A1 := Lib.hid (row_call hb7 (row_alloc (row_alloc A1.out _) _)) | replace A1 := Lib.hid (row_call hb7 (row_alloc (row_alloc (row_alloc A1.out _) _) _))
    first | replace C1 := Lib.hid (row_call hb7 C1.out) | replace C1 := Lib.hid (row_call hb7 (row_alloc C1.out _)) | replace C1 := Lib.hid (row_call hb7 (row_alloc (row_alloc C1.out _) _)) | replace C1 := Lib.hid (row_call hb7 (row_alloc (row_alloc (row_alloc C1.out _) _) _))
    first | replace P1 := Lib.hid (row_call hb7 P1.out) | replace P1 := Lib.hid (row_call hb7 (row_alloc P1.out _)) | replace P1 := Lib.hid (row_call hb7 (row_alloc (row_alloc P1.out _) _)) | replace P1 := Lib.hid (row_call hb7 (row_alloc (row_alloc (row_alloc P1.out _) _) _))
    first | replace N1 := Lib.hid (row_call hb7 N1.out) | replace N1 := Lib.hid (row_call hb7 (row_alloc N1.out _)) | replace N1 := Lib.hid (row_call hb7 (row_alloc (row_alloc N1.out _) _)) | replace N1 := Lib.hid (row_call hb7 (row_alloc (row_alloc (row_alloc N1.out _) _) _))
    clear hb7
    have A1_0 : V7.cell? ⟨w.heap.size, 0, none⟩ = some (.int .i64 y) := cell_of_row _ _ _ _ _ _ A1.out
    have A1_1 : V7.cell? ⟨w.heap.size, 1, none⟩ = some (.int .i64 m) := cell_of_row _ _ _ _ _ _ A1.out
    have A1_2 : V7.cell? ⟨w.heap.size, 2, none⟩ = some (.int .i64 d) := cell_of_row _ _ _ _ _ _ A1.out
    have C1_0 : V7.cell? ⟨w.heap.size + 1, 0, none⟩ = some (.int .i64 Y) := cell_of_row _ _ _ _ _ _ C1.out
    have C1_1 : V7.cell? ⟨w.heap.size + 1, 1, none⟩ = some (.int .i64 M) := cell_of_row _ _ _ _ _ _ C1.out
    have C1_2 : V7.cell? ⟨w.heap.size + 1, 2, none⟩ = some (.int .i64 D) := cell_of_row _ _ _ _ _ _ C1.out
    have P1_0 : V7.cell? ⟨V1.heap.size, 0, none⟩ = some (.int .i64 p) := cell_of_row _ _ _ _ _ _ P1.out
    have P1_1 : V7.cell? ⟨V1.heap.size, 1, none⟩ = some (.int .i64 q) := cell_of_row _ _ _ _ _ _ P1.out
    have P1_2 : V7.cell? ⟨V1.heap.size, 2, none⟩ = some (.int .i64 r) := cell_of_row _ _ _ _ _ _ P1.out
    have N1_0 : V7.cell? ⟨V5.heap.size, 0, none⟩ = some (.int .i64 X1) := cell_of_row _ _ _ _ _ _ N1.out
    have N1_1 : V7.cell? ⟨V5.heap.size, 1, none⟩ = some (.int .i64 X2) := cell_of_row _ _ _ _ _ _ N1.out
    have N1_2 : V7.cell? ⟨V5.heap.size, 2, none⟩ = some (.int .i64 X3) := cell_of_row _ _ _ _ _ _ N1.out
    have zA1 := lt_of_heap A1.out
    have zC1 := lt_of_heap C1.out
    have zP1 := lt_of_heap P1.out
    have zN1 := lt_of_heap N1.out
    go_simp
    go_wp2
    go_ret
    exact ⟨rfl, by first | exact B7.out | exact B7.out.alloc B7.out.size _⟩
set_option maxHeartbeats 3200000 in
set_option maxRecDepth 100000 in
theorem gr_d1 (y m d Y M D p q r X1 X2 X3 F : Int) (p1 : -100000 ≤ p) (p2 : p ≤ 100000) (q1 : -12 < q) (q2 : q < 12) (c2 : q < 0) (c3 : r ≤ 0)
    (H1 : Hid (∀ w, MD w → Calls Tryd.prog 7 #[.agg #[.int .i64 y, .int .i64 m, .int .i64 d], .agg #[.int .i64 Y, .int .i64 M, .int .i64 D]] w fun e w' => e = .returned (.tuple #[.agg #[.int .i64 0, .int .i64 q, .int .i64 r], .int .i64 0]) ∧ Below w.heap.size w w'))
    (HC : Hid (∀ w, Calls Tryd.prog 13 #[.agg #[.int .i64 y, .int .i64 m, .int .i64 d], .agg #[.int .i64 Y, .int .i64 M, .int .i64 D]] w fun e w' => e = .returned (.int .i64 (1)) ∧ Below w.heap.size w w'))
    (HA : Hid (∀ w, Calls Tryd.prog 14 #[.agg #[.int .i64 y, .int .i64 m, .int .i64 d], .int .i64 (q + -1), .int .i64 0] w fun e w' => e = .returned (.tuple #[.agg #[.int .i64 X1, .int .i64 X2, .int .i64 X3], .int .i64 F]) ∧ Below w.heap.size w w'))
    (HX : (F != 0) = true ∨ (F = 0 ∧ ∀ w, Calls Tryd.prog 13 #[.agg #[.int .i64 X1, .int .i64 X2, .int .i64 X3], .agg #[.int .i64 Y, .int .i64 M, .int .i64 D]] w fun e w' => e = .returned (.int .i64 (-1)) ∧ Below w.heap.size w w')) (w : World) (hM : MD w) :
    Calls Tryd.prog 5 #[.agg #[.int .i64 y, .int .i64 m, .int .i64 d], .agg #[.int .i64 Y, .int .i64 M, .int .i64 D]] w fun e w' => e = .returned (.bool true) ∧ Below w.heap.size w w' := by
  have HK := Lib.hid awake12_any
  replace hM := Lib.hid hM
  replace HX := Lib.hid HX
  go_enter Tryd.func5, Tryd.ntmps5
  go_wp2_with fail
  
  refine (H1.out _ (by first | exact md_keep hM (((Below.refl w.heap.size w).alloc (Nat.le_refl _) _).alloc (by simp <;> omega) _))).mono ?_
  rintro e V1 ⟨rfl, hb1⟩
  have B1 := Lib.hid ((((Below.refl w.heap.size w).alloc (Nat.le_refl _) _).alloc (by simp <;> omega) _).trans (hb1.mono (by first | assumption | (simp <;> omega) | (simp; done))))
  have A1 := Lib.hid (row_call hb1 (row_alloc (heap_alloc_new _ _) _))
  have C1 := Lib.hid (row_at (k' := w.heap.size + 1) (by simp) (row_call hb1 (heap_alloc_new _ _)))
  clear hb1
  have A1_0 : V1.cell? ⟨w.heap.size, 0, none⟩ = some (.int .i64 y) := cell_of_row _ _ _ _ _ _ A1.out
  have A1_1 : V1.cell? ⟨w.heap.size, 1, none⟩ = some (.int .i64 m) := cell_of_row _ _ _ _ _ _ A1.out
  have A1_2 : V1.cell? ⟨w.heap.size, 2, none⟩ = some (.int .i64 d) := cell_of_row _ _ _ _ _ _ A1.out
  have C1_0 : V1.cell? ⟨w.heap.size + 1, 0, none⟩ = some (.int .i64 Y) := cell_of_row _ _ _ _ _ _ C1.out
  have C1_1 : V1.cell? ⟨w.heap.size + 1, 1, none⟩ = some (.int .i64 M) := cell_of_row _ _ _ _ _ _ C1.out
  have C1_2 : V1.cell? ⟨w.heap.size + 1, 2, none⟩ = some (.int .i64 D) := cell_of_row _ _ _ _ _ _ C1.out
  have zA1 := lt_of_heap A1.out
  have zC1 := lt_of_heap C1.out
  go_simp
  go_wp2_with fail
  refine (HC.out _).mono ?_
  rintro e V2 ⟨rfl, hb2⟩
  clear A1_0 A1_1 A1_2 zA1 C1_0 C1_1 C1_2 zC1
  have nA1P1 := Lib.hid (lt_of_heap A1.out)
  have nC1P1 := Lib.hid (lt_of_heap C1.out)
  have B2 := Lib.hid (((B1.out).alloc (B1.out.size) _).trans (hb2.mono (by have := B1.out.size; first | assumption | (simp <;> omega) | (simp; done))))
  replace A1 := Lib.hid (row_call hb2 (row_alloc A1.out _))
  replace C1 := Lib.hid (row_call hb2 (row_alloc C1.out _))
  have P1 := Lib.hid (row_call hb2 (heap_alloc_new _ _))
  clear hb2
  have A1_0 : V2.cell? ⟨w.heap.size, 0, none⟩ = some (.int .i64 y) := cell_of_row _ _ _ _ _ _ A1.out
  have A1_1 : V2.cell? ⟨w.heap.size, 1, none⟩ = some (.int .i64 m) := cell_of_row _ _ _ _ _ _ A1.out
  have A1_2 : V2.cell? ⟨w.heap.size, 2, none⟩ = some (.int .i64 d) := cell_of_row _ _ _ _ _ _ A1.out
  have C1_0 : V2.cell? ⟨w.heap.size + 1, 0, none⟩ = some (.int .i64 Y) := cell_of_row _ _ _ _ _ _ C1.out
  have C1_1 : V2.cell? ⟨w.heap.size + 1, 1, none⟩ = some (.int .i64 M) := cell_of_row _ _ _ _ _ _ C1.out
  have C1_2 : V2.cell? ⟨w.heap.size + 1, 2, none⟩ = some (.int .i64 D) := cell_of_row _ _ _ _ _ _ C1.out
  have P1_0 : V2.cell? ⟨V1.heap.size, 0, none⟩ = some (.int .i64 0) := cell_of_row _ _ _ _ _ _ P1.out
  have P1_1 : V2.cell? ⟨V1.heap.size, 1, none⟩ = some (.int .i64 q) := cell_of_row _ _ _ _ _ _ P1.out
  have P1_2 : V2.cell? ⟨V1.heap.size, 2, none⟩ = some (.int .i64 r) := cell_of_row _ _ _ _ _ _ P1.out
  have zA1 := lt_of_heap A1.out
  have zC1 := lt_of_heap C1.out
  have zP1 := lt_of_heap P1.out
  go_simp
  go_wp2_with fail
  refine (HC.out _).mono ?_
  rintro e V3 ⟨rfl, hb3⟩
  clear A1_0 A1_1 A1_2 zA1 C1_0 C1_1 C1_2 zC1 P1_0 P1_1 P1_2 zP1
  have B3 : Hid (Below w.heap.size w V3) := by first | exact Lib.hid ((B2.out).trans (hb3.mono (by have := B2.out.size; first | assumption | (simp <;> omega) | (simp; done)))) | exact Lib.hid (((B2.out).alloc (B2.out.size) _).trans (hb3.mono (by have := B2.out.size; first | assumption | (simp <;> omega) | (simp; done)))) | exact Lib.hid ((((B2.out).alloc (B2.out.size) _).alloc (by have := B2.out.size; simp <;> omega) _).trans (hb3.mono (by have := B2.out.size; first | assumption | (simp <;> omega) | (simp; done)))) | exact Lib.hid (((((B2.out).alloc (B2.out.size) _).alloc (by have := B2.out.size; simp <;> omega) _).alloc (by have := B2.out.size; simp <;> omega) _).trans (hb3.mono (by have := B2.out.size; first | assumption | (simp <;> omega) | (simp; done))))
  first | replace A1 := Lib.hid (row_call hb3 A1.out) | replace A1 := Lib.hid (row_call hb3 (row_alloc A1.out _)) | replace A1 := Lib.hid (row_call hb3 (row_alloc (row_alloc A1.out _) _)) | replace A1 := Lib.hid (row_call hb3 (row_alloc (row_alloc (row_alloc A1.out _) _) _))
  first | replace C1 := Lib.hid (row_call hb3 C1.out) | replace C1 := Lib.hid (row_call hb3 (row_alloc C1.out _)) | replace C1 := Lib.hid (row_call hb3 (row_alloc (row_alloc C1.out _) _)) | replace C1 := Lib.hid (row_call hb3 (row_alloc (row_alloc (row_alloc C1.out _) _) _))
  first | replace P1 := Lib.hid (row_call hb3 P1.out) | replace P1 := Lib.hid (row_call hb3 (row_alloc P1.out _)) | replace P1 := Lib.hid (row_call hb3 (row_alloc (row_alloc P1.out _) _)) | replace P1 := Lib.hid (row_call hb3 (row_alloc (row_alloc (row_alloc P1.out _) _) _))
  clear hb3
  have A1_0 : V3.cell? ⟨w.heap.size, 0, none⟩ = some (.int .i64 y) := cell_of_row _ _ _ _ _ _ A1.out
  have A1_1 : V3.cell? ⟨w.heap.size, 1, none⟩ = some (.int .i64 m) := cell_of_row _ _ _ _ _ _ A1.out
  have A1_2 : V3.cell? ⟨w.heap.size, 2, none⟩ = some (.int .i64 d) := cell_of_row _ _ _ _ _ _ A1.out
  have C1_0 : V3.cell? ⟨w.heap.size + 1, 0, none⟩ = some (.int .i64 Y) := cell_of_row _ _ _ _ _ _ C1.out
  have C1_1 : V3.cell? ⟨w.heap.size + 1, 1, none⟩ = some (.int .i64 M) := cell_of_row _ _ _ _ _ _ C1.out
  have C1_2 : V3.cell? ⟨w.heap.size + 1, 2, none⟩ = some (.int .i64 D) := cell_of_row _ _ _ _ _ _ C1.out
  have P1_0 : V3.cell? ⟨V1.heap.size, 0, none⟩ = some (.int .i64 0) := cell_of_row _ _ _ _ _ _ P1.out
  have P1_1 : V3.cell? ⟨V1.heap.size, 1, none⟩ = some (.int .i64 q) := cell_of_row _ _ _ _ _ _ P1.out
  have P1_2 : V3.cell? ⟨V1.heap.size, 2, none⟩ = some (.int .i64 r) := cell_of_row _ _ _ _ _ _ P1.out
  have zA1 := lt_of_heap A1.out
  have zC1 := lt_of_heap C1.out
  have zP1 := lt_of_heap P1.out
  go_simp
  go_wp2_with fail
  refine (HC.out _).mono ?_
  rintro e V4 ⟨rfl, hb4⟩
  clear A1_0 A1_1 A1_2 zA1 C1_0 C1_1 C1_2 zC1 P1_0 P1_1 P1_2 zP1
  have B4 : Hid (Below w.heap.size w V4) := by first | exact Lib.hid ((B3.out).trans (hb4.mono (by have := B3.out.size; first | assumption | (simp <;> omega) | (simp; done)))) | exact Lib.hid (((B3.out).alloc (B3.out.size) _).trans (hb4.mono (by have := B3.out.size; first | assumption | (simp <;> omega) | (simp; done)))) | exact Lib.hid ((((B3.out).alloc (B3.out.size) _).alloc (by have := B3.out.size; simp <;> omega) _).trans (hb4.mono (by have := B3.out.size; first | assumption | (simp <;> omega) | (simp; done)))) | exact Lib.hid (((((B3.out).alloc (B3.out.size) _).alloc (by have := B3.out.size; simp <;> omega) _).alloc (by have := B3.out.size; simp <;> omega) _).trans (hb4.mono (by have := B3.out.size; first | assumption | (simp <;> omega) | (simp; done))))
  first | replace A1 := Lib.hid (row_call hb4 A1.out) | replace A1 := Lib.hid (row_call hb4 (row_alloc A1.out _)) | replace A1 := Lib.hid (row_call hb4 (row_alloc (row_alloc A1.out _) _)) | replace A1 := Lib.hid (row_call hb4 (row_alloc (row_alloc (row_alloc A1.out _) _) _))
  first | replace C1 := Lib.hid (row_call hb4 C1.out) | replace C1 := Lib.hid (row_call hb4 (row_alloc C1.out _)) | replace C1 := Lib.hid (row_call hb4 (row_alloc (row_alloc C1.out _) _)) | replace C1 := Lib.hid (row_call hb4 (row_alloc (row_alloc (row_alloc C1.out _) _) _))
  first | replace P1 := Lib.hid (row_call hb4 P1.out) | replace P1 := Lib.hid (row_call hb4 (row_alloc P1.out _)) | replace P1 := Lib.hid (row_call hb4 (row_alloc (row_alloc P1.out _) _)) | replace P1 := Lib.hid (row_call hb4 (row_alloc (row_alloc (row_alloc P1.out _) _) _))
  clear hb4
  have A1_0 : V4.cell? ⟨w.heap.size, 0, none⟩ = some (.int .i64 y) := cell_of_row _ _ _ _ _ _ A1.out
  have A1_1 : V4.cell? ⟨w.heap.size, 1, none⟩ = some (.int .i64 m) := cell_of_row _ _ _ _ _ _ A1.out
  have A1_2 : V4.cell? ⟨w.heap.size, 2, none⟩ = some (.int .i64 d) := cell_of_row _ _ _ _ _ _ A1.out
  have C1_0 : V4.cell? ⟨w.heap.size + 1, 0, none⟩ = some (.int .i64 Y) := cell_of_row _ _ _ _ _ _ C1.out
  have C1_1 : V4.cell? ⟨w.heap.size + 1, 1, none⟩ = some (.int .i64 M) := cell_of_row _ _ _ _ _ _ C1.out
  have C1_2 : V4.cell? ⟨w.heap.size + 1, 2, none⟩ = some (.int .i64 D) := cell_of_row _ _ _ _ _ _ C1.out
  have P1_0 : V4.cell? ⟨V1.heap.size, 0, none⟩ = some (.int .i64 0) := cell_of_row _ _ _ _ _ _ P1.out
  have P1_1 : V4.cell? ⟨V1.heap.size, 1, none⟩ = some (.int .i64 q) := cell_of_row _ _ _ _ _ _ P1.out
  have P1_2 : V4.cell? ⟨V1.heap.size, 2, none⟩ = some (.int .i64 r) := cell_of_row _ _ _ _ _ _ P1.out
  have zA1 := lt_of_heap A1.out
  have zC1 := lt_of_heap C1.out
  have zP1 := lt_of_heap P1.out
  go_simp
  go_wp2_with fail
  refine (HA.out _).mono ?_
  rintro e V5 ⟨rfl, hb5⟩
  clear A1_0 A1_1 A1_2 zA1 C1_0 C1_1 C1_2 zC1 P1_0 P1_1 P1_2 zP1
  have B5 : Hid (Below w.heap.size w V5) := by first | exact Lib.hid ((B4.out).trans (hb5.mono (by have := B4.out.size; first | assumption | (simp <;> omega) | (simp; done)))) | exact Lib.hid (((B4.out).alloc (B4.out.size) _).trans (hb5.mono (by have := B4.out.size; first | assumption | (simp <;> omega) | (simp; done)))) | exact Lib.hid ((((B4.out).alloc (B4.out.size) _).alloc (by have := B4.out.size; simp <;> omega) _).trans (hb5.mono (by have := B4.out.size; first | assumption | (simp <;> omega) | (simp; done)))) | exact Lib.hid (((((B4.out).alloc (B4.out.size) _).alloc (by have := B4.out.size; simp <;> omega) _).alloc (by have := B4.out.size; simp <;> omega) _).trans (hb5.mono (by have := B4.out.size; first | assumption | (simp <;> omega) | (simp; done))))
  first | replace A1 := Lib.hid (row_call hb5 A1.out) | replace A1 := Lib.hid (row_call hb5 (row_alloc A1.out _)) | replace A1 := Lib.hid (row_call hb5 (row_alloc (row_alloc A1.out _) _)) | replace A1 := Lib.hid (row_call hb5 (row_alloc (row_alloc (row_alloc A1.out _) _) _))
  first | replace C1 := Lib.hid (row_call hb5 C1.out) | replace C1 := Lib.hid (row_call hb5 (row_alloc C1.out _)) | replace C1 := Lib.hid (row_call hb5 (row_alloc (row_alloc C1.out _) _)) | replace C1 := Lib.hid (row_call hb5 (row_alloc (row_alloc (row_alloc C1.out _) _) _))
  first | replace P1 := Lib.hid (row_call hb5 P1.out) | replace P1 := Lib.hid (row_call hb5 (row_alloc P1.out _)) | replace P1 := Lib.hid (row_call hb5 (row_alloc (row_alloc P1.out _) _)) | replace P1 := Lib.hid (row_call hb5 (row_alloc (row_alloc (row_alloc P1.out _) _) _))
  clear hb5
  have A1_0 : V5.cell? ⟨w.heap.size, 0, none⟩ = some (.int .i64 y) := cell_of_row _ _ _ _ _ _ A1.out
  have A1_1 : V5.cell? ⟨w.heap.size, 1, none⟩ = some (.int .i64 m) := cell_of_row _ _ _ _ _ _ A1.out
  have A1_2 : V5.cell? ⟨w.heap.size, 2, none⟩ = some (.int .i64 d) := cell_of_row _ _ _ _ _ _ A1.out
  have C1_0 : V5.cell? ⟨w.heap.size + 1, 0, none⟩ = some (.int .i64 Y) := cell_of_row _ _ _ _ _ _ C1.out
  have C1_1 : V5.cell? ⟨w.heap.size + 1, 1, none⟩ = some (.int .i64 M) := cell_of_row _ _ _ _ _ _ C1.out
  have C1_2 : V5.cell? ⟨w.heap.size + 1, 2, none⟩ = some (.int .i64 D) := cell_of_row _ _ _ _ _ _ C1.out
  have P1_0 : V5.cell? ⟨V1.heap.size, 0, none⟩ = some (.int .i64 0) := cell_of_row _ _ _ _ _ _ P1.out
  have P1_1 : V5.cell? ⟨V1.heap.size, 1, none⟩ = some (.int .i64 q) := cell_of_row _ _ _ _ _ _ P1.out
  have P1_2 : V5.cell? ⟨V1.heap.size, 2, none⟩ = some (.int .i64 r) := cell_of_row _ _ _ _ _ _ P1.out
  have zA1 := lt_of_heap A1.out
  have zC1 := lt_of_heap C1.out
  have zP1 := lt_of_heap P1.out
  go_simp
  
  rcases HX.out with f1 | ⟨rfl, HY⟩
  · skip
    clear HX
    go_wp2_with fail
    refine (HK.out _ (by first | exact md_keep hM ((B5.out).alloc (B5.out.size) _))).mono ?_
    rintro e V6 ⟨rfl, hb6⟩
    clear A1_0 A1_1 A1_2 zA1 C1_0 C1_1 C1_2 zC1 P1_0 P1_1 P1_2 zP1
    have nA1N1 := Lib.hid (lt_of_heap A1.out)
    have nC1N1 := Lib.hid (lt_of_heap C1.out)
    have nP1N1 := Lib.hid (lt_of_heap P1.out)
    have B6 := Lib.hid (((B5.out).alloc (B5.out.size) _).trans (hb6.mono (by have := B5.out.size; first | assumption | (simp <;> omega) | (simp; done))))
    replace A1 := Lib.hid (row_call hb6 (row_alloc A1.out _))
    replace C1 := Lib.hid (row_call hb6 (row_alloc C1.out _))
    replace P1 := Lib.hid (row_call hb6 (row_alloc P1.out _))
    have N1 := Lib.hid (row_call hb6 (heap_alloc_new _ _))
    clear hb6
    have A1_0 : V6.cell? ⟨w.heap.size, 0, none⟩ = some (.int .i64 y) := cell_of_row _ _ _ _ _ _ A1.out
    have A1_1 : V6.cell? ⟨w.heap.size, 1, none⟩ = some (.int .i64 m) := cell_of_row _ _ _ _ _ _ A1.out
    have A1_2 : V6.cell? ⟨w.heap.size, 2, none⟩ = some (.int .i64 d) := cell_of_row _ _ _ _ _ _ A1.out
    have C1_0 : V6.cell? ⟨w.heap.size + 1, 0, none⟩ = some (.int .i64 Y) := cell_of_row _ _ _ _ _ _ C1.out
    have C1_1 : V6.cell? ⟨w.heap.size + 1, 1, none⟩ = some (.int .i64 M) := cell_of_row _ _ _ _ _ _ C1.out
    have C1_2 : V6.cell? ⟨w.heap.size + 1, 2, none⟩ = some (.int .i64 D) := cell_of_row _ _ _ _ _ _ C1.out
    have P1_0 : V6.cell? ⟨V1.heap.size, 0, none⟩ = some (.int .i64 0) := cell_of_row _ _ _ _ _ _ P1.out
    have P1_1 : V6.cell? ⟨V1.heap.size, 1, none⟩ = some (.int .i64 q) := cell_of_row _ _ _ _ _ _ P1.out
    have P1_2 : V6.cell? ⟨V1.heap.size, 2, none⟩ = some (.int .i64 r) := cell_of_row _ _ _ _ _ _ P1.out
    have N1_0 : V6.cell? ⟨V5.heap.size, 0, none⟩ = some (.int .i64 X1) := cell_of_row _ _ _ _ _ _ N1.out
    have N1_1 : V6.cell? ⟨V5.heap.size, 1, none⟩ = some (.int .i64 X2) := cell_of_row _ _ _ _ _ _ N1.out
    have N1_2 : V6.cell? ⟨V5.heap.size, 2, none⟩ = some (.int .i64 X3) := cell_of_row _ _ _ _ _ _ N1.out
    have zA1 := lt_of_heap A1.out
    have zC1 := lt_of_heap C1.out
    have zP1 := lt_of_heap P1.out
    have zN1 := lt_of_heap N1.out
    go_simp
    go_wp2
    go_ret
    exact ⟨rfl, by first | exact B6.out | exact B6.out.alloc B6.out.size _⟩
  · skip
    
    clear HX
    replace HY := Lib.hid HY
    go_wp2_with fail
    refine (HY.out _).mono ?_
    rintro e V6 ⟨rfl, hb6⟩
    clear A1_0 A1_1 A1_2 zA1 C1_0 C1_1 C1_2 zC1 P1_0 P1_1 P1_2 zP1
    have nA1N1 := Lib.hid (lt_of_heap A1.out)
    have nC1N1 := Lib.hid (lt_of_heap C1.out)
    have nP1N1 := Lib.hid (lt_of_heap P1.out)
    have B6 := Lib.hid (((B5.out).alloc (B5.out.size) _).trans (hb6.mono (by have := B5.out.size; first | assumption | (simp <;> omega) | (simp; done))))
    replace A1 := Lib.hid (row_call hb6 (row_alloc A1.out _))
    replace C1 := Lib.hid (row_call hb6 (row_alloc C1.out _))
    replace P1 := Lib.hid (row_call hb6 (row_alloc P1.out _))
    have N1 := Lib.hid (row_call hb6 (heap_alloc_new _ _))
    clear hb6
    have A1_0 : V6.cell? ⟨w.heap.size, 0, none⟩ = some (.int .i64 y) := cell_of_row _ _ _ _ _ _ A1.out
    have A1_1 : V6.cell? ⟨w.heap.size, 1, none⟩ = some (.int .i64 m) := cell_of_row _ _ _ _ _ _ A1.out
    have A1_2 : V6.cell? ⟨w.heap.size, 2, none⟩ = some (.int .i64 d) := cell_of_row _ _ _ _ _ _ A1.out
    have C1_0 : V6.cell? ⟨w.heap.size + 1, 0, none⟩ = some (.int .i64 Y) := cell_of_row _ _ _ _ _ _ C1.out
    have C1_1 : V6.cell? ⟨w.heap.size + 1, 1, none⟩ = some (.int .i64 M) := cell_of_row _ _ _ _ _ _ C1.out
    have C1_2 : V6.cell? ⟨w.heap.size + 1, 2, none⟩ = some (.int .i64 D) := cell_of_row _ _ _ _ _ _ C1.out
    have P1_0 : V6.cell? ⟨V1.heap.size, 0, none⟩ = some (.int .i64 0) := cell_of_row _ _ _ _ _ _ P1.out
    have P1_1 : V6.cell? ⟨V1.heap.size, 1, none⟩ = some (.int .i64 q) := cell_of_row _ _ _ _ _ _ P1.out
    have P1_2 : V6.cell? ⟨V1.heap.size, 2, none⟩ = some (.int .i64 r) := cell_of_row _ _ _ _ _ _ P1.out
    have N1_0 : V6.cell? ⟨V5.heap.size, 0, none⟩ = some (.int .i64 X1) := cell_of_row _ _ _ _ _ _ N1.out
    have N1_1 : V6.cell? ⟨V5.heap.size, 1, none⟩ = some (.int .i64 X2) := cell_of_row _ _ _ _ _ _ N1.out
    have N1_2 : V6.cell? ⟨V5.heap.size, 2, none⟩ = some (.int .i64 X3) := cell_of_row _ _ _ _ _ _ N1.out
    have zA1 := lt_of_heap A1.out
    have zC1 := lt_of_heap C1.out
    have zP1 := lt_of_heap P1.out
    have zN1 := lt_of_heap N1.out
    go_simp
    go_wp2_with fail
    refine (HK.out _ (by first | exact md_keep hM (B6.out) | exact md_keep hM ((B6.out).alloc (B6.out.size) _) | exact md_keep hM (((B6.out).alloc (B6.out.size) _).alloc (by have := B6.out.size; simp <;> omega) _) | exact md_keep hM ((((B6.out).alloc (B6.out.size) _).alloc (by have := B6.out.size; simp <;> omega) _).alloc (by have := B6.out.size; simp <;> omega) _))).mono ?_
    rintro e V7 ⟨rfl, hb7⟩
    clear A1_0 A1_1 A1_2 zA1 C1_0 C1_1 C1_2 zC1 P1_0 P1_1 P1_2 zP1 N1_0 N1_1 N1_2 zN1
    have B7 : Hid (Below w.heap.size w V7) := by first | exact Lib.hid ((B6.out).trans (hb7.mono (by have := B6.out.size; first | assumption | (simp <;> omega) | (simp; done)))) | exact Lib.hid (((B6.out).alloc (B6.out.size) _).trans (hb7.mono (by have := B6.out.size; first | assumption | (simp <;> omega) | (simp; done)))) | exact Lib.hid ((((B6.out).alloc (B6.out.size) _).alloc (by have := B6.out.size; simp <;> omega) _).trans (hb7.mono (by have := B6.out.size; first | assumption | (simp <;> omega) | (simp; done)))) | exact Lib.hid (((((B6.out).alloc (B6.out.size) _).alloc (by have := B6.out.size; simp <;> omega) _).alloc (by have := B6.out.size; simp <;> omega) _).trans (hb7.mono (by have := B6.out.size; first | assumption | (simp <;> omega) | (simp; done))))
    first | replace A1 := Lib.hid (row_call hb7 A1.out) | replace A1 := Lib.hid (row_call hb7 (row_alloc A1.out _)) | replace A1 := Lib.hid (row_call hb7 (row_alloc (row_alloc A1.out _) _)) | replace A1 := Lib.hid (row_call hb7 (row_alloc (row_alloc (row_alloc A1.out _) _) _))
    first | replace C1 := Lib.hid (row_call hb7 C1.out) | replace C1 := Lib.hid (row_call hb7 (row_alloc C1.out _)) | replace C1 := Lib.hid (row_call hb7 (row_alloc (row_alloc C1.out _) _)) | replace C1 := Lib.hid (row_call hb7 (row_alloc (row_alloc (row_alloc C1.out _) _) _))
    first | replace P1 := Lib.hid (row_call hb7 P1.out) | replace P1 := Lib.hid (row_call hb7 (row_alloc P1.out _)) | replace P1 := Lib.hid (row_call hb7 (row_alloc (row_alloc P1.out _) _)) | replace P1 := Lib.hid (row_call hb7 (row_alloc (row_alloc (row_alloc P1.out _) _) _))
    first | replace N1 := Lib.hid (row_call hb7 N1.out) | replace N1 := Lib.hid (row_call hb7 (row_alloc N1.out _)) | replace N1 := Lib.hid (row_call hb7 (row_alloc (row_alloc N1.out _) _)) | replace N1 := Lib.hid (row_call hb7 (row_alloc (row_alloc (row_alloc N1.out _) _) _))
    clear hb7
    have A1_0 : V7.cell? ⟨w.heap.size, 0, none⟩ = some (.int .i64 y) := cell_of_row _ _ _ _ _ _ A1.out
    have A1_1 : V7.cell? ⟨w.heap.size, 1, none⟩ = some (.int .i64 m) := cell_of_row _ _ _ _ _ _ A1.out
    have A1_2 : V7.cell? ⟨w.heap.size, 2, none⟩ = some (.int .i64 d) := cell_of_row _ _ _ _ _ _ A1.out
    have C1_0 : V7.cell? ⟨w.heap.size + 1, 0, none⟩ = some (.int .i64 Y) := cell_of_row _ _ _ _ _ _ C1.out
    have C1_1 : V7.cell? ⟨w.heap.size + 1, 1, none⟩ = some (.int .i64 M) := cell_of_row _ _ _ _ _ _ C1.out
    have C1_2 : V7.cell? ⟨w.heap.size + 1, 2, none⟩ = some (.int .i64 D) := cell_of_row _ _ _ _ _ _ C1.out
    have P1_0 : V7.cell? ⟨V1.heap.size, 0, none⟩ = some (.int .i64 0) := cell_of_row _ _ _ _ _ _ P1.out
    have P1_1 : V7.cell? ⟨V1.heap.size, 1, none⟩ = some (.int .i64 q) := cell_of_row _ _ _ _ _ _ P1.out
    have P1_2 : V7.cell? ⟨V1.heap.size, 2, none⟩ = some (.int .i64 r) := cell_of_row _ _ _ _ _ _ P1.out
    have N1_0 : V7.cell? ⟨V5.heap.size, 0, none⟩ = some (.int .i64 X1) := cell_of_row _ _ _ _ _ _ N1.out
    have N1_1 : V7.cell? ⟨V5.heap.size, 1, none⟩ = some (.int .i64 X2) := cell_of_row _ _ _ _ _ _ N1.out
    have N1_2 : V7.cell? ⟨V5.heap.size, 2, none⟩ = some (.int .i64 X3) := cell_of_row _ _ _ _ _ _ N1.out
    have zA1 := lt_of_heap A1.out
    have zC1 := lt_of_heap C1.out
    have zP1 := lt_of_heap P1.out
    have zN1 := lt_of_heap N1.out
    go_simp
    go_wp2
    go_ret
    exact ⟨rfl, by first | exact B7.out | exact B7.out.alloc B7.out.size _⟩
set_option maxHeartbeats 3200000 in
set_option maxRecDepth 100000 in
theorem gr_d2 (y m d Y M D p q r X1 X2 X3 F : Int) (p1 : -100000 ≤ p) (p2 : p ≤ 100000) (q1 : -12 < q) (q2 : q < 12) (c3 : r < 0)
    (H1 : Hid (∀ w, MD w → Calls Tryd.prog 7 #[.agg #[.int .i64 y, .int .i64 m, .int .i64 d], .agg #[.int .i64 Y, .int .i64 M, .int .i64 D]] w fun e w' => e = .returned (.tuple #[.agg #[.int .i64 0, .int .i64 0, .int .i64 r], .int .i64 0]) ∧ Below w.heap.size w w'))
    (HC : Hid (∀ w, Calls Tryd.prog 13 #[.agg #[.int .i64 y, .int .i64 m, .int .i64 d], .agg #[.int .i64 Y, .int .i64 M, .int .i64 D]] w fun e w' => e = .returned (.int .i64 (1)) ∧ Below w.heap.size w w'))
    (HA : Hid (∀ w, Calls Tryd.prog 14 #[.agg #[.int .i64 y, .int .i64 m, .int .i64 d], .int .i64 (-1), .int .i64 0] w fun e w' => e = .returned (.tuple #[.agg #[.int .i64 X1, .int .i64 X2, .int .i64 X3], .int .i64 F]) ∧ Below w.heap.size w w'))
    (HX : (F != 0) = true ∨ (F = 0 ∧ ∀ w, Calls Tryd.prog 13 #[.agg #[.int .i64 X1, .int .i64 X2, .int .i64 X3], .agg #[.int .i64 Y, .int .i64 M, .int .i64 D]] w fun e w' => e = .returned (.int .i64 (-1)) ∧ Below w.heap.size w w')) (w : World) (hM : MD w) :
    Calls Tryd.prog 5 #[.agg #[.int .i64 y, .int .i64 m, .int .i64 d], .agg #[.int .i64 Y, .int .i64 M, .int .i64 D]] w fun e w' => e = .returned (.bool true) ∧ Below w.heap.size w w' := by
  have HK := Lib.hid awake12_any
  replace hM := Lib.hid hM
  replace HX := Lib.hid HX
  go_enter Tryd.func5, Tryd.ntmps5
  go_wp2_with fail
  
  refine (H1.out _ (by first | exact md_keep hM (((Below.refl w.heap.size w).alloc (Nat.le_refl _) _).alloc (by simp <;> omega) _))).mono ?_
  rintro e V1 ⟨rfl, hb1⟩
  have B1 := Lib.hid ((((Below.refl w.heap.size w).alloc (Nat.le_refl _) _).alloc (by simp <;> omega) _).trans (hb1.mono (by first | assumption | (simp <;> omega) | (simp; done))))
  have A1 := Lib.hid (row_call hb1 (row_alloc (heap_alloc_new _ _) _))
  have C1 := Lib.hid (row_at (k' := w.heap.size + 1) (by simp) (row_call hb1 (heap_alloc_new _ _)))
  clear hb1
  have A1_0 : V1.cell? ⟨w.heap.size, 0, none⟩ = some (.int .i64 y) := cell_of_row _ _ _ _ _ _ A1.out
  have A1_1 : V1.cell? ⟨w.heap.size, 1, none⟩ = some (.int .i64 m) := cell_of_row _ _ _ _ _ _ A1.out
  have A1_2 : V1.cell? ⟨w.heap.size, 2, none⟩ = some (.int .i64 d) := cell_of_row _ _ _ _ _ _ A1.out
  have C1_0 : V1.cell? ⟨w.heap.size + 1, 0, none⟩ = some (.int .i64 Y) := cell_of_row _ _ _ _ _ _ C1.out
  have C1_1 : V1.cell? ⟨w.heap.size + 1, 1, none⟩ = some (.int .i64 M) := cell_of_row _ _ _ _ _ _ C1.out
  have C1_2 : V1.cell? ⟨w.heap.size + 1, 2, none⟩ = some (.int .i64 D) := cell_of_row _ _ _ _ _ _ C1.out
  have zA1 := lt_of_heap A1.out
  have zC1 := lt_of_heap C1.out
  go_simp
  go_wp2_with fail
  refine (HC.out _).mono ?_
  rintro e V2 ⟨rfl, hb2⟩
  clear A1_0 A1_1 A1_2 zA1 C1_0 C1_1 C1_2 zC1
  have nA1P1 := Lib.hid (lt_of_heap A1.out)
  have nC1P1 := Lib.hid (lt_of_heap C1.out)
  have B2 := Lib.hid (((B1.out).alloc (B1.out.size) _).trans (hb2.mono (by have := B1.out.size; first | assumption | (simp <;> omega) | (simp; done))))
  replace A1 := Lib.hid (row_call hb2 (row_alloc A1.out _))
  replace C1 := Lib.hid (row_call hb2 (row_alloc C1.out _))
  have P1 := Lib.hid (row_call hb2 (heap_alloc_new _ _))
  clear hb2
  have A1_0 : V2.cell? ⟨w.heap.size, 0, none⟩ = some (.int .i64 y) := cell_of_row _ _ _ _ _ _ A1.out
  have A1_1 : V2.cell? ⟨w.heap.size, 1, none⟩ = some (.int .i64 m) := cell_of_row _ _ _ _ _ _ A1.out
  have A1_2 : V2.cell? ⟨w.heap.size, 2, none⟩ = some (.int .i64 d) := cell_of_row _ _ _ _ _ _ A1.out
  have C1_0 : V2.cell? ⟨w.heap.size + 1, 0, none⟩ = some (.int .i64 Y) := cell_of_row _ _ _ _ _ _ C1.out
  have C1_1 : V2.cell? ⟨w.heap.size + 1, 1, none⟩ = some (.int .i64 M) := cell_of_row _ _ _ _ _ _ C1.out
  have C1_2 : V2.cell? ⟨w.heap.size + 1, 2, none⟩ = some (.int .i64 D) := cell_of_row _ _ _ _ _ _ C1.out
  have P1_0 : V2.cell? ⟨V1.heap.size, 0, none⟩ = some (.int .i64 0) := cell_of_row _ _ _ _ _ _ P1.out
  have P1_1 : V2.cell? ⟨V1.heap.size, 1, none⟩ = some (.int .i64 0) := cell_of_row _ _ _ _ _ _ P1.out
  have P1_2 : V2.cell? ⟨V1.heap.size, 2, none⟩ = some (.int .i64 r) := cell_of_row _ _ _ _ _ _ P1.out
  have zA1 := lt_of_heap A1.out
  have zC1 := lt_of_heap C1.out
  have zP1 := lt_of_heap P1.out
  go_simp
  go_wp2_with fail
  refine (HC.out _).mono ?_
  rintro e V3 ⟨rfl, hb3⟩
  clear A1_0 A1_1 A1_2 zA1 C1_0 C1_1 C1_2 zC1 P1_0 P1_1 P1_2 zP1
  have B3 : Hid (Below w.heap.size w V3) := by first | exact Lib.hid ((B2.out).trans (hb3.mono (by have := B2.out.size; first | assumption | (simp <;> omega) | (simp; done)))) | exact Lib.hid (((B2.out).alloc (B2.out.size) _).trans (hb3.mono (by have := B2.out.size; first | assumption | (simp <;> omega) | (simp; done)))) | exact Lib.hid ((((B2.out).alloc (B2.out.size) _).alloc (by have := B2.out.size; simp <;> omega) _).trans (hb3.mono (by have := B2.out.size; first | assumption | (simp <;> omega) | (simp; done)))) | exact Lib.hid (((((B2.out).alloc (B2.out.size) _).alloc (by have := B2.out.size; simp <;> omega) _).alloc (by have := B2.out.size; simp <;> omega) _).trans (hb3.mono (by have := B2.out.size; first | assumption | (simp <;> omega) | (simp; done))))
  first | replace A1 := Lib.hid (row_call hb3 A1.out) | replace A1 := Lib.hid (row_call hb3 (row_alloc A1.out _)) | replace A1 := Lib.hid (row_call hb3 (row_alloc (row_alloc A1.out _) _)) | replace A1 := Lib.hid (row_call hb3 (row_alloc (row_alloc (row_alloc A1.out _) _) _))
  first | replace C1 := Lib.hid (row_call hb3 C1.out) | replace C1 := Lib.hid (row_call hb3 (row_alloc C1.out _)) | replace C1 := Lib.hid (row_call hb3 (row_alloc (row_alloc C1.out _) _)) | replace C1 := Lib.hid (row_call hb3 (row_alloc (row_alloc (row_alloc C1.out _) _) _))
  first | replace P1 := Lib.hid (row_call hb3 P1.out) | replace P1 := Lib.hid (row_call hb3 (row_alloc P1.out _)) | replace P1 := Lib.hid (row_call hb3 (row_alloc (row_alloc P1.out _) _)) | replace P1 := Lib.hid (row_call hb3 (row_alloc (row_alloc (row_alloc P1.out _) _) _))
  clear hb3
  have A1_0 : V3.cell? ⟨w.heap.size, 0, none⟩ = some (.int .i64 y) := cell_of_row _ _ _ _ _ _ A1.out
  have A1_1 : V3.cell? ⟨w.heap.size, 1, none⟩ = some (.int .i64 m) := cell_of_row _ _ _ _ _ _ A1.out
  have A1_2 : V3.cell? ⟨w.heap.size, 2, none⟩ = some (.int .i64 d) := cell_of_row _ _ _ _ _ _ A1.out
  have C1_0 : V3.cell? ⟨w.heap.size + 1, 0, none⟩ = some (.int .i64 Y) := cell_of_row _ _ _ _ _ _ C1.out
  have C1_1 : V3.cell? ⟨w.heap.size + 1, 1, none⟩ = some (.int .i64 M) := cell_of_row _ _ _ _ _ _ C1.out
  have C1_2 : V3.cell? ⟨w.heap.size + 1, 2, none⟩ = some (.int .i64 D) := cell_of_row _ _ _ _ _ _ C1.out
  have P1_0 : V3.cell? ⟨V1.heap.size, 0, none⟩ = some (.int .i64 0) := cell_of_row _ _ _ _ _ _ P1.out
  have P1_1 : V3.cell? ⟨V1.heap.size, 1, none⟩ = some (.int .i64 0) := cell_of_row _ _ _ _ _ _ P1.out
  have P1_2 : V3.cell? ⟨V1.heap.size, 2, none⟩ = some (.int .i64 r) := cell_of_row _ _ _ _ _ _ P1.out
  have zA1 := lt_of_heap A1.out
  have zC1 := lt_of_heap C1.out
  have zP1 := lt_of_heap P1.out
  go_simp
  go_wp2_with fail
  refine (HC.out _).mono ?_
  rintro e V4 ⟨rfl, hb4⟩
  clear A1_0 A1_1 A1_2 zA1 C1_0 C1_1 C1_2 zC1 P1_0 P1_1 P1_2 zP1
  have B4 : Hid (Below w.heap.size w V4) := by first | exact Lib.hid ((B3.out).trans (hb4.mono (by have := B3.out.size; first | assumption | (simp <;> omega) | (simp; done)))) | exact Lib.hid (((B3.out).alloc (B3.out.size) _).trans (hb4.mono (by have := B3.out.size; first | assumption | (simp <;> omega) | (simp; done)))) | exact Lib.hid ((((B3.out).alloc (B3.out.size) _).alloc (by have := B3.out.size; simp <;> omega) _).trans (hb4.mono (by have := B3.out.size; first | assumption | (simp <;> omega) | (simp; done)))) | exact Lib.hid (((((B3.out).alloc (B3.out.size) _).alloc (by have := B3.out.size; simp <;> omega) _).alloc (by have := B3.out.size; simp <;> omega) _).trans (hb4.mono (by have := B3.out.size; first | assumption | (simp <;> omega) | (simp; done))))
  first | replace A1 := Lib.hid (row_call hb4 A1.out) | replace A1 := Lib.hid (row_call hb4 (row_alloc A1.out _)) | replace A1 := Lib.hid (row_call hb4 (row_alloc (row_alloc A1.out _) _)) | replace A1 := Lib.hid (row_call hb4 (row_alloc (row_alloc (row_alloc A1.out _) _) _))
  first | replace C1 := Lib.hid (row_call hb4 C1.out) | replace C1 := Lib.hid (row_call hb4 (row_alloc C1.out _)) | replace C1 := Lib.hid (row_call hb4 (row_alloc (row_alloc C1.out _) _)) | replace C1 := Lib.hid (row_call hb4 (row_alloc (row_alloc (row_alloc C1.out _) _) _))
  first | replace P1 := Lib.hid (row_call hb4 P1.out) | replace P1 := Lib.hid (row_call hb4 (row_alloc P1.out _)) | replace P1 := Lib.hid (row_call hb4 (row_alloc (row_alloc P1.out _) _)) | replace P1 := Lib.hid (row_call hb4 (row_alloc (row_alloc (row_alloc P1.out _) _) _))
  clear hb4
  have A1_0 : V4.cell? ⟨w.heap.size, 0, none⟩ = some (.int .i64 y) := cell_of_row _ _ _ _ _ _ A1.out
  have A1_1 : V4.cell? ⟨w.heap.size, 1, none⟩ = some (.int .i64 m) := cell_of_row _ _ _ _ _ _ A1.out
  have A1_2 : V4.cell? ⟨w.heap.size, 2, none⟩ = some (.int .i64 d) := cell_of_row _ _ _ _ _ _ A1.out
  have C1_0 : V4.cell? ⟨w.heap.size + 1, 0, none⟩ = some (.int .i64 Y) := cell_of_row _ _ _ _ _ _ C1.out
  have C1_1 : V4.cell? ⟨w.heap.size + 1, 1, none⟩ = some (.int .i64 M) := cell_of_row _ _ _ _ _ _ C1.out
  have C1_2 : V4.cell? ⟨w.heap.size + 1, 2, none⟩ = some (.int .i64 D) := cell_of_row _ _ _ _ _ _ C1.out
  have P1_0 : V4.cell? ⟨V1.heap.size, 0, none⟩ = some (.int .i64 0) := cell_of_row _ _ _ _ _ _ P1.out
  have P1_1 : V4.cell? ⟨V1.heap.size, 1, none⟩ = some (.int .i64 0) := cell_of_row _ _ _ _ _ _ P1.out
  have P1_2 : V4.cell? ⟨V1.heap.size, 2, none⟩ = some (.int .i64 r) := cell_of_row _ _ _ _ _ _ P1.out
  have zA1 := lt_of_heap A1.out
  have zC1 := lt_of_heap C1.out
  have zP1 := lt_of_heap P1.out
  go_simp
  go_wp2_with fail
  refine (HA.out _).mono ?_
  rintro e V5 ⟨rfl, hb5⟩
  clear A1_0 A1_1 A1_2 zA1 C1_0 C1_1 C1_2 zC1 P1_0 P1_1 P1_2 zP1
  have B5 : Hid (Below w.heap.size w V5) := by first | exact Lib.hid ((B4.out).trans (hb5.mono (by have := B4.out.size; first | assumption | (simp <;> omega) | (simp; done)))) | exact Lib.hid (((B4.out).alloc (B4.out.size) _).trans (hb5.mono (by have := B4.out.size; first | assumption | (simp <;> omega) | (simp; done)))) | exact Lib.hid ((((B4.out).alloc (B4.out.size) _).alloc (by have := B4.out.size; simp <;> omega) _).trans (hb5.mono (by have := B4.out.size; first | assumption | (simp <;> omega) | (simp; done)))) | exact Lib.hid (((((B4.out).alloc (B4.out.size) _).alloc (by have := B4.out.size; simp <;> omega) _).alloc (by have := B4.out.size; simp <;> omega) _).trans (hb5.mono (by have := B4.out.size; first | assumption | (simp <;> omega) | (simp; done))))
  first | replace A1 := Lib.hid (row_call hb5 A1.out) | replace A1 := Lib.hid (row_call hb5 (row_alloc A1.out _)) | replace A1 := Lib.hid (row_call hb5 (row_alloc (row_alloc A1.out _) _)) | replace A1 := Lib.hid (row_call hb5 (row_alloc (row_alloc (row_alloc A1.out _) _) _))
  first | replace C1 := Lib.hid (row_call hb5 C1.out) | replace C1 := Lib.hid (row_call hb5 (row_alloc C1.out _)) | replace C1 := Lib.hid (row_call hb5 (row_alloc (row_alloc C1.out _) _)) | replace C1 := Lib.hid (row_call hb5 (row_alloc (row_alloc (row_alloc C1.out _) _) _))
  first | replace P1 := Lib.hid (row_call hb5 P1.out) | replace P1 := Lib.hid (row_call hb5 (row_alloc P1.out _)) | replace P1 := Lib.hid (row_call hb5 (row_alloc (row_alloc P1.out _) _)) | replace P1 := Lib.hid (row_call hb5 (row_alloc (row_alloc (row_alloc P1.out _) _) _))
  clear hb5
  have A1_0 : V5.cell? ⟨w.heap.size, 0, none⟩ = some (.int .i64 y) := cell_of_row _ _ _ _ _ _ A1.out
  have A1_1 : V5.cell? ⟨w.heap.size, 1, none⟩ = some (.int .i64 m) := cell_of_row _ _ _ _ _ _ A1.out
  have A1_2 : V5.cell? ⟨w.heap.size, 2, none⟩ = some (.int .i64 d) := cell_of_row _ _ _ _ _ _ A1.out
  have C1_0 : V5.cell? ⟨w.heap.size + 1, 0, none⟩ = some (.int .i64 Y) := cell_of_row _ _ _ _ _ _ C1.out
  have C1_1 : V5.cell? ⟨w.heap.size + 1, 1, none⟩ = some (.int .i64 M) := cell_of_row _ _ _ _ _ _ C1.out
  have C1_2 : V5.cell? ⟨w.heap.size + 1, 2, none⟩ = some (.int .i64 D) := cell_of_row _ _ _ _ _ _ C1.out
  have P1_0 : V5.cell? ⟨V1.heap.size, 0, none⟩ = some (.int .i64 0) := cell_of_row _ _ _ _ _ _ P1.out
  have P1_1 : V5.cell? ⟨V1.heap.size, 1, none⟩ = some (.int .i64 0) := cell_of_row _ _ _ _ _ _ P1.out
  have P1_2 : V5.cell? ⟨V1.heap.size, 2, none⟩ = some (.int .i64 r) := cell_of_row _ _ _ _ _ _ P1.out
  have zA1 := lt_of_heap A1.out
  have zC1 := lt_of_heap C1.out
  have zP1 := lt_of_heap P1.out
  go_simp
  
  rcases HX.out with f1 | ⟨rfl, HY⟩
  · skip
    clear HX
    go_wp2_with fail
    refine (HK.out _ (by first | exact md_keep hM ((B5.out).alloc (B5.out.size) _))).mono ?_
    rintro e V6 ⟨rfl, hb6⟩
    clear A1_0 A1_1 A1_2 zA1 C1_0 C1_1 C1_2 zC1 P1_0 P1_1 P1_2 zP1
    have nA1N1 := Lib.hid (lt_of_heap A1.out)
    have nC1N1 := Lib.hid (lt_of_heap C1.out)
    have nP1N1 := Lib.hid (lt_of_heap P1.out)
    have B6 := Lib.hid (((B5.out).alloc (B5.out.size) _).trans (hb6.mono (by have := B5.out.size; first | assumption | (simp <;> omega) | (simp; done))))
    replace A1 := Lib.hid (row_call hb6 (row_alloc A1.out _))
    replace C1 := Lib.hid (row_call hb6 (row_alloc C1.out _))
    replace P1 := Lib.hid (row_call hb6 (row_alloc P1.out _))
    have N1 := Lib.hid (row_call hb6 (heap_alloc_new _ _))
    clear hb6
    have A1_0 : V6.cell? ⟨w.heap.size, 0, none⟩ = some (.int .i64 y) := cell_of_row _ _ _ _ _ _ A1.out
    have A1_1 : V6.cell? ⟨w.heap.size, 1, none⟩ = some (.int .i64 m) := cell_of_row _ _ _ _ _ _ A1.out
    have A1_2 : V6.cell? ⟨w.heap.size, 2, none⟩ = some (.int .i64 d) := cell_of_row _ _ _ _ _ _ A1.out
    have C1_0 : V6.cell? ⟨w.heap.size + 1, 0, none⟩ = some (.int .i64 Y) := cell_of_row _ _ _ _ _ _ C1.out
    have C1_1 : V6.cell? ⟨w.heap.size + 1, 1, none⟩ = some (.int .i64 M) := cell_of_row _ _ _ _ _ _ C1.out
    have C1_2 : V6.cell? ⟨w.heap.size + 1, 2, none⟩ = some (.int .i64 D) := cell_of_row _ _ _ _ _ _ C1.out
    have P1_0 : V6.cell? ⟨V1.heap.size, 0, none⟩ = some (.int .i64 0) := cell_of_row _ _ _ _ _ _ P1.out
    have P1_1 : V6.cell? ⟨V1.heap.size, 1, none⟩ = some (.int .i64 0) := cell_of_row _ _ _ _ _ _ P1.out
    have P1_2 : V6.cell? ⟨V1.heap.size, 2, none⟩ = some (.int .i64 r) := cell_of_row _ _ _ _ _ _ P1.out
    have N1_0 : V6.cell? ⟨V5.heap.size, 0, none⟩ = some (.int .i64 X1) := cell_of_row _ _ _ _ _ _ N1.out
    have N1_1 : V6.cell? ⟨V5.heap.size, 1, none⟩ = some (.int .i64 X2) := cell_of_row _ _ _ _ _ _ N1.out
    have N1_2 : V6.cell? ⟨V5.heap.size, 2, none⟩ = some (.int .i64 X3) := cell_of_row _ _ _ _ _ _ N1.out
    have zA1 := lt_of_heap A1.out
    have zC1 := lt_of_heap C1.out
    have zP1 := lt_of_heap P1.out
    have zN1 := lt_of_heap N1.out
    go_simp
    go_wp2
    go_ret
    exact ⟨rfl, by first | exact B6.out | exact B6.out.alloc B6.out.size _⟩
  · skip
    
    clear HX
    replace HY := Lib.hid HY
    go_wp2_with fail
    refine (HY.out _).mono ?_
    rintro e V6 ⟨rfl, hb6⟩
    clear A1_0 A1_1 A1_2 zA1 C1_0 C1_1 C1_2 zC1 P1_0 P1_1 P1_2 zP1
    have nA1N1 := Lib.hid (lt_of_heap A1.out)
    have nC1N1 := Lib.hid (lt_of_heap C1.out)
    have nP1N1 := Lib.hid (lt_of_heap P1.out)
    have B6 := Lib.hid (((B5.out).alloc (B5.out.size) _).trans (hb6.mono (by have := B5.out.size; first | assumption | (simp <;> omega) | (simp; done))))
    replace A1 := Lib.hid (row_call hb6 (row_alloc A1.out _))
    replace C1 := Lib.hid (row_call hb6 (row_alloc C1.out _))
    replace P1 := Lib.hid (row_call hb6 (row_alloc P1.out _))
    have N1 := Lib.hid (row_call hb6 (heap_alloc_new _ _))
    clear hb6
    have A1_0 : V6.cell? ⟨w.heap.size, 0, none⟩ = some (.int .i64 y) := cell_of_row _ _ _ _ _ _ A1.out
    have A1_1 : V6.cell? ⟨w.heap.size, 1, none⟩ = some (.int .i64 m) := cell_of_row _ _ _ _ _ _ A1.out
    have A1_2 : V6.cell? ⟨w.heap.size, 2, none⟩ = some (.int .i64 d) := cell_of_row _ _ _ _ _ _ A1.out
    have C1_0 : V6.cell? ⟨w.heap.size + 1, 0, none⟩ = some (.int .i64 Y) := cell_of_row _ _ _ _ _ _ C1.out
    have C1_1 : V6.cell? ⟨w.heap.size + 1, 1, none⟩ = some (.int .i64 M) := cell_of_row _ _ _ _ _ _ C1.out
    have C1_2 : V6.cell? ⟨w.heap.size + 1, 2, none⟩ = some (.int .i64 D) := cell_of_row _ _ _ _ _ _ C1.out
    have P1_0 : V6.cell? ⟨V1.heap.size, 0, none⟩ = some (.int .i64 0) := cell_of_row _ _ _ _ _ _ P1.out
    have P1_1 : V6.cell? ⟨V1.heap.size, 1, none⟩ = some (.int .i64 0) := cell_of_row _ _ _ _ _ _ P1.out
    have P1_2 : V6.cell? ⟨V1.heap.size, 2, none⟩ = some (.int .i64 r) := cell_of_row _ _ _ _ _ _ P1.out
    have N1_0 : V6.cell? ⟨V5.heap.size, 0, none⟩ = some (.int .i64 X1) := cell_of_row _ _ _ _ _ _ N1.out
    have N1_1 : V6.cell? ⟨V5.heap.size, 1, none⟩ = some (.int .i64 X2) := cell_of_row _ _ _ _ _ _ N1.out
    have N1_2 : V6.cell? ⟨V5.heap.size, 2, none⟩ = some (.int .i64 X3) := cell_of_row _ _ _ _ _ _ N1.out
    have zA1 := lt_of_heap A1.out
    have zC1 := lt_of_heap C1.out
    have zP1 := lt_of_heap P1.out
    have zN1 := lt_of_heap N1.out
    go_simp
    go_wp2_with fail
    refine (HK.out _ (by first | exact md_keep hM (B6.out) | exact md_keep hM ((B6.out).alloc (B6.out.size) _) | exact md_keep hM (((B6.out).alloc (B6.out.size) _).alloc (by have := B6.out.size; simp <;> omega) _) | exact md_keep hM ((((B6.out).alloc (B6.out.size) _).alloc (by have := B6.out.size; simp <;> omega) _).alloc (by have := B6.out.size; simp <;> omega) _))).mono ?_
    rintro e V7 ⟨rfl, hb7⟩
    clear A1_0 A1_1 A1_2 zA1 C1_0 C1_1 C1_2 zC1 P1_0 P1_1 P1_2 zP1 N1_0 N1_1 N1_2 zN1
    have B7 : Hid (Below w.heap.size w V7) := by first | exact Lib.hid ((B6.out).trans (hb7.mono (by have := B6.out.size; first | assumption | (simp <;> omega) | (simp; done)))) | exact Lib.hid (((B6.out).alloc (B6.out.size) _).trans (hb7.mono (by have := B6.out.size; first | assumption | (simp <;> omega) | (simp; done)))) | exact Lib.hid ((((B6.out).alloc (B6.out.size) _).alloc (by have := B6.out.size; simp <;> omega) _).trans (hb7.mono (by have := B6.out.size; first | assumption | (simp <;> omega) | (simp; done)))) | exact Lib.hid (((((B6.out).alloc (B6.out.size) _).alloc (by have := B6.out.size; simp <;> omega) _).alloc (by have := B6.out.size; simp <;> omega) _).trans (hb7.mono (by have := B6.out.size; first | assumption | (simp <;> omega) | (simp; done))))
    first | replace A1 := Lib.hid (row_call hb7 A1.out) | replace A1 := Lib.hid (row_call hb7 (row_alloc A1.out _)) | replace A1 := Lib.hid (row_call hb7 (row_alloc (row_alloc A1.out _) _)) | replace A1 := Lib.hid (row_call hb7 (row_alloc (row_alloc (row_alloc A1.out _) _) _))
    first | replace C1 := Lib.hid (row_call hb7 C1.out) | replace C1 := Lib.hid (row_call hb7 (row_alloc C1.out _)) | replace C1 := Lib.hid (row_call hb7 (row_alloc (row_alloc C1.out _) _)) | replace C1 := Lib.hid (row_call hb7 (row_alloc (row_alloc (row_alloc C1.out _) _) _))
    first | replace P1 := Lib.hid (row_call hb7 P1.out) | replace P1 := Lib.hid (row_call hb7 (row_alloc P1.out _)) | replace P1 := Lib.hid (row_call hb7 (row_alloc (row_alloc P1.out _) _)) | replace P1 := Lib.hid (row_call hb7 (row_alloc (row_alloc (row_alloc P1.out _) _) _))
    first | replace N1 := Lib.hid (row_call hb7 N1.out) | replace N1 := Lib.hid (row_call hb7 (row_alloc N1.out _)) | replace N1 := Lib.hid (row_call hb7 (row_alloc (row_alloc N1.out _) _)) | replace N1 := Lib.hid (row_call hb7 (row_alloc (row_alloc (row_alloc N1.out _) _) _))
    clear hb7
    have A1_0 : V7.cell? ⟨w.heap.size, 0, none⟩ = some (.int .i64 y) := cell_of_row _ _ _ _ _ _ A1.out
    have A1_1 : V7.cell? ⟨w.heap.size, 1, none⟩ = some (.int .i64 m) := cell_of_row _ _ _ _ _ _ A1.out
    have A1_2 : V7.cell? ⟨w.heap.size, 2, none⟩ = some (.int .i64 d) := cell_of_row _ _ _ _ _ _ A1.out
    have C1_0 : V7.cell? ⟨w.heap.size + 1, 0, none⟩ = some (.int .i64 Y) := cell_of_row _ _ _ _ _ _ C1.out
    have C1_1 : V7.cell? ⟨w.heap.size + 1, 1, none⟩ = some (.int .i64 M) := cell_of_row _ _ _ _ _ _ C1.out
    have C1_2 : V7.cell? ⟨w.heap.size + 1, 2, none⟩ = some (.int .i64 D) := cell_of_row _ _ _ _ _ _ C1.out
    have P1_0 : V7.cell? ⟨V1.heap.size, 0, none⟩ = some (.int .i64 0) := cell_of_row _ _ _ _ _ _ P1.out
    have P1_1 : V7.cell? ⟨V1.heap.size, 1, none⟩ = some (.int .i64 0) := cell_of_row _ _ _ _ _ _ P1.out
    have P1_2 : V7.cell? ⟨V1.heap.size, 2, none⟩ = some (.int .i64 r) := cell_of_row _ _ _ _ _ _ P1.out
    have N1_0 : V7.cell? ⟨V5.heap.size, 0, none⟩ = some (.int .i64 X1) := cell_of_row _ _ _ _ _ _ N1.out
    have N1_1 : V7.cell? ⟨V5.heap.size, 1, none⟩ = some (.int .i64 X2) := cell_of_row _ _ _ _ _ _ N1.out
    have N1_2 : V7.cell? ⟨V5.heap.size, 2, none⟩ = some (.int .i64 X3) := cell_of_row _ _ _ _ _ _ N1.out
    have zA1 := lt_of_heap A1.out
    have zC1 := lt_of_heap C1.out
    have zP1 := lt_of_heap P1.out
    have zN1 := lt_of_heap N1.out
    go_simp
    go_wp2
    go_ret
    exact ⟨rfl, by first | exact B7.out | exact B7.out.alloc B7.out.size _⟩
set_option maxHeartbeats 3200000 in
set_option maxRecDepth 100000 in
theorem gr_d3 (y m d Y M D p q r X1 X2 X3 F : Int) (p1 : -100000 ≤ p) (p2 : p ≤ 100000) (q1 : -12 < q) (q2 : q < 12) 
    (H1 : Hid (∀ w, MD w → Calls Tryd.prog 7 #[.agg #[.int .i64 y, .int .i64 m, .int .i64 d], .agg #[.int .i64 Y, .int .i64 M, .int .i64 D]] w fun e w' => e = .returned (.tuple #[.agg #[.int .i64 0, .int .i64 0, .int .i64 0], .int .i64 0]) ∧ Below w.heap.size w w'))
    (HC : Hid (∀ w, Calls Tryd.prog 13 #[.agg #[.int .i64 y, .int .i64 m, .int .i64 d], .agg #[.int .i64 Y, .int .i64 M, .int .i64 D]] w fun e w' => e = .returned (.int .i64 (1)) ∧ Below w.heap.size w w'))
    (HA : Hid (∀ w, Calls Tryd.prog 14 #[.agg #[.int .i64 y, .int .i64 m, .int .i64 d], .int .i64 (-1), .int .i64 0] w fun e w' => e = .returned (.tuple #[.agg #[.int .i64 X1, .int .i64 X2, .int .i64 X3], .int .i64 F]) ∧ Below w.heap.size w w'))
    (HX : (F != 0) = true ∨ (F = 0 ∧ ∀ w, Calls Tryd.prog 13 #[.agg #[.int .i64 X1, .int .i64 X2, .int .i64 X3], .agg #[.int .i64 Y, .int .i64 M, .int .i64 D]] w fun e w' => e = .returned (.int .i64 (-1)) ∧ Below w.heap.size w w')) (w : World) (hM : MD w) :
    Calls Tryd.prog 5 #[.agg #[.int .i64 y, .int .i64 m, .int .i64 d], .agg #[.int .i64 Y, .int .i64 M, .int .i64 D]] w fun e w' => e = .returned (.bool true) ∧ Below w.heap.size w w' := by
  have HK := Lib.hid awake12_any
  replace hM := Lib.hid hM
  replace HX := Lib.hid HX
  go_enter Tryd.func5, Tryd.ntmps5
  go_wp2_with fail
  
  refine (H1.out _ (by first | exact md_keep hM (((Below.refl w.heap.size w).alloc (Nat.le_refl _) _).alloc (by simp <;> omega) _))).mono ?_
  rintro e V1 ⟨rfl, hb1⟩
  have B1 := Lib.hid ((((Below.refl w.heap.size w).alloc (Nat.le_refl _) _).alloc (by simp <;> omega) _).trans (hb1.mono (by first | assumption | (simp <;> omega) | (simp; done))))
  have A1 := Lib.hid (row_call hb1 (row_alloc (heap_alloc_new _ _) _))
  have C1 := Lib.hid (row_at (k' := w.heap.size + 1) (by simp) (row_call hb1 (heap_alloc_new _ _)))
  clear hb1
  have A1_0 : V1.cell? ⟨w.heap.size, 0, none⟩ = some (.int .i64 y) := cell_of_row _ _ _ _ _ _ A1.out
  have A1_1 : V1.cell? ⟨w.heap.size, 1, none⟩ = some (.int .i64 m) := cell_of_row _ _ _ _ _ _ A1.out
  have A1_2 : V1.cell? ⟨w.heap.size, 2, none⟩ = some (.int .i64 d) := cell_of_row _ _ _ _ _ _ A1.out
  have C1_0 : V1.cell? ⟨w.heap.size + 1, 0, none⟩ = some (.int .i64 Y) := cell_of_row _ _ _ _ _ _ C1.out
  have C1_1 : V1.cell? ⟨w.heap.size + 1, 1, none⟩ = some (.int .i64 M) := cell_of_row _ _ _ _ _ _ C1.out
  have C1_2 : V1.cell? ⟨w.heap.size + 1, 2, none⟩ = some (.int .i64 D) := cell_of_row _ _ _ _ _ _ C1.out
  have zA1 := lt_of_heap A1.out
  have zC1 := lt_of_heap C1.out
  go_simp
  go_wp2_with fail
  refine (HC.out _).mono ?_
  rintro e V2 ⟨rfl, hb2⟩
  clear A1_0 A1_1 A1_2 zA1 C1_0 C1_1 C1_2 zC1
  have nA1P1 := Lib.hid (lt_of_heap A1.out)
  have nC1P1 := Lib.hid (lt_of_heap C1.out)
  have B2 := Lib.hid (((B1.out).alloc (B1.out.size) _).trans (hb2.mono (by have := B1.out.size; first | assumption | (simp <;> omega) | (simp; done))))
  replace A1 := Lib.hid (row_call hb2 (row_alloc A1.out _))
  replace C1 := Lib.hid (row_call hb2 (row_alloc C1.out _))
  have P1 := Lib.hid (row_call hb2 (heap_alloc_new _ _))
  clear hb2
  have A1_0 : V2.cell? ⟨w.heap.size, 0, none⟩ = some (.int .i64 y) := cell_of_row _ _ _ _ _ _ A1.out
  have A1_1 : V2.cell? ⟨w.heap.size, 1, none⟩ = some (.int .i64 m) := cell_of_row _ _ _ _ _ _ A1.out
  have A1_2 : V2.cell? ⟨w.heap.size, 2, none⟩ = some (.int .i64 d) := cell_of_row _ _ _ _ _ _ A1.out
  have C1_0 : V2.cell? ⟨w.heap.size + 1, 0, none⟩ = some (.int .i64 Y) := cell_of_row _ _ _ _ _ _ C1.out
  have C1_1 : V2.cell? ⟨w.heap.size + 1, 1, none⟩ = some (.int .i64 M) := cell_of_row _ _ _ _ _ _ C1.out
  have C1_2 : V2.cell? ⟨w.heap.size + 1, 2, none⟩ = some (.int .i64 D) := cell_of_row _ _ _ _ _ _ C1.out
  have P1_0 : V2.cell? ⟨V1.heap.size, 0, none⟩ = some (.int .i64 0) := cell_of_row _ _ _ _ _ _ P1.out
  have P1_1 : V2.cell? ⟨V1.heap.size, 1, none⟩ = some (.int .i64 0) := cell_of_row _ _ _ _ _ _ P1.out
  have P1_2 : V2.cell? ⟨V1.heap.size, 2, none⟩ = some (.int .i64 0) := cell_of_row _ _ _ _ _ _ P1.out
  have zA1 := lt_of_heap A1.out
  have zC1 := lt_of_heap C1.out
  have zP1 := lt_of_heap P1.out
  go_simp
  go_wp2_with fail
  refine (HC.out _).mono ?_
  rintro e V3 ⟨rfl, hb3⟩
  clear A1_0 A1_1 A1_2 zA1 C1_0 C1_1 C1_2 zC1 P1_0 P1_1 P1_2 zP1
  have B3 : Hid (Below w.heap.size w V3) := by first | exact Lib.hid ((B2.out).trans (hb3.mono (by have := B2.out.size; first | assumption | (simp <;> omega) | (simp; done)))) | exact Lib.hid (((B2.out).alloc (B2.out.size) _).trans (hb3.mono (by have := B2.out.size; first | assumption | (simp <;> omega) | (simp; done)))) | exact Lib.hid ((((B2.out).alloc (B2.out.size) _).alloc (by have := B2.out.size; simp <;> omega) _).trans (hb3.mono (by have := B2.out.size; first | assumption | (simp <;> omega) | (simp; done)))) | exact Lib.hid (((((B2.out).alloc (B2.out.size) _).alloc (by have := B2.out.size; simp <;> omega) _).alloc (by have := B2.out.size; simp <;> omega) _).trans (hb3.mono (by have := B2.out.size; first | assumption | (simp <;> omega) | (simp; done))))
  first | replace A1 := Lib.hid (row_call hb3 A1.out) | replace A1 := Lib.hid (row_call hb3 (row_alloc A1.out _)) | replace A1 := Lib.hid (row_call hb3 (row_alloc (row_alloc A1.out _) _)) | replace A1 := Lib.hid (row_call hb3 (row_alloc (row_alloc (row_alloc A1.out _) _) _))
  first | replace C1 := Lib.hid (row_call hb3 C1.out) | replace C1 := Lib.hid (row_call hb3 (row_alloc C1.out _)) | replace C1 := Lib.hid (row_call hb3 (row_alloc (row_alloc C1.out _) _)) | replace C1 := Lib.hid (row_call hb3 (row_alloc (row_alloc (row_alloc C1.out _) _) _))
  first | replace P1 := Lib.hid (row_call hb3 P1.out) | replace P1 := Lib.hid (row_call hb3 (row_alloc P1.out _)) | replace P1 := Lib.hid (row_call hb3 (row_alloc (row_alloc P1.out _) _)) | replace P1 := Lib.hid (row_call hb3 (row_alloc (row_alloc (row_alloc P1.out _) _) _))
  clear hb3
  have A1_0 : V3.cell? ⟨w.heap.size, 0, none⟩ = some (.int .i64 y) := cell_of_row _ _ _ _ _ _ A1.out
  have A1_1 : V3.cell? ⟨w.heap.size, 1, none⟩ = some (.int .i64 m) := cell_of_row _ _ _ _ _ _ A1.out
  have A1_2 : V3.cell? ⟨w.heap.size, 2, none⟩ = some (.int .i64 d) := cell_of_row _ _ _ _ _ _ A1.out
  have C1_0 : V3.cell? ⟨w.heap.size + 1, 0, none⟩ = some (.int .i64 Y) := cell_of_row _ _ _ _ _ _ C1.out
  have C1_1 : V3.cell? ⟨w.heap.size + 1, 1, none⟩ = some (.int .i64 M) := cell_of_row _ _ _ _ _ _ C1.out
  have C1_2 : V3.cell? ⟨w.heap.size + 1, 2, none⟩ = some (.int .i64 D) := cell_of_row _ _ _ _ _ _ C1.out
  have P1_0 : V3.cell? ⟨V1.heap.size, 0, none⟩ = some (.int .i64 0) := cell_of_row _ _ _ _ _ _ P1.out
  have P1_1 : V3.cell? ⟨V1.heap.size, 1, none⟩ = some (.int .i64 0) := cell_of_row _ _ _ _ _ _ P1.out
  have P1_2 : V3.cell? ⟨V1.heap.size, 2, none⟩ = some (.int .i64 0) := cell_of_row _ _ _ _ _ _ P1.out
  have zA1 := lt_of_heap A1.out
  have zC1 := lt_of_heap C1.out
  have zP1 := lt_of_heap P1.out
  go_simp
  go_wp2_with fail
  refine (HC.out _).mono ?_
  rintro e V4 ⟨rfl, hb4⟩
  clear A1_0 A1_1 A1_2 zA1 C1_0 C1_1 C1_2 zC1 P1_0 P1_1 P1_2 zP1
  have B4 : Hid (Below w.heap.size w V4) := by first | exact Lib.hid ((B3.out).trans (hb4.mono (by have := B3.out.size; first | assumption | (simp <;> omega) | (simp; done)))) | exact Lib.hid (((B3.out).alloc (B3.out.size) _).trans (hb4.mono (by have := B3.out.size; first | assumption | (simp <;> omega) | (simp; done)))) | exact Lib.hid ((((B3.out).alloc (B3.out.size) _).alloc (by have := B3.out.size; simp <;> omega) _).trans (hb4.mono (by have := B3.out.size; first | assumption | (simp <;> omega) | (simp; done)))) | exact Lib.hid (((((B3.out).alloc (B3.out.size) _).alloc (by have := B3.out.size; simp <;> omega) _).alloc (by have := B3.out.size; simp <;> omega) _).trans (hb4.mono (by have := B3.out.size; first | assumption | (simp <;> omega) | (simp; done))))
  first | replace A1 := Lib.hid (row_call hb4 A1.out) | replace A1 := Lib.hid (row_call hb4 (row_alloc A1.out _)) | replace A1 := Lib.hid (row_call hb4 (row_alloc (row_alloc A1.out _) _)) | replace A1 := Lib.hid (row_call hb4 (row_alloc (row_alloc (row_alloc A1.out _) _) _))
  first | replace C1 := Lib.hid (row_call hb4 C1.out) | replace C1 := Lib.hid (row_call hb4 (row_alloc C1.out _)) | replace C1 := Lib.hid (row_call hb4 (row_alloc (row_alloc C1.out _) _)) | replace C1 := Lib.hid (row_call hb4 (row_alloc (row_alloc (row_alloc C1.out _) _) _))
  first | replace P1 := Lib.hid (row_call hb4 P1.out) | replace P1 := Lib.hid (row_call hb4 (row_alloc P1.out _)) | replace P1 := Lib.hid (row_call hb4 (row_alloc (row_alloc P1.out _) _)) | replace P1 := Lib.hid (row_call hb4 (row_alloc (row_alloc (row_alloc P1.out _) _) _))
  clear hb4
  have A1_0 : V4.cell? ⟨w.heap.size, 0, none⟩ = some (.int .i64 y) := cell_of_row _ _ _ _ _ _ A1.out
  have A1_1 : V4.cell? ⟨w.heap.size, 1, none⟩ = some (.int .i64 m) := cell_of_row _ _ _ _ _ _ A1.out
  have A1_2 : V4.cell? ⟨w.heap.size, 2, none⟩ = some (.int .i64 d) := cell_of_row _ _ _ _ _ _ A1.out
  have C1_0 : V4.cell? ⟨w.heap.size + 1, 0, none⟩ = some (.int .i64 Y) := cell_of_row _ _ _ _ _ _ C1.out
  have C1_1 : V4.cell? ⟨w.heap.size + 1, 1, none⟩ = some (.int .i64 M) := cell_of_row _ _ _ _ _ _ C1.out
  have C1_2 : V4.cell? ⟨w.heap.size + 1, 2, none⟩ = some (.int .i64 D) := cell_of_row _ _ _ _ _ _ C1.out
  have P1_0 : V4.cell? ⟨V1.heap.size, 0, none⟩ = some (.int .i64 0) := cell_of_row _ _ _ _ _ _ P1.out
  have P1_1 : V4.cell? ⟨V1.heap.size, 1, none⟩ = some (.int .i64 0) := cell_of_row _ _ _ _ _ _ P1.out
  have P1_2 : V4.cell? ⟨V1.heap.size, 2, none⟩ = some (.int .i64 0) := cell_of_row _ _ _ _ _ _ P1.out
  have zA1 := lt_of_heap A1.out
  have zC1 := lt_of_heap C1.out
  have zP1 := lt_of_heap P1.out
  go_simp
  go_wp2_with fail
  refine (HA.out _).mono ?_
  rintro e V5 ⟨rfl, hb5⟩
  clear A1_0 A1_1 A1_2 zA1 C1_0 C1_1 C1_2 zC1 P1_0 P1_1 P1_2 zP1
  have B5 : Hid (Below w.heap.size w V5) := by first | exact Lib.hid ((B4.out).trans (hb5.mono (by have := B4.out.size; first | assumption | (simp <;> omega) | (simp; done)))) | exact Lib.hid (((B4.out).alloc (B4.out.size) _).trans (hb5.mono (by have := B4.out.size; first | assumption | (simp <;> omega) | (simp; done)))) | exact Lib.hid ((((B4.out).alloc (B4.out.size) _).alloc (by have := B4.out.size; simp <;> omega) _).trans (hb5.mono (by have := B4.out.size; first | assumption | (simp <;> omega) | (simp; done)))) | exact Lib.hid (((((B4.out).alloc (B4.out.size) _).alloc (by have := B4.out.size; simp <;> omega) _).alloc (by have := B4.out.size; simp <;> omega) _).trans (hb5.mono (by have := B4.out.size; first | assumption | (simp <;> omega) | (simp; done))))
  first | replace A1 := Lib.hid (row_call hb5 A1.out) | replace A1 := Lib.hid (row_call hb5 (row_alloc A1.out _)) | replace A1 := Lib.hid (row_call hb5 (row_alloc (row_alloc A1.out _) _)) | replace A1 := Lib.hid (row_call hb5 (row_alloc (row_alloc (row_alloc A1.out _) _) _))
  first | replace C1 := Lib.hid (row_call hb5 C1.out) | replace C1 := Lib.hid (row_call hb5 (row_alloc C1.out _)) | replace C1 := Lib.hid (row_call hb5 (row_alloc (row_alloc C1.out _) _)) | replace C1 := Lib.hid (row_call hb5 (row_alloc (row_alloc (row_alloc C1.out _) _) _))
  first | replace P1 := Lib.hid (row_call hb5 P1.out) | replace P1 := Lib.hid (row_call hb5 (row_alloc P1.out _)) | replace P1 := Lib.hid (row_call hb5 (row_alloc (row_alloc P1.out _) _)) | replace P1 := Lib.hid (row_call hb5 (row_alloc (row_alloc (row_alloc P1.out _) _) _))
  clear hb5
  have A1_0 : V5.cell? ⟨w.heap.size, 0, none⟩ = some (.int .i64 y) := cell_of_row _ _ _ _ _ _ A1.out
  have A1_1 : V5.cell? ⟨w.heap.size, 1, none⟩ = some (.int .i64 m) := cell_of_row _ _ _ _ _ _ A1.out
  have A1_2 : V5.cell? ⟨w.heap.size, 2, none⟩ = some (.int .i64 d) := cell_of_row _ _ _ _ _ _ A1.out
  have C1_0 : V5.cell? ⟨w.heap.size + 1, 0, none⟩ = some (.int .i64 Y) := cell_of_row _ _ _ _ _ _ C1.out
  have C1_1 : V5.cell? ⟨w.heap.size + 1, 1, none⟩ = some (.int .i64 M) := cell_of_row _ _ _ _ _ _ C1.out
  have C1_2 : V5.cell? ⟨w.heap.size + 1, 2, none⟩ = some (.int .i64 D) := cell_of_row _ _ _ _ _ _ C1.out
  have P1_0 : V5.cell? ⟨V1.heap.size, 0, none⟩ = some (.int .i64 0) := cell_of_row _ _ _ _ _ _ P1.out
  have P1_1 : V5.cell? ⟨V1.heap.size, 1, none⟩ = some (.int .i64 0) := cell_of_row _ _ _ _ _ _ P1.out
  have P1_2 : V5.cell? ⟨V1.heap.size, 2, none⟩ = some (.int .i64 0) := cell_of_row _ _ _ _ _ _ P1.out
  have zA1 := lt_of_heap A1.out
  have zC1 := lt_of_heap C1.out
  have zP1 := lt_of_heap P1.out
  go_simp
  
  rcases HX.out with f1 | ⟨rfl, HY⟩
  · skip
    clear HX
    go_wp2_with fail
    refine (HK.out _ (by first | exact md_keep hM ((B5.out).alloc (B5.out.size) _))).mono ?_
    rintro e V6 ⟨rfl, hb6⟩
    clear A1_0 A1_1 A1_2 zA1 C1_0 C1_1 C1_2 zC1 P1_0 P1_1 P1_2 zP1
    have nA1N1 := Lib.hid (lt_of_heap A1.out)
    have nC1N1 := Lib.hid (lt_of_heap C1.out)
    have nP1N1 := Lib.hid (lt_of_heap P1.out)
    have B6 := Lib.hid (((B5.out).alloc (B5.out.size) _).trans (hb6.mono (by have := B5.out.size; first | assumption | (simp <;> omega) | (simp; done))))
    replace A1 := Lib.hid (row_call hb6 (row_alloc A1.out _))
    replace C1 := Lib.hid (row_call hb6 (row_alloc C1.out _))
    replace P1 := Lib.hid (row_call hb6 (row_alloc P1.out _))
    have N1 := Lib.hid (row_call hb6 (heap_alloc_new _ _))
    clear hb6
    have A1_0 : V6.cell? ⟨w.heap.size, 0, none⟩ = some (.int .i64 y) := cell_of_row _ _ _ _ _ _ A1.out
    have A1_1 : V6.cell? ⟨w.heap.size, 1, none⟩ = some (.int .i64 m) := cell_of_row _ _ _ _ _ _ A1.out
    have A1_2 : V6.cell? ⟨w.heap.size, 2, none⟩ = some (.int .i64 d) := cell_of_row _ _ _ _ _ _ A1.out
    have C1_0 : V6.cell? ⟨w.heap.size + 1, 0, none⟩ = some (.int .i64 Y) := cell_of_row _ _ _ _ _ _ C1.out
    have C1_1 : V6.cell? ⟨w.heap.size + 1, 1, none⟩ = some (.int .i64 M) := cell_of_row _ _ _ _ _ _ C1.out
    have C1_2 : V6.cell? ⟨w.heap.size + 1, 2, none⟩ = some (.int .i64 D) := cell_of_row _ _ _ _ _ _ C1.out
    have P1_0 : V6.cell? ⟨V1.heap.size, 0, none⟩ = some (.int .i64 0) := cell_of_row _ _ _ _ _ _ P1.out
    have P1_1 : V6.cell? ⟨V1.heap.size, 1, none⟩ = some (.int .i64 0) := cell_of_row _ _ _ _ _ _ P1.out
    have P1_2 : V6.cell? ⟨V1.heap.size, 2, none⟩ = some (.int .i64 0) := cell_of_row _ _ _ _ _ _ P1.out
    have N1_0 : V6.cell? ⟨V5.heap.size, 0, none⟩ = some (.int .i64 X1) := cell_of_row _ _ _ _ _ _ N1.out
    have N1_1 : V6.cell? ⟨V5.heap.size, 1, none⟩ = some (.int .i64 X2) := cell_of_row _ _ _ _ _ _ N1.out
    have N1_2 : V6.cell? ⟨V5.heap.size, 2, none⟩ = some (.int .i64 X3) := cell_of_row _ _ _ _ _ _ N1.out
    have zA1 := lt_of_heap A1.out
    have zC1 := lt_of_heap C1.out
    have zP1 := lt_of_heap P1.out
    have zN1 := lt_of_heap N1.out
    go_simp
    go_wp2
    go_ret
    exact ⟨rfl, by first | exact B6.out | exact B6.out.alloc B6.out.size _⟩
  · skip
    
    clear HX
    replace HY := Lib.hid HY
    go_wp2_with fail
    refine (HY.out _).mono ?_
    rintro e V6 ⟨rfl, hb6⟩
    clear A1_0 A1_1 A1_2 zA1 C1_0 C1_1 C1_2 zC1 P1_0 P1_1 P1_2 zP1
    have nA1N1 := Lib.hid (lt_of_heap A1.out)
    have nC1N1 := Lib.hid (lt_of_heap C1.out)
    have nP1N1 := Lib.hid (lt_of_heap P1.out)
    have B6 := Lib.hid (((B5.out).alloc (B5.out.size) _).trans (hb6.mono (by have := B5.out.size; first | assumption | (simp <;> omega) | (simp; done))))
    replace A1 := Lib.hid (row_call hb6 (row_alloc A1.out _))
    replace C1 := Lib.hid (row_call hb6 (row_alloc C1.out _))
    replace P1 := Lib.hid (row_call hb6 (row_alloc P1.out _))
    have N1 := Lib.hid (row_call hb6 (heap_alloc_new _ _))
    clear hb6
    have A1_0 : V6.cell? ⟨w.heap.size, 0, none⟩ = some (.int .i64 y) := cell_of_row _ _ _ _ _ _ A1.out
    have A1_1 : V6.cell? ⟨w.heap.size, 1, none⟩ = some (.int .i64 m) := cell_of_row _ _ _ _ _ _ A1.out
    have A1_2 : V6.cell? ⟨w.heap.size, 2, none⟩ = some (.int .i64 d) := cell_of_row _ _ _ _ _ _ A1.out
    have C1_0 : V6.cell? ⟨w.heap.size + 1, 0, none⟩ = some (.int .i64 Y) := cell_of_row _ _ _ _ _ _ C1.out
    have C1_1 : V6.cell? ⟨w.heap.size + 1, 1, none⟩ = some (.int .i64 M) := cell_of_row _ _ _ _ _ _ C1.out
    have C1_2 : V6.cell? ⟨w.heap.size + 1, 2, none⟩ = some (.int .i64 D) := cell_of_row _ _ _ _ _ _ C1.out
    have P1_0 : V6.cell? ⟨V1.heap.size, 0, none⟩ = some (.int .i64 0) := cell_of_row _ _ _ _ _ _ P1.out
    have P1_1 : V6.cell? ⟨V1.heap.size, 1, none⟩ = some (.int .i64 0) := cell_of_row _ _ _ _ _ _ P1.out
    have P1_2 : V6.cell? ⟨V1.heap.size, 2, none⟩ = some (.int .i64 0) := cell_of_row _ _ _ _ _ _ P1.out
    have N1_0 : V6.cell? ⟨V5.heap.size, 0, none⟩ = some (.int .i64 X1) := cell_of_row _ _ _ _ _ _ N1.out
    have N1_1 : V6.cell? ⟨V5.heap.size, 1, none⟩ = some (.int .i64 X2) := cell_of_row _ _ _ _ _ _ N1.out
    have N1_2 : V6.cell? ⟨V5.heap.size, 2, none⟩ = some (.int .i64 X3) := cell_of_row _ _ _ _ _ _ N1.out
    have zA1 := lt_of_heap A1.out
    have zC1 := lt_of_heap C1.out
    have zP1 := lt_of_heap P1.out
    have zN1 := lt_of_heap N1.out
    go_simp
    go_wp2_with fail
    refine (HK.out _ (by first | exact md_keep hM (B6.out) | exact md_keep hM ((B6.out).alloc (B6.out.size) _) | exact md_keep hM (((B6.out).alloc (B6.out.size) _).alloc (by have := B6.out.size; simp <;> omega) _) | exact md_keep hM ((((B6.out).alloc (B6.out.size) _).alloc (by have := B6.out.size; simp <;> omega) _).alloc (by have := B6.out.size; simp <;> omega) _))).mono ?_
    rintro e V7 ⟨rfl, hb7⟩
    clear A1_0 A1_1 A1_2 zA1 C1_0 C1_1 C1_2 zC1 P1_0 P1_1 P1_2 zP1 N1_0 N1_1 N1_2 zN1
    have B7 : Hid (Below w.heap.size w V7) := by first | exact Lib.hid ((B6.out).trans (hb7.mono (by have := B6.out.size; first | assumption | (simp <;> omega) | (simp; done)))) | exact Lib.hid (((B6.out).alloc (B6.out.size) _).trans (hb7.mono (by have := B6.out.size; first | assumption | (simp <;> omega) | (simp; done)))) | exact Lib.hid ((((B6.out).alloc (B6.out.size) _).alloc (by have := B6.out.size; simp <;> omega) _).trans (hb7.mono (by have := B6.out.size; first | assumption | (simp <;> omega) | (simp; done)))) | exact Lib.hid (((((B6.out).alloc (B6.out.size) _).alloc (by have := B6.out.size; simp <;> omega) _).alloc (by have := B6.out.size; simp <;> omega) _).trans (hb7.mono (by have := B6.out.size; first | assumption | (simp <;> omega) | (simp; done))))
    first | replace A1 := Lib.hid (row_call hb7 A1.out) | replace A1 := Lib.hid (row_call hb7 (row_alloc A1.out _)) | replace A1 := Lib.hid (row_call hb7 (row_alloc (row_alloc A1.out _) _)) | replace A1 := Lib.hid (row_call hb7 (row_alloc (row_alloc (row_alloc A1.out _) _) _))
    first | replace C1 := Lib.hid (row_call hb7 C1.out) | replace C1 := Lib.hid (row_call hb7 (row_alloc C1.out _)) | replace C1 := Lib.hid (row_call hb7 (row_alloc (row_alloc C1.out _) _)) | replace C1 := Lib.hid (row_call hb7 (row_alloc (row_alloc (row_alloc C1.out _) _) _))
    first | replace P1 := Lib.hid (row_call hb7 P1.out) | replace P1 := Lib.hid (row_call hb7 (row_alloc P1.out _)) | replace P1 := Lib.hid (row_call hb7 (row_alloc (row_alloc P1.out _) _)) | replace P1 := Lib.hid (row_call hb7 (row_alloc (row_alloc (row_alloc P1.out _) _) _))
    first | replace N1 := Lib.hid (row_call hb7 N1.out) | replace N1 := Lib.hid (row_call hb7 (row_alloc N1.out _)) | replace N1 := Lib.hid (row_call hb7 (row_alloc (row_alloc N1.out _) _)) | replace N1 := Lib.hid (row_call hb7 (row_alloc (row_alloc (row_alloc N1.out _) _) _))
    clear hb7
    have A1_0 : V7.cell? ⟨w.heap.size, 0, none⟩ = some (.int .i64 y) := cell_of_row _ _ _ _ _ _ A1.out
    have A1_1 : V7.cell? ⟨w.heap.size, 1, none⟩ = some (.int .i64 m) := cell_of_row _ _ _ _ _ _ A1.out
    have A1_2 : V7.cell? ⟨w.heap.size, 2, none⟩ = some (.int .i64 d) := cell_of_row _ _ _ _ _ _ A1.out
    have C1_0 : V7.cell? ⟨w.heap.size + 1, 0, none⟩ = some (.int .i64 Y) := cell_of_row _ _ _ _ _ _ C1.out
    have C1_1 : V7.cell? ⟨w.heap.size + 1, 1, none⟩ = some (.int .i64 M) := cell_of_row _ _ _ _ _ _ C1.out
    have C1_2 : V7.cell? ⟨w.heap.size + 1, 2, none⟩ = some (.int .i64 D) := cell_of_row _ _ _ _ _ _ C1.out
    have P1_0 : V7.cell? ⟨V1.heap.size, 0, none⟩ = some (.int .i64 0) := cell_of_row _ _ _ _ _ _ P1.out
    have P1_1 : V7.cell? ⟨V1.heap.size, 1, none⟩ = some (.int .i64 0) := cell_of_row _ _ _ _ _ _ P1.out
    have P1_2 : V7.cell? ⟨V1.heap.size, 2, none⟩ = some (.int .i64 0) := cell_of_row _ _ _ _ _ _ P1.out
    have N1_0 : V7.cell? ⟨V5.heap.size, 0, none⟩ = some (.int .i64 X1) := cell_of_row _ _ _ _ _ _ N1.out
    have N1_1 : V7.cell? ⟨V5.heap.size, 1, none⟩ = some (.int .i64 X2) := cell_of_row _ _ _ _ _ _ N1.out
    have N1_2 : V7.cell? ⟨V5.heap.size, 2, none⟩ = some (.int .i64 X3) := cell_of_row _ _ _ _ _ _ N1.out
    have zA1 := lt_of_heap A1.out
    have zC1 := lt_of_heap C1.out
    have zP1 := lt_of_heap P1.out
    have zN1 := lt_of_heap N1.out
    go_simp
    go_wp2
    go_ret
    exact ⟨rfl, by first | exact B7.out | exact B7.out.alloc B7.out.size _⟩
set_option maxHeartbeats 3200000 in
set_option maxRecDepth 100000 in
theorem gr_z (y m d Y M D p q r X1 X2 X3 F : Int) (p1 : -100000 ≤ p) (p2 : p ≤ 100000) (q1 : -12 < q) (q2 : q < 12) 
    (H1 : Hid (∀ w, MD w → Calls Tryd.prog 7 #[.agg #[.int .i64 y, .int .i64 m, .int .i64 d], .agg #[.int .i64 Y, .int .i64 M, .int .i64 D]] w fun e w' => e = .returned (.tuple #[.agg #[.int .i64 0, .int .i64 0, .int .i64 0], .int .i64 0]) ∧ Below w.heap.size w w'))
    (HC : Hid (∀ w, Calls Tryd.prog 13 #[.agg #[.int .i64 y, .int .i64 m, .int .i64 d], .agg #[.int .i64 Y, .int .i64 M, .int .i64 D]] w fun e w' => e = .returned (.int .i64 (0)) ∧ Below w.heap.size w w'))
    (HA : Hid (∀ w, Calls Tryd.prog 14 #[.agg #[.int .i64 y, .int .i64 m, .int .i64 d], .int .i64 (1), .int .i64 0] w fun e w' => e = .returned (.tuple #[.agg #[.int .i64 X1, .int .i64 X2, .int .i64 X3], .int .i64 F]) ∧ Below w.heap.size w w'))
    (HX : (F != 0) = true ∨ (F = 0 ∧ ∀ w, Calls Tryd.prog 13 #[.agg #[.int .i64 X1, .int .i64 X2, .int .i64 X3], .agg #[.int .i64 Y, .int .i64 M, .int .i64 D]] w fun e w' => e = .returned (.int .i64 (1)) ∧ Below w.heap.size w w')) (w : World) (hM : MD w) :
    Calls Tryd.prog 5 #[.agg #[.int .i64 y, .int .i64 m, .int .i64 d], .agg #[.int .i64 Y, .int .i64 M, .int .i64 D]] w fun e w' => e = .returned (.bool true) ∧ Below w.heap.size w w' := by
  have HK := Lib.hid awake12_any
  replace hM := Lib.hid hM
  replace HX := Lib.hid HX
  go_enter Tryd.func5, Tryd.ntmps5
  go_wp2_with fail
  
  refine (H1.out _ (by first | exact md_keep hM (((Below.refl w.heap.size w).alloc (Nat.le_refl _) _).alloc (by simp <;> omega) _))).mono ?_
  rintro e V1 ⟨rfl, hb1⟩
  have B1 := Lib.hid ((((Below.refl w.heap.size w).alloc (Nat.le_refl _) _).alloc (by simp <;> omega) _).trans (hb1.mono (by first | assumption | (simp <;> omega) | (simp; done))))
  have A1 := Lib.hid (row_call hb1 (row_alloc (heap_alloc_new _ _) _))
  have C1 := Lib.hid (row_at (k' := w.heap.size + 1) (by simp) (row_call hb1 (heap_alloc_new _ _)))
  clear hb1
  have A1_0 : V1.cell? ⟨w.heap.size, 0, none⟩ = some (.int .i64 y) := cell_of_row _ _ _ _ _ _ A1.out
  have A1_1 : V1.cell? ⟨w.heap.size, 1, none⟩ = some (.int .i64 m) := cell_of_row _ _ _ _ _ _ A1.out
  have A1_2 : V1.cell? ⟨w.heap.size, 2, none⟩ = some (.int .i64 d) := cell_of_row _ _ _ _ _ _ A1.out
  have C1_0 : V1.cell? ⟨w.heap.size + 1, 0, none⟩ = some (.int .i64 Y) := cell_of_row _ _ _ _ _ _ C1.out
  have C1_1 : V1.cell? ⟨w.heap.size + 1, 1, none⟩ = some (.int .i64 M) := cell_of_row _ _ _ _ _ _ C1.out
  have C1_2 : V1.cell? ⟨w.heap.size + 1, 2, none⟩ = some (.int .i64 D) := cell_of_row _ _ _ _ _ _ C1.out
  have zA1 := lt_of_heap A1.out
  have zC1 := lt_of_heap C1.out
  go_simp
  go_wp2_with fail
  refine (HC.out _).mono ?_
  rintro e V2 ⟨rfl, hb2⟩
  clear A1_0 A1_1 A1_2 zA1 C1_0 C1_1 C1_2 zC1
  have nA1P1 := Lib.hid (lt_of_heap A1.out)
  have nC1P1 := Lib.hid (lt_of_heap C1.out)
  have B2 := Lib.hid (((B1.out).alloc (B1.out.size) _).trans (hb2.mono (by have := B1.out.size; first | assumption | (simp <;> omega) | (simp; done))))
  replace A1 := Lib.hid (row_call hb2 (row_alloc A1.out _))
  replace C1 := Lib.hid (row_call hb2 (row_alloc C1.out _))
  have P1 := Lib.hid (row_call hb2 (heap_alloc_new _ _))
  clear hb2
  have A1_0 : V2.cell? ⟨w.heap.size, 0, none⟩ = some (.int .i64 y) := cell_of_row _ _ _ _ _ _ A1.out
  have A1_1 : V2.cell? ⟨w.heap.size, 1, none⟩ = some (.int .i64 m) := cell_of_row _ _ _ _ _ _ A1.out
  have A1_2 : V2.cell? ⟨w.heap.size, 2, none⟩ = some (.int .i64 d) := cell_of_row _ _ _ _ _ _ A1.out
  have C1_0 : V2.cell? ⟨w.heap.size + 1, 0, none⟩ = some (.int .i64 Y) := cell_of_row _ _ _ _ _ _ C1.out
  have C1_1 : V2.cell? ⟨w.heap.size + 1, 1, none⟩ = some (.int .i64 M) := cell_of_row _ _ _ _ _ _ C1.out
  have C1_2 : V2.cell? ⟨w.heap.size + 1, 2, none⟩ = some (.int .i64 D) := cell_of_row _ _ _ _ _ _ C1.out
  have P1_0 : V2.cell? ⟨V1.heap.size, 0, none⟩ = some (.int .i64 0) := cell_of_row _ _ _ _ _ _ P1.out
  have P1_1 : V2.cell? ⟨V1.heap.size, 1, none⟩ = some (.int .i64 0) := cell_of_row _ _ _ _ _ _ P1.out
  have P1_2 : V2.cell? ⟨V1.heap.size, 2, none⟩ = some (.int .i64 0) := cell_of_row _ _ _ _ _ _ P1.out
  have zA1 := lt_of_heap A1.out
  have zC1 := lt_of_heap C1.out
  have zP1 := lt_of_heap P1.out
  go_simp
  go_wp2_with fail
  refine (HC.out _).mono ?_
  rintro e V3 ⟨rfl, hb3⟩
  clear A1_0 A1_1 A1_2 zA1 C1_0 C1_1 C1_2 zC1 P1_0 P1_1 P1_2 zP1
  have B3 : Hid (Below w.heap.size w V3) := by first | exact Lib.hid ((B2.out).trans (hb3.mono (by have := B2.out.size; first | assumption | (simp <;> omega) | (simp; done)))) | exact Lib.hid (((B2.out).alloc (B2.out.size) _).trans (hb3.mono (by have := B2.out.size; first | assumption | (simp <;> omega) | (simp; done)))) | exact Lib.hid ((((B2.out).alloc (B2.out.size) _).alloc (by have := B2.out.size; simp <;> omega) _).trans (hb3.mono (by have := B2.out.size; first | assumption | (simp <;> omega) | (simp; done)))) | exact Lib.hid (((((B2.out).alloc (B2.out.size) _).alloc (by have := B2.out.size; simp <;> omega) _).alloc (by have := B2.out.size; simp <;> omega) _).trans (hb3.mono (by have := B2.out.size; first | assumption | (simp <;> omega) | (simp; done))))
  first | replace A1 := Lib.hid (row_call hb3 A1.out) | replace A1 := Lib.hid (row_call hb3 (row_alloc A1.out _)) | replace A1 := Lib.hid (row_call hb3 (row_alloc (row_alloc A1.out _) _)) | replace A1 := Lib.hid (row_call hb3 (row_alloc (row_alloc (row_alloc A1.out _) _) _))
  first | replace C1 := Lib.hid (row_call hb3 C1.out) | replace C1 := Lib.hid (row_call hb3 (row_alloc C1.out _)) | replace C1 := Lib.hid (row_call hb3 (row_alloc (row_alloc C1.out _) _)) | replace C1 := Lib.hid (row_call hb3 (row_alloc (row_alloc (row_alloc C1.out _) _) _))
  first | replace P1 := Lib.hid (row_call hb3 P1.out) | replace P1 := Lib.hid (row_call hb3 (row_alloc P1.out _)) | replace P1 := Lib.hid (row_call hb3 (row_alloc (row_alloc P1.out _) _)) | replace P1 := Lib.hid (row_call hb3 (row_alloc (row_alloc (row_alloc P1.out _) _) _))
  clear hb3
  have A1_0 : V3.cell? ⟨w.heap.size, 0, none⟩ = some (.int .i64 y) := cell_of_row _ _ _ _ _ _ A1.out
  have A1_1 : V3.cell? ⟨w.heap.size, 1, none⟩ = some (.int .i64 m) := cell_of_row _ _ _ _ _ _ A1.out
  have A1_2 : V3.cell? ⟨w.heap.size, 2, none⟩ = some (.int .i64 d) := cell_of_row _ _ _ _ _ _ A1.out
  have C1_0 : V3.cell? ⟨w.heap.size + 1, 0, none⟩ = some (.int .i64 Y) := cell_of_row _ _ _ _ _ _ C1.out
  have C1_1 : V3.cell? ⟨w.heap.size + 1, 1, none⟩ = some (.int .i64 M) := cell_of_row _ _ _ _ _ _ C1.out
  have C1_2 : V3.cell? ⟨w.heap.size + 1, 2, none⟩ = some (.int .i64 D) := cell_of_row _ _ _ _ _ _ C1.out
  have P1_0 : V3.cell? ⟨V1.heap.size, 0, none⟩ = some (.int .i64 0) := cell_of_row _ _ _ _ _ _ P1.out
  have P1_1 : V3.cell? ⟨V1.heap.size, 1, none⟩ = some (.int .i64 0) := cell_of_row _ _ _ _ _ _ P1.out
  have P1_2 : V3.cell? ⟨V1.heap.size, 2, none⟩ = some (.int .i64 0) := cell_of_row _ _ _ _ _ _ P1.out
  have zA1 := lt_of_heap A1.out
  have zC1 := lt_of_heap C1.out
  have zP1 := lt_of_heap P1.out
  go_simp
  go_wp2_with fail
  refine (HC.out _).mono ?_
  rintro e V4 ⟨rfl, hb4⟩
  clear A1_0 A1_1 A1_2 zA1 C1_0 C1_1 C1_2 zC1 P1_0 P1_1 P1_2 zP1
  have B4 : Hid (Below w.heap.size w V4) := by first | exact Lib.hid ((B3.out).trans (hb4.mono (by have := B3.out.size; first | assumption | (simp <;> omega) | (simp; done)))) | exact Lib.hid (((B3.out).alloc (B3.out.size) _).trans (hb4.mono (by have := B3.out.size; first | assumption | (simp <;> omega) | (simp; done)))) | exact Lib.hid ((((B3.out).alloc (B3.out.size) _).alloc (by have := B3.out.size; simp <;> omega) _).trans (hb4.mono (by have := B3.out.size; first | assumption | (simp <;> omega) | (simp; done)))) | exact Lib.hid (((((B3.out).alloc (B3.out.size) _).alloc (by have := B3.out.size; simp <;> omega) _).alloc (by have := B3.out.size; simp <;> omega) _).trans (hb4.mono (by have := B3.out.size; first | assumption | (simp <;> omega) | (simp; done))))
  first | replace A1 := Lib.hid (row_call hb4 A1.out) | replace A1 := Lib.hid (row_call hb4 (row_alloc A1.out _)) | replace A1 := Lib.hid (row_call hb4 (row_alloc (row_alloc A1.out _) _)) | replace A1 := Lib.hid (row_call hb4 (row_alloc (row_alloc (row_alloc A1.out _) _) _))
  first | replace C1 := Lib.hid (row_call hb4 C1.out) | replace C1 := Lib.hid (row_call hb4 (row_alloc C1.out _)) | replace C1 := Lib.hid (row_call hb4 (row_alloc (row_alloc C1.out _) _)) | replace C1 := Lib.hid (row_call hb4 (row_alloc (row_alloc (row_alloc C1.out _) _) _))
  first | replace P1 := Lib.hid (row_call hb4 P1.out) | replace P1 := Lib.hid (row_call hb4 (row_alloc P1.out _)) | replace P1 := Lib.hid (row_call hb4 (row_alloc (row_alloc P1.out _) _)) | replace P1 := Lib.hid (row_call hb4 (row_alloc (row_alloc (row_alloc P1.out _) _) _))
  clear hb4
  have A1_0 : V4.cell? ⟨w.heap.size, 0, none⟩ = some (.int .i64 y) := cell_of_row _ _ _ _ _ _ A1.out
  have A1_1 : V4.cell? ⟨w.heap.size, 1, none⟩ = some (.int .i64 m) := cell_of_row _ _ _ _ _ _ A1.out
  have A1_2 : V4.cell? ⟨w.heap.size, 2, none⟩ = some (.int .i64 d) := cell_of_row _ _ _ _ _ _ A1.out
  have C1_0 : V4.cell? ⟨w.heap.size + 1, 0, none⟩ = some (.int .i64 Y) := cell_of_row _ _ _ _ _ _ C1.out
  have C1_1 : V4.cell? ⟨w.heap.size + 1, 1, none⟩ = some (.int .i64 M) := cell_of_row _ _ _ _ _ _ C1.out
  have C1_2 : V4.cell? ⟨w.heap.size + 1, 2, none⟩ = some (.int .i64 D) := cell_of_row _ _ _ _ _ _ C1.out
  have P1_0 : V4.cell? ⟨V1.heap.size, 0, none⟩ = some (.int .i64 0) := cell_of_row _ _ _ _ _ _ P1.out
  have P1_1 : V4.cell? ⟨V1.heap.size, 1, none⟩ = some (.int .i64 0) := cell_of_row _ _ _ _ _ _ P1.out
  have P1_2 : V4.cell? ⟨V1.heap.size, 2, none⟩ = some (.int .i64 0) := cell_of_row _ _ _ _ _ _ P1.out
  have zA1 := lt_of_heap A1.out
  have zC1 := lt_of_heap C1.out
  have zP1 := lt_of_heap P1.out
  go_simp
  go_wp2_with fail
  refine (HA.out _).mono ?_
  rintro e V5 ⟨rfl, hb5⟩
  clear A1_0 A1_1 A1_2 zA1 C1_0 C1_1 C1_2 zC1 P1_0 P1_1 P1_2 zP1
  have B5 : Hid (Below w.heap.size w V5) := by first | exact Lib.hid ((B4.out).trans (hb5.mono (by have := B4.out.size; first | assumption | (simp <;> omega) | (simp; done)))) | exact Lib.hid (((B4.out).alloc (B4.out.size) _).trans (hb5.mono (by have := B4.out.size; first | assumption | (simp <;> omega) | (simp; done)))) | exact Lib.hid ((((B4.out).alloc (B4.out.size) _).alloc (by have := B4.out.size; simp <;> omega) _).trans (hb5.mono (by have := B4.out.size; first | assumption | (simp <;> omega) | (simp; done)))) | exact Lib.hid (((((B4.out).alloc (B4.out.size) _).alloc (by have := B4.out.size; simp <;> omega) _).alloc (by have := B4.out.size; simp <;> omega) _).trans (hb5.mono (by have := B4.out.size; first | assumption | (simp <;> omega) | (simp; done))))
  first | replace A1 := Lib.hid (row_call hb5 A1.out) | replace A1 := Lib.hid (row_call hb5 (row_alloc A1.out _)) | replace A1 := Lib.hid (row_call hb5 (row_alloc (row_alloc A1.out _) _)) | replace A1 := Lib.hid (row_call hb5 (row_alloc (row_alloc (row_alloc A1.out _) _) _))
  first | replace C1 := Lib.hid (row_call hb5 C1.out) | replace C1 := Lib.hid (row_call hb5 (row_alloc C1.out _)) | replace C1 := Lib.hid (row_call hb5 (row_alloc (row_alloc C1.out _) _)) | replace C1 := Lib.hid (row_call hb5 (row_alloc (row_alloc (row_alloc C1.out _) _) _))
  first | replace P1 := Lib.hid (row_call hb5 P1.out) | replace P1 := Lib.hid (row_call hb5 (row_alloc P1.out _)) | replace P1 := Lib.hid (row_call hb5 (row_alloc (row_alloc P1.out _) _)) | replace P1 := Lib.hid (row_call hb5 (row_alloc (row_alloc (row_alloc P1.out _) _) _))
  clear hb5
  have A1_0 : V5.cell? ⟨w.heap.size, 0, none⟩ = some (.int .i64 y) := cell_of_row _ _ _ _ _ _ A1.out
  have A1_1 : V5.cell? ⟨w.heap.size, 1, none⟩ = some (.int .i64 m) := cell_of_row _ _ _ _ _ _ A1.out
  have A1_2 : V5.cell? ⟨w.heap.size, 2, none⟩ = some (.int .i64 d) := cell_of_row _ _ _ _ _ _ A1.out
  have C1_0 : V5.cell? ⟨w.heap.size + 1, 0, none⟩ = some (.int .i64 Y) := cell_of_row _ _ _ _ _ _ C1.out
  have C1_1 : V5.cell? ⟨w.heap.size + 1, 1, none⟩ = some (.int .i64 M) := cell_of_row _ _ _ _ _ _ C1.out
  have C1_2 : V5.cell? ⟨w.heap.size + 1, 2, none⟩ = some (.int .i64 D) := cell_of_row _ _ _ _ _ _ C1.out
  have P1_0 : V5.cell? ⟨V1.heap.size, 0, none⟩ = some (.int .i64 0) := cell_of_row _ _ _ _ _ _ P1.out
  have P1_1 : V5.cell? ⟨V1.heap.size, 1, none⟩ = some (.int .i64 0) := cell_of_row _ _ _ _ _ _ P1.out
  have P1_2 : V5.cell? ⟨V1.heap.size, 2, none⟩ = some (.int .i64 0) := cell_of_row _ _ _ _ _ _ P1.out
  have zA1 := lt_of_heap A1.out
  have zC1 := lt_of_heap C1.out
  have zP1 := lt_of_heap P1.out
  go_simp
  
  rcases HX.out with f1 | ⟨rfl, HY⟩
  · skip
    clear HX
    go_wp2_with fail
    refine (HK.out _ (by first | exact md_keep hM ((B5.out).alloc (B5.out.size) _))).mono ?_
    rintro e V6 ⟨rfl, hb6⟩
    clear A1_0 A1_1 A1_2 zA1 C1_0 C1_1 C1_2 zC1 P1_0 P1_1 P1_2 zP1
    have nA1N1 := Lib.hid (lt_of_heap A1.out)
    have nC1N1 := Lib.hid (lt_of_heap C1.out)
    have nP1N1 := Lib.hid (lt_of_heap P1.out)
    have B6 := Lib.hid (((B5.out).alloc (B5.out.size) _).trans (hb6.mono (by have := B5.out.size; first | assumption | (simp <;> omega) | (simp; done))))
    replace A1 := Lib.hid (row_call hb6 (row_alloc A1.out _))
    replace C1 := Lib.hid (row_call hb6 (row_alloc C1.out _))
    replace P1 := Lib.hid (row_call hb6 (row_alloc P1.out _))
    have N1 := Lib.hid (row_call hb6 (heap_alloc_new _ _))
    clear hb6
    have A1_0 : V6.cell? ⟨w.heap.size, 0, none⟩ = some (.int .i64 y) := cell_of_row _ _ _ _ _ _ A1.out
    have A1_1 : V6.cell? ⟨w.heap.size, 1, none⟩ = some (.int .i64 m) := cell_of_row _ _ _ _ _ _ A1.out
    have A1_2 : V6.cell? ⟨w.heap.size, 2, none⟩ = some (.int .i64 d) := cell_of_row _ _ _ _ _ _ A1.out
    have C1_0 : V6.cell? ⟨w.heap.size + 1, 0, none⟩ = some (.int .i64 Y) := cell_of_row _ _ _ _ _ _ C1.out
    have C1_1 : V6.cell? ⟨w.heap.size + 1, 1, none⟩ = some (.int .i64 M) := cell_of_row _ _ _ _ _ _ C1.out
    have C1_2 : V6.cell? ⟨w.heap.size + 1, 2, none⟩ = some (.int .i64 D) := cell_of_row _ _ _ _ _ _ C1.out
    have P1_0 : V6.cell? ⟨V1.heap.size, 0, none⟩ = some (.int .i64 0) := cell_of_row _ _ _ _ _ _ P1.out
    have P1_1 : V6.cell? ⟨V1.heap.size, 1, none⟩ = some (.int .i64 0) := cell_of_row _ _ _ _ _ _ P1.out
    have P1_2 : V6.cell? ⟨V1.heap.size, 2, none⟩ = some (.int .i64 0) := cell_of_row _ _ _ _ _ _ P1.out
    have N1_0 : V6.cell? ⟨V5.heap.size, 0, none⟩ = some (.int .i64 X1) := cell_of_row _ _ _ _ _ _ N1.out
    have N1_1 : V6.cell? ⟨V5.heap.size, 1, none⟩ = some (.int .i64 X2) := cell_of_row _ _ _ _ _ _ N1.out
    have N1_2 : V6.cell? ⟨V5.heap.size, 2, none⟩ = some (.int .i64 X3) := cell_of_row _ _ _ _ _ _ N1.out
    have zA1 := lt_of_heap A1.out
    have zC1 := lt_of_heap C1.out
    have zP1 := lt_of_heap P1.out
    have zN1 := lt_of_heap N1.out
    go_simp
    go_wp2
    go_ret
    exact ⟨rfl, by first | exact B6.out | exact B6.out.alloc B6.out.size _⟩
  · skip
    
    clear HX
    replace HY := Lib.hid HY
    go_wp2_with fail
    refine (HY.out _).mono ?_
    rintro e V6 ⟨rfl, hb6⟩
    clear A1_0 A1_1 A1_2 zA1 C1_0 C1_1 C1_2 zC1 P1_0 P1_1 P1_2 zP1
    have nA1N1 := Lib.hid (lt_of_heap A1.out)
    have nC1N1 := Lib.hid (lt_of_heap C1.out)
    have nP1N1 := Lib.hid (lt_of_heap P1.out)
    have B6 := Lib.hid (((B5.out).alloc (B5.out.size) _).trans (hb6.mono (by have := B5.out.size; first | assumption | (simp <;> omega) | (simp; done))))
    replace A1 := Lib.hid (row_call hb6 (row_alloc A1.out _))
    replace C1 := Lib.hid (row_call hb6 (row_alloc C1.out _))
    replace P1 := Lib.hid (row_call hb6 (row_alloc P1.out _))
    have N1 := Lib.hid (row_call hb6 (heap_alloc_new _ _))
    clear hb6
    have A1_0 : V6.cell? ⟨w.heap.size, 0, none⟩ = some (.int .i64 y) := cell_of_row _ _ _ _ _ _ A1.out
    have A1_1 : V6.cell? ⟨w.heap.size, 1, none⟩ = some (.int .i64 m) := cell_of_row _ _ _ _ _ _ A1.out
    have A1_2 : V6.cell? ⟨w.heap.size, 2, none⟩ = some (.int .i64 d) := cell_of_row _ _ _ _ _ _ A1.out
    have C1_0 : V6.cell? ⟨w.heap.size + 1, 0, none⟩ = some (.int .i64 Y) := cell_of_row _ _ _ _ _ _ C1.out
    have C1_1 : V6.cell? ⟨w.heap.size + 1, 1, none⟩ = some (.int .i64 M) := cell_of_row _ _ _ _ _ _ C1.out
    have C1_2 : V6.cell? ⟨w.heap.size + 1, 2, none⟩ = some (.int .i64 D) := cell_of_row _ _ _ _ _ _ C1.out
    have P1_0 : V6.cell? ⟨V1.heap.size, 0, none⟩ = some (.int .i64 0) := cell_of_row _ _ _ _ _ _ P1.out
    have P1_1 : V6.cell? ⟨V1.heap.size, 1, none⟩ = some (.int .i64 0) := cell_of_row _ _ _ _ _ _ P1.out
    have P1_2 : V6.cell? ⟨V1.heap.size, 2, none⟩ = some (.int .i64 0) := cell_of_row _ _ _ _ _ _ P1.out
    have N1_0 : V6.cell? ⟨V5.heap.size, 0, none⟩ = some (.int .i64 X1) := cell_of_row _ _ _ _ _ _ N1.out
    have N1_1 : V6.cell? ⟨V5.heap.size, 1, none⟩ = some (.int .i64 X2) := cell_of_row _ _ _ _ _ _ N1.out
    have N1_2 : V6.cell? ⟨V5.heap.size, 2, none⟩ = some (.int .i64 X3) := cell_of_row _ _ _ _ _ _ N1.out
    have zA1 := lt_of_heap A1.out
    have zC1 := lt_of_heap C1.out
    have zP1 := lt_of_heap P1.out
    have zN1 := lt_of_heap N1.out
    go_simp
    go_wp2_with fail
    refine (HK.out _ (by first | exact md_keep hM (B6.out) | exact md_keep hM ((B6.out).alloc (B6.out.size) _) | exact md_keep hM (((B6.out).alloc (B6.out.size) _).alloc (by have := B6.out.size; simp <;> omega) _) | exact md_keep hM ((((B6.out).alloc (B6.out.size) _).alloc (by have := B6.out.size; simp <;> omega) _).alloc (by have := B6.out.size; simp <;> omega) _))).mono ?_
    rintro e V7 ⟨rfl, hb7⟩
    clear A1_0 A1_1 A1_2 zA1 C1_0 C1_1 C1_2 zC1 P1_0 P1_1 P1_2 zP1 N1_0 N1_1 N1_2 zN1
    have B7 : Hid (Below w.heap.size w V7) := by first | exact Lib.hid ((B6.out).trans (hb7.mono (by have := B6.out.size; first | assumption | (simp <;> omega) | (simp; done)))) | exact Lib.hid (((B6.out).alloc (B6.out.size) _).trans (hb7.mono (by have := B6.out.size; first | assumption | (simp <;> omega) | (simp; done)))) | exact Lib.hid ((((B6.out).alloc (B6.out.size) _).alloc (by have := B6.out.size; simp <;> omega) _).trans (hb7.mono (by have := B6.out.size; first | assumption | (simp <;> omega) | (simp; done)))) | exact Lib.hid (((((B6.out).alloc (B6.out.size) _).alloc (by have := B6.out.size; simp <;> omega) _).alloc (by have := B6.out.size; simp <;> omega) _).trans (hb7.mono (by have := B6.out.size; first | assumption | (simp <;> omega) | (simp; done))))
    first | replace A1 := Lib.hid (row_call hb7 A1.out) | replace A1 := Lib.hid (row_call hb7 (row_alloc A1.out _)) | replace A1 := Lib.hid (row_call hb7 (row_alloc (row_alloc A1.out _) _)) | replace A1 := Lib.hid (row_call hb7 (row_alloc (row_alloc (row_alloc A1.out _) _) _))
    first | replace C1 := Lib.hid (row_call hb7 C1.out) | replace C1 := Lib.hid (row_call hb7 (row_alloc C1.out _)) | replace C1 := Lib.hid (row_call hb7 (row_alloc (row_alloc C1.out _) _)) | replace C1 := Lib.hid (row_call hb7 (row_alloc (row_alloc (row_alloc C1.out _) _) _))
    first | replace P1 := Lib.hid (row_call hb7 P1.out) | replace P1 := Lib.hid (row_call hb7 (row_alloc P1.out _)) | replace P1 := Lib.hid (row_call hb7 (row_alloc (row_alloc P1.out _) _)) | replace P1 := Lib.hid (row_call hb7 (row_alloc (row_alloc (row_alloc P1.out _) _) _))
    first | replace N1 := Lib.hid (row_call hb7 N1.out) | replace N1 := Lib.hid (row_call hb7 (row_alloc N1.out _)) | replace N1 := Lib.hid (row_call hb7 (row_alloc (row_alloc N1.out _) _)) | replace N1 := Lib.hid (row_call hb7 (row_alloc (row_alloc (row_alloc N1.out _) _) _))
    clear hb7
    have A1_0 : V7.cell? ⟨w.heap.size, 0, none⟩ = some (.int .i64 y) := cell_of_row _ _ _ _ _ _ A1.out
    have A1_1 : V7.cell? ⟨w.heap.size, 1, none⟩ = some (.int .i64 m) := cell_of_row _ _ _ _ _ _ A1.out
    have A1_2 : V7.cell? ⟨w.heap.size, 2, none⟩ = some (.int .i64 d) := cell_of_row _ _ _ _ _ _ A1.out
    have C1_0 : V7.cell? ⟨w.heap.size + 1, 0, none⟩ = some (.int .i64 Y) := cell_of_row _ _ _ _ _ _ C1.out
    have C1_1 : V7.cell? ⟨w.heap.size + 1, 1, none⟩ = some (.int .i64 M) := cell_of_row _ _ _ _ _ _ C1.out
    have C1_2 : V7.cell? ⟨w.heap.size + 1, 2, none⟩ = some (.int .i64 D) := cell_of_row _ _ _ _ _ _ C1.out
    have P1_0 : V7.cell? ⟨V1.heap.size, 0, none⟩ = some (.int .i64 0) := cell_of_row _ _ _ _ _ _ P1.out
    have P1_1 : V7.cell? ⟨V1.heap.size, 1, none⟩ = some (.int .i64 0) := cell_of_row _ _ _ _ _ _ P1.out
    have P1_2 : V7.cell? ⟨V1.heap.size, 2, none⟩ = some (.int .i64 0) := cell_of_row _ _ _ _ _ _ P1.out
    have N1_0 : V7.cell? ⟨V5.heap.size, 0, none⟩ = some (.int .i64 X1) := cell_of_row _ _ _ _ _ _ N1.out
    have N1_1 : V7.cell? ⟨V5.heap.size, 1, none⟩ = some (.int .i64 X2) := cell_of_row _ _ _ _ _ _ N1.out
    have N1_2 : V7.cell? ⟨V5.heap.size, 2, none⟩ = some (.int .i64 X3) := cell_of_row _ _ _ _ _ _ N1.out
    have zA1 := lt_of_heap A1.out
    have zC1 := lt_of_heap C1.out
    have zP1 := lt_of_heap P1.out
    have zN1 := lt_of_heap N1.out
    go_simp
    go_wp2
    go_ret
    exact ⟨rfl, by first | exact B7.out | exact B7.out.alloc B7.out.size _⟩
theorem un_next_up {y m d Y M D : Int} (ha : ckC y m d = 0) (hb : ckC Y M D = 0) (ho : ord3 y m d Y M D ≤ 0) :
    (moY y m (unN y m d Y M D + 1) < -9999 ∨ 9999 < moY y m (unN y m d Y M D + 1)) ∨ (-9999 ≤ moY y m (unN y m d Y M D + 1) ∧ moY y m (unN y m d Y M D + 1) ≤ 9999 ∧ ord3 (moY y m (unN y m d Y M D + 1)) (moM y m (unN y m d Y M D + 1)) (moD y m d (unN y m d Y M D + 1)) Y M D = 1) := by
  have h := (un_up ha hb ho).2.2.2.2.1 (unN y m d Y M D + 1) (by omega)
  by_cases hr : moY y m (unN y m d Y M D + 1) < -9999 ∨ 9999 < moY y m (unN y m d Y M D + 1)
  · exact Or.inl hr
  · refine Or.inr ⟨by omega, by omega, ord3_one.1 ?_⟩
    unfold ftB at h
    rw [decide_eq_true (by omega : -9999 ≤ moY y m (unN y m d Y M D + 1)), decide_eq_true (by omega : moY y m (unN y m d Y M D + 1) ≤ 9999), if_pos ho] at h
    simp only [Bool.true_and, decide_eq_false_iff_not] at h
    omega
theorem un_next_down {y m d Y M D : Int} (ha : ckC y m d = 0) (hb : ckC Y M D = 0) (ho : ¬ ord3 y m d Y M D ≤ 0) :
    (moY y m (unN y m d Y M D + -1) < -9999 ∨ 9999 < moY y m (unN y m d Y M D + -1)) ∨ (-9999 ≤ moY y m (unN y m d Y M D + -1) ∧ moY y m (unN y m d Y M D + -1) ≤ 9999 ∧ ord3 (moY y m (unN y m d Y M D + -1)) (moM y m (unN y m d Y M D + -1)) (moD y m d (unN y m d Y M D + -1)) Y M D = -1) := by
  have h := (un_down ha hb ho).2.2.2.2.1 (unN y m d Y M D + -1) (by omega)
  by_cases hr : moY y m (unN y m d Y M D + -1) < -9999 ∨ 9999 < moY y m (unN y m d Y M D + -1)
  · exact Or.inl hr
  · refine Or.inr ⟨by omega, by omega, ord3_one.2 ?_⟩
    unfold ftB at h
    rw [decide_eq_true (by omega : -9999 ≤ moY y m (unN y m d Y M D + -1)), decide_eq_true (by omega : moY y m (unN y m d Y M D + -1) ≤ 9999), if_neg ho] at h
    simp only [Bool.true_and, decide_eq_false_iff_not] at h
    omega
theorem add_next {y m d Y M D n by' : Int} (ha : ckC y m d = 0) (bn : in64 n)
    (h : (moY y m n < -9999 ∨ 9999 < moY y m n) ∨ (-9999 ≤ moY y m n ∧ moY y m n ≤ 9999 ∧ ord3 (moY y m n) (moM y m n) (moD y m d n) Y M D = by')) :
    ∃ X1 X2 X3 F, (∀ w, Calls Tryd.prog 14 #[.agg #[.int .i64 y, .int .i64 m, .int .i64 d], .int .i64 n, .int .i64 0] w fun e w' => e = .returned (.tuple #[.agg #[.int .i64 X1, .int .i64 X2, .int .i64 X3], .int .i64 F]) ∧ Below w.heap.size w w') ∧
      ((F != 0) = true ∨ (F = 0 ∧ ∀ w, Calls Tryd.prog 13 #[.agg #[.int .i64 X1, .int .i64 X2, .int .i64 X3], .agg #[.int .i64 Y, .int .i64 M, .int .i64 D]] w fun e w' => e = .returned (.int .i64 by') ∧ Below w.heap.size w w')) := by
  rcases h with h | ⟨h1, h2, h3⟩
  · exact ⟨_, _, _, _, rmAdd_out y m d n 0 (Or.inl rfl) ha bn h, Or.inl (by decide)⟩
  · exact ⟨_, _, _, _, rmAddC_any y m d n ha bn h1 h2, Or.inr ⟨rfl, fun w => by have := rCmp6_any (moY y m n) (moM y m n) (moD y m d n) Y M D w; rw [h3] at this; exact this⟩⟩
set_option maxHeartbeats 3200000 in
set_option maxRecDepth 100000 in
theorem untilGreedy_no (y m d Y M D : Int) (h : unE y m d Y M D ≠ 0) (w : World) (hM : MD w) : Calls Tryd.prog 5 #[.agg #[.int .i64 y, .int .i64 m, .int .i64 d], .agg #[.int .i64 Y, .int .i64 M, .int .i64 D]] w fun e w' => e = .returned (.bool true) ∧ Below w.heap.size w w' := by
  have HK := Lib.hid awake12_any
  have H1 := Lib.hid (pUntil_no y m d Y M D h)
  generalize unE y m d Y M D = E at *
  have f1 : (E != 0) = true := by rw [bne_iff_ne]; exact h
  replace hM := Lib.hid hM
  go_enter Tryd.func5, Tryd.ntmps5
  go_wp2_with fail
  
  refine (H1.out _ (by first | exact md_keep hM (((Below.refl w.heap.size w).alloc (Nat.le_refl _) _).alloc (by simp <;> omega) _))).mono ?_
  rintro e V1 ⟨rfl, hb1⟩
  have B1 := Lib.hid ((((Below.refl w.heap.size w).alloc (Nat.le_refl _) _).alloc (by simp <;> omega) _).trans (hb1.mono (by first | assumption | (simp <;> omega) | (simp; done))))
  have A1 := Lib.hid (row_call hb1 (row_alloc (heap_alloc_new _ _) _))
  have C1 := Lib.hid (row_at (k' := w.heap.size + 1) (by simp) (row_call hb1 (heap_alloc_new _ _)))
  clear hb1
  have A1_0 : V1.cell? ⟨w.heap.size, 0, none⟩ = some (.int .i64 y) := cell_of_row _ _ _ _ _ _ A1.out
  have A1_1 : V1.cell? ⟨w.heap.size, 1, none⟩ = some (.int .i64 m) := cell_of_row _ _ _ _ _ _ A1.out
  have A1_2 : V1.cell? ⟨w.heap.size, 2, none⟩ = some (.int .i64 d) := cell_of_row _ _ _ _ _ _ A1.out
  have C1_0 : V1.cell? ⟨w.heap.size + 1, 0, none⟩ = some (.int .i64 Y) := cell_of_row _ _ _ _ _ _ C1.out
  have C1_1 : V1.cell? ⟨w.heap.size + 1, 1, none⟩ = some (.int .i64 M) := cell_of_row _ _ _ _ _ _ C1.out
  have C1_2 : V1.cell? ⟨w.heap.size + 1, 2, none⟩ = some (.int .i64 D) := cell_of_row _ _ _ _ _ _ C1.out
  have zA1 := lt_of_heap A1.out
  have zC1 := lt_of_heap C1.out
  go_simp
  go_wp2_with fail
  refine (HK.out _ (by first | exact md_keep hM ((B1.out).alloc (B1.out.size) _))).mono ?_
  rintro e V2 ⟨rfl, hb2⟩
  clear A1_0 A1_1 A1_2 zA1 C1_0 C1_1 C1_2 zC1
  have nA1P1 := Lib.hid (lt_of_heap A1.out)
  have nC1P1 := Lib.hid (lt_of_heap C1.out)
  have B2 := Lib.hid (((B1.out).alloc (B1.out.size) _).trans (hb2.mono (by have := B1.out.size; first | assumption | (simp <;> omega) | (simp; done))))
  replace A1 := Lib.hid (row_call hb2 (row_alloc A1.out _))
  replace C1 := Lib.hid (row_call hb2 (row_alloc C1.out _))
  have P1 := Lib.hid (row_call hb2 (heap_alloc_new _ _))
  clear hb2
  have A1_0 : V2.cell? ⟨w.heap.size, 0, none⟩ = some (.int .i64 y) := cell_of_row _ _ _ _ _ _ A1.out
  have A1_1 : V2.cell? ⟨w.heap.size, 1, none⟩ = some (.int .i64 m) := cell_of_row _ _ _ _ _ _ A1.out
  have A1_2 : V2.cell? ⟨w.heap.size, 2, none⟩ = some (.int .i64 d) := cell_of_row _ _ _ _ _ _ A1.out
  have C1_0 : V2.cell? ⟨w.heap.size + 1, 0, none⟩ = some (.int .i64 Y) := cell_of_row _ _ _ _ _ _ C1.out
  have C1_1 : V2.cell? ⟨w.heap.size + 1, 1, none⟩ = some (.int .i64 M) := cell_of_row _ _ _ _ _ _ C1.out
  have C1_2 : V2.cell? ⟨w.heap.size + 1, 2, none⟩ = some (.int .i64 D) := cell_of_row _ _ _ _ _ _ C1.out
  have P1_0 : V2.cell? ⟨V1.heap.size, 0, none⟩ = some (.int .i64 0) := cell_of_row _ _ _ _ _ _ P1.out
  have P1_1 : V2.cell? ⟨V1.heap.size, 1, none⟩ = some (.int .i64 0) := cell_of_row _ _ _ _ _ _ P1.out
  have P1_2 : V2.cell? ⟨V1.heap.size, 2, none⟩ = some (.int .i64 0) := cell_of_row _ _ _ _ _ _ P1.out
  have zA1 := lt_of_heap A1.out
  have zC1 := lt_of_heap C1.out
  have zP1 := lt_of_heap P1.out
  go_simp
  go_wp2
  go_ret
  exact ⟨rfl, by first | exact B2.out | exact B2.out.alloc B2.out.size _⟩
theorem untilGreedy_walk (y m d Y M D : Int) (w : World) (hM : MD w) : Calls Tryd.prog 5 #[.agg #[.int .i64 y, .int .i64 m, .int .i64 d], .agg #[.int .i64 Y, .int .i64 M, .int .i64 D]] w fun e w' => e = .returned (.bool true) ∧ Below w.heap.size w w' := by
  by_cases h : unE y m d Y M D = 0
  · obtain ⟨ha, hb⟩ := unE_zero h
    obtain ⟨n1, n2, n3, n4⟩ := unN_bd ha hb
    obtain ⟨g1, g2⟩ := un_days ha hb
    have k := Int.tmod_add_mul_tdiv (unN y m d Y M D) 12
    have k1 := Int.lt_tmod_of_pos (unN y m d Y M D) (show (0 : Int) < 12 by decide)
    have k2 := Int.tmod_lt_of_pos (unN y m d Y M D) (show (0 : Int) < 12 by decide)
    have X1 := pUntil_any y m d Y M D h
    have XC := rCmp6_any y m d Y M D
    by_cases h0 : ord3 y m d Y M D = 0
    · obtain ⟨z1, z2⟩ := un_zero ha hb h0
      obtain ⟨A1, A2, A3, F, XA, XX⟩ := add_next ha (by unfold in64; omega) (un_next_up ha hb (by omega))
      rw [z1] at XA
      rw [z1, z2] at X1
      rw [h0] at XC
      exact gr_z y m d Y M D 0 0 0 A1 A2 A3 F (by decide) (by decide) (by decide) (by decide) (Lib.hid X1) (Lib.hid XC) (Lib.hid XA) XX w hM
    · by_cases ho : ord3 y m d Y M D ≤ 0
      · rw [ord3_one.2 (by omega)] at XC
        obtain ⟨u1, _⟩ := un_up ha hb ho
        obtain ⟨A1, A2, A3, F, XA, XX⟩ := add_next ha (by unfold in64; omega) (un_next_up ha hb ho)
        have t0 : 0 ≤ (unN y m d Y M D).tdiv 12 := Int.tdiv_nonneg u1 (by decide)
        have t1 : 0 ≤ (unN y m d Y M D).tmod 12 := Int.tmod_nonneg 12 u1
        have t2 := g1 ho
        clear g1 g2 n3 n4
        rw [show unN y m d Y M D + 1 = 12 * (unN y m d Y M D).tdiv 12 + (unN y m d Y M D).tmod 12 + 1 by omega] at XA
        clear h ha hb ho h0 u1
        generalize unN y m d Y M D = N at *
        generalize unD y m d Y M D = r at *
        generalize N.tdiv 12 = p at *
        generalize N.tmod 12 = q at *
        by_cases c1 : 0 < p
        · exact gr_u0 y m d Y M D p q r A1 A2 A3 F (by omega) (by omega) k1 k2 c1 t1 t2.1 (Lib.hid X1) (Lib.hid XC) (Lib.hid XA) XX w hM
        · obtain rfl : p = 0 := by omega
          rw [show 12 * (0 : Int) + q + 1 = q + 1 by omega] at XA
          by_cases c2 : 0 < q
          · exact gr_u1 y m d Y M D 0 q r A1 A2 A3 F (by decide) (by decide) k1 k2 c2 t2.1 (Lib.hid X1) (Lib.hid XC) (Lib.hid XA) XX w hM
          · obtain rfl : q = 0 := by omega
            by_cases c3 : 0 < r
            · exact gr_u2 y m d Y M D 0 0 r A1 A2 A3 F (by decide) (by decide) (by decide) (by decide) c3 (Lib.hid X1) (Lib.hid XC) (Lib.hid XA) XX w hM
            · obtain rfl : r = 0 := by omega
              exact gr_u3 y m d Y M D 0 0 0 A1 A2 A3 F (by decide) (by decide) (by decide) (by decide) (Lib.hid X1) (Lib.hid XC) (Lib.hid XA) XX w hM
      · rw [ord3_one.1 (by omega)] at XC
        obtain ⟨u1, _⟩ := un_down ha hb ho
        obtain ⟨A1, A2, A3, F, XA, XX⟩ := add_next ha (by unfold in64; omega) (un_next_down ha hb ho)
        have t0 : (unN y m d Y M D).tdiv 12 ≤ 0 := by have := Int.tdiv_nonneg (show 0 ≤ -unN y m d Y M D by omega) (show (0 : Int) ≤ 12 by decide); rw [Int.neg_tdiv] at this; omega
        have t1 : (unN y m d Y M D).tmod 12 ≤ 0 := by have := Int.tmod_nonneg 12 (show 0 ≤ -unN y m d Y M D by omega); rw [Int.neg_tmod] at this; omega
        have t2 := g2 ho
        clear g1 g2 n3 n4
        rw [show unN y m d Y M D + -1 = 12 * (unN y m d Y M D).tdiv 12 + (unN y m d Y M D).tmod 12 + -1 by omega] at XA
        clear h ha hb ho h0 u1
        generalize unN y m d Y M D = N at *
        generalize unD y m d Y M D = r at *
        generalize N.tdiv 12 = p at *
        generalize N.tmod 12 = q at *
        by_cases c1 : p < 0
        · exact gr_d0 y m d Y M D p q r A1 A2 A3 F (by omega) (by omega) k1 k2 c1 t1 t2.2 (Lib.hid X1) (Lib.hid XC) (Lib.hid XA) XX w hM
        · obtain rfl : p = 0 := by omega
          rw [show 12 * (0 : Int) + q + -1 = q + -1 by omega] at XA
          by_cases c2 : q < 0
          · exact gr_d1 y m d Y M D 0 q r A1 A2 A3 F (by decide) (by decide) k1 k2 c2 t2.2 (Lib.hid X1) (Lib.hid XC) (Lib.hid XA) XX w hM
          · obtain rfl : q = 0 := by omega
            by_cases c3 : r < 0
            · exact gr_d2 y m d Y M D 0 0 r A1 A2 A3 F (by decide) (by decide) (by decide) (by decide) c3 (Lib.hid X1) (Lib.hid XC) (Lib.hid XA) XX w hM
            · obtain rfl : r = 0 := by omega
              exact gr_d3 y m d Y M D 0 0 0 A1 A2 A3 F (by decide) (by decide) (by decide) (by decide) (Lib.hid X1) (Lib.hid XC) (Lib.hid XA) XX w hM
  · exact untilGreedy_no y m d Y M D h w hM
end Go.Proofs.YtoopbgpoelpjfaaDoor
