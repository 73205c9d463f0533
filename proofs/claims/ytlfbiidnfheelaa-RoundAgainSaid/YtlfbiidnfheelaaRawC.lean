/- The walk of RoundAgain: what was rounded is not changed by rounding again. -/
import Derived.Test.YtlfbiidnfheelaaRawB
namespace Go.Proofs.Ytlfbiidnfheelaa
set_option linter.unusedVariables false
set_option linter.unusedSimpArgs false
open Go.ChangeShapes Go.WideShapes Go.ChangeAt Go.RowKit

set_option maxHeartbeats 6400000 in
set_option maxRecDepth 100000 in
theorem again_bad (xh xl yh yl vh vl lh ll gh gl : Nat) (m0 m1 c1 c2 E F G : Int) (w : World) (f1 : (E != 0) = true)
    (H1 : Hid (∀ w, Calls Try.prog 8 #[.agg #[.int .u64 xh, .int .u64 xl], .agg #[.int .u64 yh, .int .u64 yl], .int .i64 m0] w fun e w' => e = .returned (.tuple #[.agg #[.int .u64 vh, .int .u64 vl], .int .i64 E]) ∧ Below w.heap.size w w'))
    (H2 : Hid (∀ w, Calls Try.prog 8 #[.agg #[.int .u64 xh, .int .u64 xl], .agg #[.int .u64 yh, .int .u64 yl], .int .i64 0] w fun e w' => e = .returned (.tuple #[.agg #[.int .u64 lh, .int .u64 ll], .int .i64 F]) ∧ Below w.heap.size w w'))
    (H3 : Hid (∀ w, Calls Try.prog 8 #[.agg #[.int .u64 xh, .int .u64 xl], .agg #[.int .u64 yh, .int .u64 yl], .int .i64 1] w fun e w' => e = .returned (.tuple #[.agg #[.int .u64 gh, .int .u64 gl], .int .i64 G]) ∧ Below w.heap.size w w'))
    (HK : Hid (∀ w, Calls Try.prog 10 #[] w fun e w' => e = .returned (.bool true) ∧ Below w.heap.size w w'))
    : Calls Try.prog 6 #[.agg #[.int .u64 xh, .int .u64 xl], .agg #[.int .u64 yh, .int .u64 yl], .agg #[.int .i64 m0, .int .i64 m1]] w fun e w' => e = .returned (.bool true) ∧ Below w.heap.size w w' := by
  go_enter Try.func6, Try.ntmps6
  go_wp2_with fail
  
  refine (H1.out _).mono ?_
  rintro e V1 ⟨rfl, hb1⟩
  have B1 := Lib.hid (((((Below.refl w.heap.size w).alloc (Nat.le_refl _) _).alloc (by simp <;> omega) _).alloc (by simp <;> omega) _).trans (hb1.mono (by first | assumption | (simp <;> omega) | (simp; done))))
  have X1 := Lib.hid (row_call hb1 (row_alloc (row_alloc (heap_alloc_new _ _) _) _))
  have U1 := Lib.hid (row_at (k' := w.heap.size + 1) (by simp) (row_call hb1 (row_alloc (heap_alloc_new _ _) _)))
  have M1 := Lib.hid (row_at (k' := w.heap.size + 1 + 1) (by simp) (row_call hb1 (heap_alloc_new _ _)))
  clear hb1
  have X1_0 : V1.cell? ⟨w.heap.size, 0, none⟩ = some (.int .u64 xh) := cell_of_row _ _ _ _ _ _ X1.out
  have X1_1 : V1.cell? ⟨w.heap.size, 1, none⟩ = some (.int .u64 xl) := cell_of_row _ _ _ _ _ _ X1.out
  have U1_0 : V1.cell? ⟨w.heap.size + 1, 0, none⟩ = some (.int .u64 yh) := cell_of_row _ _ _ _ _ _ U1.out
  have U1_1 : V1.cell? ⟨w.heap.size + 1, 1, none⟩ = some (.int .u64 yl) := cell_of_row _ _ _ _ _ _ U1.out
  have M1_0 : V1.cell? ⟨w.heap.size + 1 + 1, 0, none⟩ = some (.int .i64 m0) := cell_of_row _ _ _ _ _ _ M1.out
  have M1_1 : V1.cell? ⟨w.heap.size + 1 + 1, 1, none⟩ = some (.int .i64 m1) := cell_of_row _ _ _ _ _ _ M1.out
  have zX1 := lt_of_heap X1.out
  have zU1 := lt_of_heap U1.out
  have zM1 := lt_of_heap M1.out
  go_simp
  go_wp2_with fail
  refine (H2.out _).mono ?_
  rintro e V2 ⟨rfl, hb2⟩
  clear X1_0 X1_1 zX1 U1_0 U1_1 zU1 M1_0 M1_1 zM1
  have nX1I1 := Lib.hid (lt_of_heap X1.out)
  have nU1I1 := Lib.hid (lt_of_heap U1.out)
  have nM1I1 := Lib.hid (lt_of_heap M1.out)
  have B2 := Lib.hid (((B1.out).alloc (B1.out.size) _).trans (hb2.mono (by have := B1.out.size; first | assumption | (simp <;> omega) | (simp; done))))
  replace X1 := Lib.hid (row_call hb2 (row_alloc X1.out _))
  replace U1 := Lib.hid (row_call hb2 (row_alloc U1.out _))
  replace M1 := Lib.hid (row_call hb2 (row_alloc M1.out _))
  have I1 := Lib.hid (row_call hb2 (heap_alloc_new _ _))
  clear hb2
  have X1_0 : V2.cell? ⟨w.heap.size, 0, none⟩ = some (.int .u64 xh) := cell_of_row _ _ _ _ _ _ X1.out
  have X1_1 : V2.cell? ⟨w.heap.size, 1, none⟩ = some (.int .u64 xl) := cell_of_row _ _ _ _ _ _ X1.out
  have U1_0 : V2.cell? ⟨w.heap.size + 1, 0, none⟩ = some (.int .u64 yh) := cell_of_row _ _ _ _ _ _ U1.out
  have U1_1 : V2.cell? ⟨w.heap.size + 1, 1, none⟩ = some (.int .u64 yl) := cell_of_row _ _ _ _ _ _ U1.out
  have M1_0 : V2.cell? ⟨w.heap.size + 1 + 1, 0, none⟩ = some (.int .i64 m0) := cell_of_row _ _ _ _ _ _ M1.out
  have M1_1 : V2.cell? ⟨w.heap.size + 1 + 1, 1, none⟩ = some (.int .i64 m1) := cell_of_row _ _ _ _ _ _ M1.out
  have I1_0 : V2.cell? ⟨V1.heap.size, 0, none⟩ = some (.int .u64 vh) := cell_of_row _ _ _ _ _ _ I1.out
  have I1_1 : V2.cell? ⟨V1.heap.size, 1, none⟩ = some (.int .u64 vl) := cell_of_row _ _ _ _ _ _ I1.out
  have zX1 := lt_of_heap X1.out
  have zU1 := lt_of_heap U1.out
  have zM1 := lt_of_heap M1.out
  have zI1 := lt_of_heap I1.out
  go_simp
  go_wp2_with fail
  refine (H3.out _).mono ?_
  rintro e V3 ⟨rfl, hb3⟩
  clear X1_0 X1_1 zX1 U1_0 U1_1 zU1 M1_0 M1_1 zM1 I1_0 I1_1 zI1
  have nX1L1 := Lib.hid (lt_of_heap X1.out)
  have nU1L1 := Lib.hid (lt_of_heap U1.out)
  have nM1L1 := Lib.hid (lt_of_heap M1.out)
  have nI1L1 := Lib.hid (lt_of_heap I1.out)
  have B3 := Lib.hid (((B2.out).alloc (B2.out.size) _).trans (hb3.mono (by have := B2.out.size; first | assumption | (simp <;> omega) | (simp; done))))
  replace X1 := Lib.hid (row_call hb3 (row_alloc X1.out _))
  replace U1 := Lib.hid (row_call hb3 (row_alloc U1.out _))
  replace M1 := Lib.hid (row_call hb3 (row_alloc M1.out _))
  replace I1 := Lib.hid (row_call hb3 (row_alloc I1.out _))
  have L1 := Lib.hid (row_call hb3 (heap_alloc_new _ _))
  clear hb3
  have X1_0 : V3.cell? ⟨w.heap.size, 0, none⟩ = some (.int .u64 xh) := cell_of_row _ _ _ _ _ _ X1.out
  have X1_1 : V3.cell? ⟨w.heap.size, 1, none⟩ = some (.int .u64 xl) := cell_of_row _ _ _ _ _ _ X1.out
  have U1_0 : V3.cell? ⟨w.heap.size + 1, 0, none⟩ = some (.int .u64 yh) := cell_of_row _ _ _ _ _ _ U1.out
  have U1_1 : V3.cell? ⟨w.heap.size + 1, 1, none⟩ = some (.int .u64 yl) := cell_of_row _ _ _ _ _ _ U1.out
  have M1_0 : V3.cell? ⟨w.heap.size + 1 + 1, 0, none⟩ = some (.int .i64 m0) := cell_of_row _ _ _ _ _ _ M1.out
  have M1_1 : V3.cell? ⟨w.heap.size + 1 + 1, 1, none⟩ = some (.int .i64 m1) := cell_of_row _ _ _ _ _ _ M1.out
  have I1_0 : V3.cell? ⟨V1.heap.size, 0, none⟩ = some (.int .u64 vh) := cell_of_row _ _ _ _ _ _ I1.out
  have I1_1 : V3.cell? ⟨V1.heap.size, 1, none⟩ = some (.int .u64 vl) := cell_of_row _ _ _ _ _ _ I1.out
  have L1_0 : V3.cell? ⟨V2.heap.size, 0, none⟩ = some (.int .u64 lh) := cell_of_row _ _ _ _ _ _ L1.out
  have L1_1 : V3.cell? ⟨V2.heap.size, 1, none⟩ = some (.int .u64 ll) := cell_of_row _ _ _ _ _ _ L1.out
  have zX1 := lt_of_heap X1.out
  have zU1 := lt_of_heap U1.out
  have zM1 := lt_of_heap M1.out
  have zI1 := lt_of_heap I1.out
  have zL1 := lt_of_heap L1.out
  go_simp
  go_wp2_with fail
  refine (HK.out _).mono ?_
  rintro e V4 ⟨rfl, hb4⟩
  clear X1_0 X1_1 zX1 U1_0 U1_1 zU1 M1_0 M1_1 zM1 I1_0 I1_1 zI1 L1_0 L1_1 zL1
  have nX1G1 := Lib.hid (lt_of_heap X1.out)
  have nU1G1 := Lib.hid (lt_of_heap U1.out)
  have nM1G1 := Lib.hid (lt_of_heap M1.out)
  have nI1G1 := Lib.hid (lt_of_heap I1.out)
  have nL1G1 := Lib.hid (lt_of_heap L1.out)
  have B4 := Lib.hid (((B3.out).alloc (B3.out.size) _).trans (hb4.mono (by have := B3.out.size; first | assumption | (simp <;> omega) | (simp; done))))
  replace X1 := Lib.hid (row_call hb4 (row_alloc X1.out _))
  replace U1 := Lib.hid (row_call hb4 (row_alloc U1.out _))
  replace M1 := Lib.hid (row_call hb4 (row_alloc M1.out _))
  replace I1 := Lib.hid (row_call hb4 (row_alloc I1.out _))
  replace L1 := Lib.hid (row_call hb4 (row_alloc L1.out _))
  have G1 := Lib.hid (row_call hb4 (heap_alloc_new _ _))
  clear hb4
  have X1_0 : V4.cell? ⟨w.heap.size, 0, none⟩ = some (.int .u64 xh) := cell_of_row _ _ _ _ _ _ X1.out
  have X1_1 : V4.cell? ⟨w.heap.size, 1, none⟩ = some (.int .u64 xl) := cell_of_row _ _ _ _ _ _ X1.out
  have U1_0 : V4.cell? ⟨w.heap.size + 1, 0, none⟩ = some (.int .u64 yh) := cell_of_row _ _ _ _ _ _ U1.out
  have U1_1 : V4.cell? ⟨w.heap.size + 1, 1, none⟩ = some (.int .u64 yl) := cell_of_row _ _ _ _ _ _ U1.out
  have M1_0 : V4.cell? ⟨w.heap.size + 1 + 1, 0, none⟩ = some (.int .i64 m0) := cell_of_row _ _ _ _ _ _ M1.out
  have M1_1 : V4.cell? ⟨w.heap.size + 1 + 1, 1, none⟩ = some (.int .i64 m1) := cell_of_row _ _ _ _ _ _ M1.out
  have I1_0 : V4.cell? ⟨V1.heap.size, 0, none⟩ = some (.int .u64 vh) := cell_of_row _ _ _ _ _ _ I1.out
  have I1_1 : V4.cell? ⟨V1.heap.size, 1, none⟩ = some (.int .u64 vl) := cell_of_row _ _ _ _ _ _ I1.out
  have L1_0 : V4.cell? ⟨V2.heap.size, 0, none⟩ = some (.int .u64 lh) := cell_of_row _ _ _ _ _ _ L1.out
  have L1_1 : V4.cell? ⟨V2.heap.size, 1, none⟩ = some (.int .u64 ll) := cell_of_row _ _ _ _ _ _ L1.out
  have G1_0 : V4.cell? ⟨V3.heap.size, 0, none⟩ = some (.int .u64 gh) := cell_of_row _ _ _ _ _ _ G1.out
  have G1_1 : V4.cell? ⟨V3.heap.size, 1, none⟩ = some (.int .u64 gl) := cell_of_row _ _ _ _ _ _ G1.out
  have zX1 := lt_of_heap X1.out
  have zU1 := lt_of_heap U1.out
  have zM1 := lt_of_heap M1.out
  have zI1 := lt_of_heap I1.out
  have zL1 := lt_of_heap L1.out
  have zG1 := lt_of_heap G1.out
  go_simp
  go_wp2
  go_ret
  exact ⟨rfl, by first | exact B4.out | exact B4.out.alloc B4.out.size _⟩
set_option maxHeartbeats 6400000 in
set_option maxRecDepth 100000 in
theorem again_a5 (xh xl yh yl vh vl gh gl : Nat) (m0 m1 c1 c2 E F G : Int) (w : World) (g1 : decide (0 < c1) = false) (g2 : decide (c2 < 0) = false) 
    (H1 : Hid (∀ w, Calls Try.prog 8 #[.agg #[.int .u64 xh, .int .u64 xl], .agg #[.int .u64 yh, .int .u64 yl], .int .i64 m0] w fun e w' => e = .returned (.tuple #[.agg #[.int .u64 vh, .int .u64 vl], .int .i64 0]) ∧ Below w.heap.size w w'))
    (H2 : Hid (∀ w, Calls Try.prog 8 #[.agg #[.int .u64 xh, .int .u64 xl], .agg #[.int .u64 yh, .int .u64 yl], .int .i64 0] w fun e w' => e = .returned (.tuple #[.agg #[.int .u64 vh, .int .u64 vl], .int .i64 0]) ∧ Below w.heap.size w w'))
    (H3 : Hid (∀ w, Calls Try.prog 8 #[.agg #[.int .u64 xh, .int .u64 xl], .agg #[.int .u64 yh, .int .u64 yl], .int .i64 1] w fun e w' => e = .returned (.tuple #[.agg #[.int .u64 gh, .int .u64 gl], .int .i64 0]) ∧ Below w.heap.size w w'))
    (H4 : Hid (∀ w, Calls Try.prog 15 #[.agg #[.int .u64 vh, .int .u64 vl], .agg #[.int .u64 xh, .int .u64 xl]] w fun e w' => e = .returned (.int .i64 c1) ∧ Below w.heap.size w w'))
    (H5 : Hid (∀ w, Calls Try.prog 15 #[.agg #[.int .u64 gh, .int .u64 gl], .agg #[.int .u64 xh, .int .u64 xl]] w fun e w' => e = .returned (.int .i64 c2) ∧ Below w.heap.size w w'))
    (H7 : Hid (∀ w, Calls Try.prog 8 #[.agg #[.int .u64 vh, .int .u64 vl], .agg #[.int .u64 yh, .int .u64 yl], .int .i64 m1] w fun e w' => e = .returned (.tuple #[.agg #[.int .u64 0, .int .u64 0], .int .i64 5]) ∧ Below w.heap.size w w'))
    (H8 : Hid (∀ w, Calls Try.prog 9 #[.agg #[.int .u64 vh, .int .u64 vl], .agg #[.int .u64 yh, .int .u64 yl], .int .i64 m1] w fun e w' => e = .returned (.tuple #[.agg #[.int .u64 0, .int .u64 0], .int .i64 5]) ∧ Below w.heap.size w w'))
    (HK : Hid (∀ w, Calls Try.prog 10 #[] w fun e w' => e = .returned (.bool true) ∧ Below w.heap.size w w'))
    : Calls Try.prog 6 #[.agg #[.int .u64 xh, .int .u64 xl], .agg #[.int .u64 yh, .int .u64 yl], .agg #[.int .i64 m0, .int .i64 m1]] w fun e w' => e = .returned (.bool true) ∧ Below w.heap.size w w' := by
  go_enter Try.func6, Try.ntmps6
  go_wp2_with fail
  
  refine (H1.out _).mono ?_
  rintro e V1 ⟨rfl, hb1⟩
  have B1 := Lib.hid (((((Below.refl w.heap.size w).alloc (Nat.le_refl _) _).alloc (by simp <;> omega) _).alloc (by simp <;> omega) _).trans (hb1.mono (by first | assumption | (simp <;> omega) | (simp; done))))
  have X1 := Lib.hid (row_call hb1 (row_alloc (row_alloc (heap_alloc_new _ _) _) _))
  have U1 := Lib.hid (row_at (k' := w.heap.size + 1) (by simp) (row_call hb1 (row_alloc (heap_alloc_new _ _) _)))
  have M1 := Lib.hid (row_at (k' := w.heap.size + 1 + 1) (by simp) (row_call hb1 (heap_alloc_new _ _)))
  clear hb1
  have X1_0 : V1.cell? ⟨w.heap.size, 0, none⟩ = some (.int .u64 xh) := cell_of_row _ _ _ _ _ _ X1.out
  have X1_1 : V1.cell? ⟨w.heap.size, 1, none⟩ = some (.int .u64 xl) := cell_of_row _ _ _ _ _ _ X1.out
  have U1_0 : V1.cell? ⟨w.heap.size + 1, 0, none⟩ = some (.int .u64 yh) := cell_of_row _ _ _ _ _ _ U1.out
  have U1_1 : V1.cell? ⟨w.heap.size + 1, 1, none⟩ = some (.int .u64 yl) := cell_of_row _ _ _ _ _ _ U1.out
  have M1_0 : V1.cell? ⟨w.heap.size + 1 + 1, 0, none⟩ = some (.int .i64 m0) := cell_of_row _ _ _ _ _ _ M1.out
  have M1_1 : V1.cell? ⟨w.heap.size + 1 + 1, 1, none⟩ = some (.int .i64 m1) := cell_of_row _ _ _ _ _ _ M1.out
  have zX1 := lt_of_heap X1.out
  have zU1 := lt_of_heap U1.out
  have zM1 := lt_of_heap M1.out
  go_simp
  go_wp2_with fail
  refine (H2.out _).mono ?_
  rintro e V2 ⟨rfl, hb2⟩
  clear X1_0 X1_1 zX1 U1_0 U1_1 zU1 M1_0 M1_1 zM1
  have nX1I1 := Lib.hid (lt_of_heap X1.out)
  have nU1I1 := Lib.hid (lt_of_heap U1.out)
  have nM1I1 := Lib.hid (lt_of_heap M1.out)
  have B2 := Lib.hid (((B1.out).alloc (B1.out.size) _).trans (hb2.mono (by have := B1.out.size; first | assumption | (simp <;> omega) | (simp; done))))
  replace X1 := Lib.hid (row_call hb2 (row_alloc X1.out _))
  replace U1 := Lib.hid (row_call hb2 (row_alloc U1.out _))
  replace M1 := Lib.hid (row_call hb2 (row_alloc M1.out _))
  have I1 := Lib.hid (row_call hb2 (heap_alloc_new _ _))
  clear hb2
  have X1_0 : V2.cell? ⟨w.heap.size, 0, none⟩ = some (.int .u64 xh) := cell_of_row _ _ _ _ _ _ X1.out
  have X1_1 : V2.cell? ⟨w.heap.size, 1, none⟩ = some (.int .u64 xl) := cell_of_row _ _ _ _ _ _ X1.out
  have U1_0 : V2.cell? ⟨w.heap.size + 1, 0, none⟩ = some (.int .u64 yh) := cell_of_row _ _ _ _ _ _ U1.out
  have U1_1 : V2.cell? ⟨w.heap.size + 1, 1, none⟩ = some (.int .u64 yl) := cell_of_row _ _ _ _ _ _ U1.out
  have M1_0 : V2.cell? ⟨w.heap.size + 1 + 1, 0, none⟩ = some (.int .i64 m0) := cell_of_row _ _ _ _ _ _ M1.out
  have M1_1 : V2.cell? ⟨w.heap.size + 1 + 1, 1, none⟩ = some (.int .i64 m1) := cell_of_row _ _ _ _ _ _ M1.out
  have I1_0 : V2.cell? ⟨V1.heap.size, 0, none⟩ = some (.int .u64 vh) := cell_of_row _ _ _ _ _ _ I1.out
  have I1_1 : V2.cell? ⟨V1.heap.size, 1, none⟩ = some (.int .u64 vl) := cell_of_row _ _ _ _ _ _ I1.out
  have zX1 := lt_of_heap X1.out
  have zU1 := lt_of_heap U1.out
  have zM1 := lt_of_heap M1.out
  have zI1 := lt_of_heap I1.out
  go_simp
  go_wp2_with fail
  refine (H3.out _).mono ?_
  rintro e V3 ⟨rfl, hb3⟩
  clear X1_0 X1_1 zX1 U1_0 U1_1 zU1 M1_0 M1_1 zM1 I1_0 I1_1 zI1
  have nX1L1 := Lib.hid (lt_of_heap X1.out)
  have nU1L1 := Lib.hid (lt_of_heap U1.out)
  have nM1L1 := Lib.hid (lt_of_heap M1.out)
  have nI1L1 := Lib.hid (lt_of_heap I1.out)
  have B3 := Lib.hid (((B2.out).alloc (B2.out.size) _).trans (hb3.mono (by have := B2.out.size; first | assumption | (simp <;> omega) | (simp; done))))
  replace X1 := Lib.hid (row_call hb3 (row_alloc X1.out _))
  replace U1 := Lib.hid (row_call hb3 (row_alloc U1.out _))
  replace M1 := Lib.hid (row_call hb3 (row_alloc M1.out _))
  replace I1 := Lib.hid (row_call hb3 (row_alloc I1.out _))
  have L1 := Lib.hid (row_call hb3 (heap_alloc_new _ _))
  clear hb3
  have X1_0 : V3.cell? ⟨w.heap.size, 0, none⟩ = some (.int .u64 xh) := cell_of_row _ _ _ _ _ _ X1.out
  have X1_1 : V3.cell? ⟨w.heap.size, 1, none⟩ = some (.int .u64 xl) := cell_of_row _ _ _ _ _ _ X1.out
  have U1_0 : V3.cell? ⟨w.heap.size + 1, 0, none⟩ = some (.int .u64 yh) := cell_of_row _ _ _ _ _ _ U1.out
  have U1_1 : V3.cell? ⟨w.heap.size + 1, 1, none⟩ = some (.int .u64 yl) := cell_of_row _ _ _ _ _ _ U1.out
  have M1_0 : V3.cell? ⟨w.heap.size + 1 + 1, 0, none⟩ = some (.int .i64 m0) := cell_of_row _ _ _ _ _ _ M1.out
  have M1_1 : V3.cell? ⟨w.heap.size + 1 + 1, 1, none⟩ = some (.int .i64 m1) := cell_of_row _ _ _ _ _ _ M1.out
  have I1_0 : V3.cell? ⟨V1.heap.size, 0, none⟩ = some (.int .u64 vh) := cell_of_row _ _ _ _ _ _ I1.out
  have I1_1 : V3.cell? ⟨V1.heap.size, 1, none⟩ = some (.int .u64 vl) := cell_of_row _ _ _ _ _ _ I1.out
  have L1_0 : V3.cell? ⟨V2.heap.size, 0, none⟩ = some (.int .u64 vh) := cell_of_row _ _ _ _ _ _ L1.out
  have L1_1 : V3.cell? ⟨V2.heap.size, 1, none⟩ = some (.int .u64 vl) := cell_of_row _ _ _ _ _ _ L1.out
  have zX1 := lt_of_heap X1.out
  have zU1 := lt_of_heap U1.out
  have zM1 := lt_of_heap M1.out
  have zI1 := lt_of_heap I1.out
  have zL1 := lt_of_heap L1.out
  go_simp
  go_wp2_with fail
  refine (H4.out _).mono ?_
  rintro e V4 ⟨rfl, hb4⟩
  clear X1_0 X1_1 zX1 U1_0 U1_1 zU1 M1_0 M1_1 zM1 I1_0 I1_1 zI1 L1_0 L1_1 zL1
  have nX1G1 := Lib.hid (lt_of_heap X1.out)
  have nU1G1 := Lib.hid (lt_of_heap U1.out)
  have nM1G1 := Lib.hid (lt_of_heap M1.out)
  have nI1G1 := Lib.hid (lt_of_heap I1.out)
  have nL1G1 := Lib.hid (lt_of_heap L1.out)
  have B4 := Lib.hid (((B3.out).alloc (B3.out.size) _).trans (hb4.mono (by have := B3.out.size; first | assumption | (simp <;> omega) | (simp; done))))
  replace X1 := Lib.hid (row_call hb4 (row_alloc X1.out _))
  replace U1 := Lib.hid (row_call hb4 (row_alloc U1.out _))
  replace M1 := Lib.hid (row_call hb4 (row_alloc M1.out _))
  replace I1 := Lib.hid (row_call hb4 (row_alloc I1.out _))
  replace L1 := Lib.hid (row_call hb4 (row_alloc L1.out _))
  have G1 := Lib.hid (row_call hb4 (heap_alloc_new _ _))
  clear hb4
  have X1_0 : V4.cell? ⟨w.heap.size, 0, none⟩ = some (.int .u64 xh) := cell_of_row _ _ _ _ _ _ X1.out
  have X1_1 : V4.cell? ⟨w.heap.size, 1, none⟩ = some (.int .u64 xl) := cell_of_row _ _ _ _ _ _ X1.out
  have U1_0 : V4.cell? ⟨w.heap.size + 1, 0, none⟩ = some (.int .u64 yh) := cell_of_row _ _ _ _ _ _ U1.out
  have U1_1 : V4.cell? ⟨w.heap.size + 1, 1, none⟩ = some (.int .u64 yl) := cell_of_row _ _ _ _ _ _ U1.out
  have M1_0 : V4.cell? ⟨w.heap.size + 1 + 1, 0, none⟩ = some (.int .i64 m0) := cell_of_row _ _ _ _ _ _ M1.out
  have M1_1 : V4.cell? ⟨w.heap.size + 1 + 1, 1, none⟩ = some (.int .i64 m1) := cell_of_row _ _ _ _ _ _ M1.out
  have I1_0 : V4.cell? ⟨V1.heap.size, 0, none⟩ = some (.int .u64 vh) := cell_of_row _ _ _ _ _ _ I1.out
  have I1_1 : V4.cell? ⟨V1.heap.size, 1, none⟩ = some (.int .u64 vl) := cell_of_row _ _ _ _ _ _ I1.out
  have L1_0 : V4.cell? ⟨V2.heap.size, 0, none⟩ = some (.int .u64 vh) := cell_of_row _ _ _ _ _ _ L1.out
  have L1_1 : V4.cell? ⟨V2.heap.size, 1, none⟩ = some (.int .u64 vl) := cell_of_row _ _ _ _ _ _ L1.out
  have G1_0 : V4.cell? ⟨V3.heap.size, 0, none⟩ = some (.int .u64 gh) := cell_of_row _ _ _ _ _ _ G1.out
  have G1_1 : V4.cell? ⟨V3.heap.size, 1, none⟩ = some (.int .u64 gl) := cell_of_row _ _ _ _ _ _ G1.out
  have zX1 := lt_of_heap X1.out
  have zU1 := lt_of_heap U1.out
  have zM1 := lt_of_heap M1.out
  have zI1 := lt_of_heap I1.out
  have zL1 := lt_of_heap L1.out
  have zG1 := lt_of_heap G1.out
  go_simp
  go_wp2_with fail
  refine (H5.out _).mono ?_
  rintro e V5 ⟨rfl, hb5⟩
  clear X1_0 X1_1 zX1 U1_0 U1_1 zU1 M1_0 M1_1 zM1 I1_0 I1_1 zI1 L1_0 L1_1 zL1 G1_0 G1_1 zG1
  have B5 : Hid (Below w.heap.size w V5) := by first | exact Lib.hid ((B4.out).trans (hb5.mono (by have := B4.out.size; first | assumption | (simp <;> omega) | (simp; done)))) | exact Lib.hid (((B4.out).alloc (B4.out.size) _).trans (hb5.mono (by have := B4.out.size; first | assumption | (simp <;> omega) | (simp; done)))) | exact Lib.hid ((((B4.out).alloc (B4.out.size) _).alloc (by have := B4.out.size; simp <;> omega) _).trans (hb5.mono (by have := B4.out.size; first | assumption | (simp <;> omega) | (simp; done)))) | exact Lib.hid (((((B4.out).alloc (B4.out.size) _).alloc (by have := B4.out.size; simp <;> omega) _).alloc (by have := B4.out.size; simp <;> omega) _).trans (hb5.mono (by have := B4.out.size; first | assumption | (simp <;> omega) | (simp; done))))
  first | replace X1 := Lib.hid (row_call hb5 X1.out) | replace X1 := Lib.hid (row_call hb5 (row_alloc X1.out _)) | replace X1 := Lib.hid (row_call hb5 (row_alloc (row_alloc X1.out _) _)) | replace X1 := Lib.hid (row_call hb5 (row_alloc (row_alloc (row_alloc X1.out _) _) _))
  first | replace U1 := Lib.hid (row_call hb5 U1.out) | replace U1 := Lib.hid (row_call hb5 (row_alloc U1.out _)) | replace U1 := Lib.hid (row_call hb5 (row_alloc (row_alloc U1.out _) _)) | replace U1 := Lib.hid (row_call hb5 (row_alloc (row_alloc (row_alloc U1.out _) _) _))
  first | replace M1 := Lib.hid (row_call hb5 M1.out) | replace M1 := Lib.hid (row_call hb5 (row_alloc M1.out _)) | replace M1 := Lib.hid (row_call hb5 (row_alloc (row_alloc M1.out _) _)) | replace M1 := Lib.hid (row_call hb5 (row_alloc (row_alloc (row_alloc M1.out _) _) _))
  first | replace I1 := Lib.hid (row_call hb5 I1.out) | replace I1 := Lib.hid (row_call hb5 (row_alloc I1.out _)) | replace I1 := Lib.hid (row_call hb5 (row_alloc (row_alloc I1.out _) _)) | replace I1 := Lib.hid (row_call hb5 (row_alloc (row_alloc (row_alloc I1.out _) _) _))
  first | replace L1 := Lib.hid (row_call hb5 L1.out) | replace L1 := Lib.hid (row_call hb5 (row_alloc L1.out _)) | replace L1 := Lib.hid (row_call hb5 (row_alloc (row_alloc L1.out _) _)) | replace L1 := Lib.hid (row_call hb5 (row_alloc (row_alloc (row_alloc L1.out _) _) _))
  first | replace G1 := Lib.hid (row_call hb5 G1.out) | replace G1 := Lib.hid (row_call hb5 (row_alloc G1.out _)) | replace G1 := Lib.hid (row_call hb5 (row_alloc (row_alloc G1.out _) _)) | replace G1 := Lib.hid (row_call hb5 (row_alloc (row_alloc (row_alloc G1.out _) _) _))
  clear hb5
  have X1_0 : V5.cell? ⟨w.heap.size, 0, none⟩ = some (.int .u64 xh) := cell_of_row _ _ _ _ _ _ X1.out
  have X1_1 : V5.cell? ⟨w.heap.size, 1, none⟩ = some (.int .u64 xl) := cell_of_row _ _ _ _ _ _ X1.out
  have U1_0 : V5.cell? ⟨w.heap.size + 1, 0, none⟩ = some (.int .u64 yh) := cell_of_row _ _ _ _ _ _ U1.out
  have U1_1 : V5.cell? ⟨w.heap.size + 1, 1, none⟩ = some (.int .u64 yl) := cell_of_row _ _ _ _ _ _ U1.out
  have M1_0 : V5.cell? ⟨w.heap.size + 1 + 1, 0, none⟩ = some (.int .i64 m0) := cell_of_row _ _ _ _ _ _ M1.out
  have M1_1 : V5.cell? ⟨w.heap.size + 1 + 1, 1, none⟩ = some (.int .i64 m1) := cell_of_row _ _ _ _ _ _ M1.out
  have I1_0 : V5.cell? ⟨V1.heap.size, 0, none⟩ = some (.int .u64 vh) := cell_of_row _ _ _ _ _ _ I1.out
  have I1_1 : V5.cell? ⟨V1.heap.size, 1, none⟩ = some (.int .u64 vl) := cell_of_row _ _ _ _ _ _ I1.out
  have L1_0 : V5.cell? ⟨V2.heap.size, 0, none⟩ = some (.int .u64 vh) := cell_of_row _ _ _ _ _ _ L1.out
  have L1_1 : V5.cell? ⟨V2.heap.size, 1, none⟩ = some (.int .u64 vl) := cell_of_row _ _ _ _ _ _ L1.out
  have G1_0 : V5.cell? ⟨V3.heap.size, 0, none⟩ = some (.int .u64 gh) := cell_of_row _ _ _ _ _ _ G1.out
  have G1_1 : V5.cell? ⟨V3.heap.size, 1, none⟩ = some (.int .u64 gl) := cell_of_row _ _ _ _ _ _ G1.out
  have zX1 := lt_of_heap X1.out
  have zU1 := lt_of_heap U1.out
  have zM1 := lt_of_heap M1.out
  have zI1 := lt_of_heap I1.out
  have zL1 := lt_of_heap L1.out
  have zG1 := lt_of_heap G1.out
  go_simp
  go_wp2_with fail
  refine (H7.out _).mono ?_
  rintro e V6 ⟨rfl, hb6⟩
  clear X1_0 X1_1 zX1 U1_0 U1_1 zU1 M1_0 M1_1 zM1 I1_0 I1_1 zI1 L1_0 L1_1 zL1 G1_0 G1_1 zG1
  have B6 : Hid (Below w.heap.size w V6) := by first | exact Lib.hid ((B5.out).trans (hb6.mono (by have := B5.out.size; first | assumption | (simp <;> omega) | (simp; done)))) | exact Lib.hid (((B5.out).alloc (B5.out.size) _).trans (hb6.mono (by have := B5.out.size; first | assumption | (simp <;> omega) | (simp; done)))) | exact Lib.hid ((((B5.out).alloc (B5.out.size) _).alloc (by have := B5.out.size; simp <;> omega) _).trans (hb6.mono (by have := B5.out.size; first | assumption | (simp <;> omega) | (simp; done)))) | exact Lib.hid (((((B5.out).alloc (B5.out.size) _).alloc (by have := B5.out.size; simp <;> omega) _).alloc (by have := B5.out.size; simp <;> omega) _).trans (hb6.mono (by have := B5.out.size; first | assumption | (simp <;> omega) | (simp; done))))
  first | replace X1 := Lib.hid (row_call hb6 X1.out) | replace X1 := Lib.hid (row_call hb6 (row_alloc X1.out _)) | replace X1 := Lib.hid (row_call hb6 (row_alloc (row_alloc X1.out _) _)) | replace X1 := Lib.hid (row_call hb6 (row_alloc (row_alloc (row_alloc X1.out _) _) _))
  first | replace U1 := Lib.hid (row_call hb6 U1.out) | replace U1 := Lib.hid (row_call hb6 (row_alloc U1.out _)) | replace U1 := Lib.hid (row_call hb6 (row_alloc (row_alloc U1.out _) _)) | replace U1 := Lib.hid (row_call hb6 (row_alloc (row_alloc (row_alloc U1.out _) _) _))
  first | replace M1 := Lib.hid (row_call hb6 M1.out) | replace M1 := Lib.hid (row_call hb6 (row_alloc M1.out _)) | replace M1 := Lib.hid (row_call hb6 (row_alloc (row_alloc M1.out _) _)) | replace M1 := Lib.hid (row_call hb6 (row_alloc (row_alloc (row_alloc M1.out _) _) _))
  first | replace I1 := Lib.hid (row_call hb6 I1.out) | replace I1 := Lib.hid (row_call hb6 (row_alloc I1.out _)) | replace I1 := Lib.hid (row_call hb6 (row_alloc (row_alloc I1.out _) _)) | replace I1 := Lib.hid (row_call hb6 (row_alloc (row_alloc (row_alloc I1.out _) _) _))
  first | replace L1 := Lib.hid (row_call hb6 L1.out) | replace L1 := Lib.hid (row_call hb6 (row_alloc L1.out _)) | replace L1 := Lib.hid (row_call hb6 (row_alloc (row_alloc L1.out _) _)) | replace L1 := Lib.hid (row_call hb6 (row_alloc (row_alloc (row_alloc L1.out _) _) _))
  first | replace G1 := Lib.hid (row_call hb6 G1.out) | replace G1 := Lib.hid (row_call hb6 (row_alloc G1.out _)) | replace G1 := Lib.hid (row_call hb6 (row_alloc (row_alloc G1.out _) _)) | replace G1 := Lib.hid (row_call hb6 (row_alloc (row_alloc (row_alloc G1.out _) _) _))
  clear hb6
  have X1_0 : V6.cell? ⟨w.heap.size, 0, none⟩ = some (.int .u64 xh) := cell_of_row _ _ _ _ _ _ X1.out
  have X1_1 : V6.cell? ⟨w.heap.size, 1, none⟩ = some (.int .u64 xl) := cell_of_row _ _ _ _ _ _ X1.out
  have U1_0 : V6.cell? ⟨w.heap.size + 1, 0, none⟩ = some (.int .u64 yh) := cell_of_row _ _ _ _ _ _ U1.out
  have U1_1 : V6.cell? ⟨w.heap.size + 1, 1, none⟩ = some (.int .u64 yl) := cell_of_row _ _ _ _ _ _ U1.out
  have M1_0 : V6.cell? ⟨w.heap.size + 1 + 1, 0, none⟩ = some (.int .i64 m0) := cell_of_row _ _ _ _ _ _ M1.out
  have M1_1 : V6.cell? ⟨w.heap.size + 1 + 1, 1, none⟩ = some (.int .i64 m1) := cell_of_row _ _ _ _ _ _ M1.out
  have I1_0 : V6.cell? ⟨V1.heap.size, 0, none⟩ = some (.int .u64 vh) := cell_of_row _ _ _ _ _ _ I1.out
  have I1_1 : V6.cell? ⟨V1.heap.size, 1, none⟩ = some (.int .u64 vl) := cell_of_row _ _ _ _ _ _ I1.out
  have L1_0 : V6.cell? ⟨V2.heap.size, 0, none⟩ = some (.int .u64 vh) := cell_of_row _ _ _ _ _ _ L1.out
  have L1_1 : V6.cell? ⟨V2.heap.size, 1, none⟩ = some (.int .u64 vl) := cell_of_row _ _ _ _ _ _ L1.out
  have G1_0 : V6.cell? ⟨V3.heap.size, 0, none⟩ = some (.int .u64 gh) := cell_of_row _ _ _ _ _ _ G1.out
  have G1_1 : V6.cell? ⟨V3.heap.size, 1, none⟩ = some (.int .u64 gl) := cell_of_row _ _ _ _ _ _ G1.out
  have zX1 := lt_of_heap X1.out
  have zU1 := lt_of_heap U1.out
  have zM1 := lt_of_heap M1.out
  have zI1 := lt_of_heap I1.out
  have zL1 := lt_of_heap L1.out
  have zG1 := lt_of_heap G1.out
  go_simp
  go_wp2_with fail
  refine (H8.out _).mono ?_
  rintro e V7 ⟨rfl, hb7⟩
  clear X1_0 X1_1 zX1 U1_0 U1_1 zU1 M1_0 M1_1 zM1 I1_0 I1_1 zI1 L1_0 L1_1 zL1 G1_0 G1_1 zG1
  have nX1B1 := Lib.hid (lt_of_heap X1.out)
  have nU1B1 := Lib.hid (lt_of_heap U1.out)
  have nM1B1 := Lib.hid (lt_of_heap M1.out)
  have nI1B1 := Lib.hid (lt_of_heap I1.out)
  have nL1B1 := Lib.hid (lt_of_heap L1.out)
  have nG1B1 := Lib.hid (lt_of_heap G1.out)
  have B7 := Lib.hid (((B6.out).alloc (B6.out.size) _).trans (hb7.mono (by have := B6.out.size; first | assumption | (simp <;> omega) | (simp; done))))
  replace X1 := Lib.hid (row_call hb7 (row_alloc X1.out _))
  replace U1 := Lib.hid (row_call hb7 (row_alloc U1.out _))
  replace M1 := Lib.hid (row_call hb7 (row_alloc M1.out _))
  replace I1 := Lib.hid (row_call hb7 (row_alloc I1.out _))
  replace L1 := Lib.hid (row_call hb7 (row_alloc L1.out _))
  replace G1 := Lib.hid (row_call hb7 (row_alloc G1.out _))
  have B1 := Lib.hid (row_call hb7 (heap_alloc_new _ _))
  clear hb7
  have X1_0 : V7.cell? ⟨w.heap.size, 0, none⟩ = some (.int .u64 xh) := cell_of_row _ _ _ _ _ _ X1.out
  have X1_1 : V7.cell? ⟨w.heap.size, 1, none⟩ = some (.int .u64 xl) := cell_of_row _ _ _ _ _ _ X1.out
  have U1_0 : V7.cell? ⟨w.heap.size + 1, 0, none⟩ = some (.int .u64 yh) := cell_of_row _ _ _ _ _ _ U1.out
  have U1_1 : V7.cell? ⟨w.heap.size + 1, 1, none⟩ = some (.int .u64 yl) := cell_of_row _ _ _ _ _ _ U1.out
  have M1_0 : V7.cell? ⟨w.heap.size + 1 + 1, 0, none⟩ = some (.int .i64 m0) := cell_of_row _ _ _ _ _ _ M1.out
  have M1_1 : V7.cell? ⟨w.heap.size + 1 + 1, 1, none⟩ = some (.int .i64 m1) := cell_of_row _ _ _ _ _ _ M1.out
  have I1_0 : V7.cell? ⟨V1.heap.size, 0, none⟩ = some (.int .u64 vh) := cell_of_row _ _ _ _ _ _ I1.out
  have I1_1 : V7.cell? ⟨V1.heap.size, 1, none⟩ = some (.int .u64 vl) := cell_of_row _ _ _ _ _ _ I1.out
  have L1_0 : V7.cell? ⟨V2.heap.size, 0, none⟩ = some (.int .u64 vh) := cell_of_row _ _ _ _ _ _ L1.out
  have L1_1 : V7.cell? ⟨V2.heap.size, 1, none⟩ = some (.int .u64 vl) := cell_of_row _ _ _ _ _ _ L1.out
  have G1_0 : V7.cell? ⟨V3.heap.size, 0, none⟩ = some (.int .u64 gh) := cell_of_row _ _ _ _ _ _ G1.out
  have G1_1 : V7.cell? ⟨V3.heap.size, 1, none⟩ = some (.int .u64 gl) := cell_of_row _ _ _ _ _ _ G1.out
  have B1_0 : V7.cell? ⟨V6.heap.size, 0, none⟩ = some (.int .u64 0) := cell_of_row _ _ _ _ _ _ B1.out
  have B1_1 : V7.cell? ⟨V6.heap.size, 1, none⟩ = some (.int .u64 0) := cell_of_row _ _ _ _ _ _ B1.out
  have zX1 := lt_of_heap X1.out
  have zU1 := lt_of_heap U1.out
  have zM1 := lt_of_heap M1.out
  have zI1 := lt_of_heap I1.out
  have zL1 := lt_of_heap L1.out
  have zG1 := lt_of_heap G1.out
  have zB1 := lt_of_heap B1.out
  go_simp
  go_wp2_with fail
  refine (HK.out _).mono ?_
  rintro e V8 ⟨rfl, hb8⟩
  clear X1_0 X1_1 zX1 U1_0 U1_1 zU1 M1_0 M1_1 zM1 I1_0 I1_1 zI1 L1_0 L1_1 zL1 G1_0 G1_1 zG1 B1_0 B1_1 zB1
  have nX1C1 := Lib.hid (lt_of_heap X1.out)
  have nU1C1 := Lib.hid (lt_of_heap U1.out)
  have nM1C1 := Lib.hid (lt_of_heap M1.out)
  have nI1C1 := Lib.hid (lt_of_heap I1.out)
  have nL1C1 := Lib.hid (lt_of_heap L1.out)
  have nG1C1 := Lib.hid (lt_of_heap G1.out)
  have nB1C1 := Lib.hid (lt_of_heap B1.out)
  have B8 := Lib.hid (((B7.out).alloc (B7.out.size) _).trans (hb8.mono (by have := B7.out.size; first | assumption | (simp <;> omega) | (simp; done))))
  replace X1 := Lib.hid (row_call hb8 (row_alloc X1.out _))
  replace U1 := Lib.hid (row_call hb8 (row_alloc U1.out _))
  replace M1 := Lib.hid (row_call hb8 (row_alloc M1.out _))
  replace I1 := Lib.hid (row_call hb8 (row_alloc I1.out _))
  replace L1 := Lib.hid (row_call hb8 (row_alloc L1.out _))
  replace G1 := Lib.hid (row_call hb8 (row_alloc G1.out _))
  replace B1 := Lib.hid (row_call hb8 (row_alloc B1.out _))
  have C1 := Lib.hid (row_call hb8 (heap_alloc_new _ _))
  clear hb8
  have X1_0 : V8.cell? ⟨w.heap.size, 0, none⟩ = some (.int .u64 xh) := cell_of_row _ _ _ _ _ _ X1.out
  have X1_1 : V8.cell? ⟨w.heap.size, 1, none⟩ = some (.int .u64 xl) := cell_of_row _ _ _ _ _ _ X1.out
  have U1_0 : V8.cell? ⟨w.heap.size + 1, 0, none⟩ = some (.int .u64 yh) := cell_of_row _ _ _ _ _ _ U1.out
  have U1_1 : V8.cell? ⟨w.heap.size + 1, 1, none⟩ = some (.int .u64 yl) := cell_of_row _ _ _ _ _ _ U1.out
  have M1_0 : V8.cell? ⟨w.heap.size + 1 + 1, 0, none⟩ = some (.int .i64 m0) := cell_of_row _ _ _ _ _ _ M1.out
  have M1_1 : V8.cell? ⟨w.heap.size + 1 + 1, 1, none⟩ = some (.int .i64 m1) := cell_of_row _ _ _ _ _ _ M1.out
  have I1_0 : V8.cell? ⟨V1.heap.size, 0, none⟩ = some (.int .u64 vh) := cell_of_row _ _ _ _ _ _ I1.out
  have I1_1 : V8.cell? ⟨V1.heap.size, 1, none⟩ = some (.int .u64 vl) := cell_of_row _ _ _ _ _ _ I1.out
  have L1_0 : V8.cell? ⟨V2.heap.size, 0, none⟩ = some (.int .u64 vh) := cell_of_row _ _ _ _ _ _ L1.out
  have L1_1 : V8.cell? ⟨V2.heap.size, 1, none⟩ = some (.int .u64 vl) := cell_of_row _ _ _ _ _ _ L1.out
  have G1_0 : V8.cell? ⟨V3.heap.size, 0, none⟩ = some (.int .u64 gh) := cell_of_row _ _ _ _ _ _ G1.out
  have G1_1 : V8.cell? ⟨V3.heap.size, 1, none⟩ = some (.int .u64 gl) := cell_of_row _ _ _ _ _ _ G1.out
  have B1_0 : V8.cell? ⟨V6.heap.size, 0, none⟩ = some (.int .u64 0) := cell_of_row _ _ _ _ _ _ B1.out
  have B1_1 : V8.cell? ⟨V6.heap.size, 1, none⟩ = some (.int .u64 0) := cell_of_row _ _ _ _ _ _ B1.out
  have C1_0 : V8.cell? ⟨V7.heap.size, 0, none⟩ = some (.int .u64 0) := cell_of_row _ _ _ _ _ _ C1.out
  have C1_1 : V8.cell? ⟨V7.heap.size, 1, none⟩ = some (.int .u64 0) := cell_of_row _ _ _ _ _ _ C1.out
  have zX1 := lt_of_heap X1.out
  have zU1 := lt_of_heap U1.out
  have zM1 := lt_of_heap M1.out
  have zI1 := lt_of_heap I1.out
  have zL1 := lt_of_heap L1.out
  have zG1 := lt_of_heap G1.out
  have zB1 := lt_of_heap B1.out
  have zC1 := lt_of_heap C1.out
  go_simp
  go_wp2
  go_ret
  exact ⟨rfl, by first | exact B8.out | exact B8.out.alloc B8.out.size _⟩
set_option maxHeartbeats 6400000 in
set_option maxRecDepth 100000 in
theorem again_a0 (xh xl yh yl vh vl gh gl : Nat) (m0 m1 c1 c2 E F G : Int) (w : World) (g1 : decide (0 < c1) = false) (g2 : decide (c2 < 0) = false) 
    (H1 : Hid (∀ w, Calls Try.prog 8 #[.agg #[.int .u64 xh, .int .u64 xl], .agg #[.int .u64 yh, .int .u64 yl], .int .i64 m0] w fun e w' => e = .returned (.tuple #[.agg #[.int .u64 vh, .int .u64 vl], .int .i64 0]) ∧ Below w.heap.size w w'))
    (H2 : Hid (∀ w, Calls Try.prog 8 #[.agg #[.int .u64 xh, .int .u64 xl], .agg #[.int .u64 yh, .int .u64 yl], .int .i64 0] w fun e w' => e = .returned (.tuple #[.agg #[.int .u64 vh, .int .u64 vl], .int .i64 0]) ∧ Below w.heap.size w w'))
    (H3 : Hid (∀ w, Calls Try.prog 8 #[.agg #[.int .u64 xh, .int .u64 xl], .agg #[.int .u64 yh, .int .u64 yl], .int .i64 1] w fun e w' => e = .returned (.tuple #[.agg #[.int .u64 gh, .int .u64 gl], .int .i64 0]) ∧ Below w.heap.size w w'))
    (H4 : Hid (∀ w, Calls Try.prog 15 #[.agg #[.int .u64 vh, .int .u64 vl], .agg #[.int .u64 xh, .int .u64 xl]] w fun e w' => e = .returned (.int .i64 c1) ∧ Below w.heap.size w w'))
    (H5 : Hid (∀ w, Calls Try.prog 15 #[.agg #[.int .u64 gh, .int .u64 gl], .agg #[.int .u64 xh, .int .u64 xl]] w fun e w' => e = .returned (.int .i64 c2) ∧ Below w.heap.size w w'))
    (H7 : Hid (∀ w, Calls Try.prog 8 #[.agg #[.int .u64 vh, .int .u64 vl], .agg #[.int .u64 yh, .int .u64 yl], .int .i64 m1] w fun e w' => e = .returned (.tuple #[.agg #[.int .u64 vh, .int .u64 vl], .int .i64 0]) ∧ Below w.heap.size w w'))
    (HK : Hid (∀ w, Calls Try.prog 10 #[] w fun e w' => e = .returned (.bool true) ∧ Below w.heap.size w w'))
    : Calls Try.prog 6 #[.agg #[.int .u64 xh, .int .u64 xl], .agg #[.int .u64 yh, .int .u64 yl], .agg #[.int .i64 m0, .int .i64 m1]] w fun e w' => e = .returned (.bool true) ∧ Below w.heap.size w w' := by
  go_enter Try.func6, Try.ntmps6
  go_wp2_with fail
  
  refine (H1.out _).mono ?_
  rintro e V1 ⟨rfl, hb1⟩
  have B1 := Lib.hid (((((Below.refl w.heap.size w).alloc (Nat.le_refl _) _).alloc (by simp <;> omega) _).alloc (by simp <;> omega) _).trans (hb1.mono (by first | assumption | (simp <;> omega) | (simp; done))))
  have X1 := Lib.hid (row_call hb1 (row_alloc (row_alloc (heap_alloc_new _ _) _) _))
  have U1 := Lib.hid (row_at (k' := w.heap.size + 1) (by simp) (row_call hb1 (row_alloc (heap_alloc_new _ _) _)))
  have M1 := Lib.hid (row_at (k' := w.heap.size + 1 + 1) (by simp) (row_call hb1 (heap_alloc_new _ _)))
  clear hb1
  have X1_0 : V1.cell? ⟨w.heap.size, 0, none⟩ = some (.int .u64 xh) := cell_of_row _ _ _ _ _ _ X1.out
  have X1_1 : V1.cell? ⟨w.heap.size, 1, none⟩ = some (.int .u64 xl) := cell_of_row _ _ _ _ _ _ X1.out
  have U1_0 : V1.cell? ⟨w.heap.size + 1, 0, none⟩ = some (.int .u64 yh) := cell_of_row _ _ _ _ _ _ U1.out
  have U1_1 : V1.cell? ⟨w.heap.size + 1, 1, none⟩ = some (.int .u64 yl) := cell_of_row _ _ _ _ _ _ U1.out
  have M1_0 : V1.cell? ⟨w.heap.size + 1 + 1, 0, none⟩ = some (.int .i64 m0) := cell_of_row _ _ _ _ _ _ M1.out
  have M1_1 : V1.cell? ⟨w.heap.size + 1 + 1, 1, none⟩ = some (.int .i64 m1) := cell_of_row _ _ _ _ _ _ M1.out
  have zX1 := lt_of_heap X1.out
  have zU1 := lt_of_heap U1.out
  have zM1 := lt_of_heap M1.out
  go_simp
  go_wp2_with fail
  refine (H2.out _).mono ?_
  rintro e V2 ⟨rfl, hb2⟩
  clear X1_0 X1_1 zX1 U1_0 U1_1 zU1 M1_0 M1_1 zM1
  have nX1I1 := Lib.hid (lt_of_heap X1.out)
  have nU1I1 := Lib.hid (lt_of_heap U1.out)
  have nM1I1 := Lib.hid (lt_of_heap M1.out)
  have B2 := Lib.hid (((B1.out).alloc (B1.out.size) _).trans (hb2.mono (by have := B1.out.size; first | assumption | (simp <;> omega) | (simp; done))))
  replace X1 := Lib.hid (row_call hb2 (row_alloc X1.out _))
  replace U1 := Lib.hid (row_call hb2 (row_alloc U1.out _))
  replace M1 := Lib.hid (row_call hb2 (row_alloc M1.out _))
  have I1 := Lib.hid (row_call hb2 (heap_alloc_new _ _))
  clear hb2
  have X1_0 : V2.cell? ⟨w.heap.size, 0, none⟩ = some (.int .u64 xh) := cell_of_row _ _ _ _ _ _ X1.out
  have X1_1 : V2.cell? ⟨w.heap.size, 1, none⟩ = some (.int .u64 xl) := cell_of_row _ _ _ _ _ _ X1.out
  have U1_0 : V2.cell? ⟨w.heap.size + 1, 0, none⟩ = some (.int .u64 yh) := cell_of_row _ _ _ _ _ _ U1.out
  have U1_1 : V2.cell? ⟨w.heap.size + 1, 1, none⟩ = some (.int .u64 yl) := cell_of_row _ _ _ _ _ _ U1.out
  have M1_0 : V2.cell? ⟨w.heap.size + 1 + 1, 0, none⟩ = some (.int .i64 m0) := cell_of_row _ _ _ _ _ _ M1.out
  have M1_1 : V2.cell? ⟨w.heap.size + 1 + 1, 1, none⟩ = some (.int .i64 m1) := cell_of_row _ _ _ _ _ _ M1.out
  have I1_0 : V2.cell? ⟨V1.heap.size, 0, none⟩ = some (.int .u64 vh) := cell_of_row _ _ _ _ _ _ I1.out
  have I1_1 : V2.cell? ⟨V1.heap.size, 1, none⟩ = some (.int .u64 vl) := cell_of_row _ _ _ _ _ _ I1.out
  have zX1 := lt_of_heap X1.out
  have zU1 := lt_of_heap U1.out
  have zM1 := lt_of_heap M1.out
  have zI1 := lt_of_heap I1.out
  go_simp
  go_wp2_with fail
  refine (H3.out _).mono ?_
  rintro e V3 ⟨rfl, hb3⟩
  clear X1_0 X1_1 zX1 U1_0 U1_1 zU1 M1_0 M1_1 zM1 I1_0 I1_1 zI1
  have nX1L1 := Lib.hid (lt_of_heap X1.out)
  have nU1L1 := Lib.hid (lt_of_heap U1.out)
  have nM1L1 := Lib.hid (lt_of_heap M1.out)
  have nI1L1 := Lib.hid (lt_of_heap I1.out)
  have B3 := Lib.hid (((B2.out).alloc (B2.out.size) _).trans (hb3.mono (by have := B2.out.size; first | assumption | (simp <;> omega) | (simp; done))))
  replace X1 := Lib.hid (row_call hb3 (row_alloc X1.out _))
  replace U1 := Lib.hid (row_call hb3 (row_alloc U1.out _))
  replace M1 := Lib.hid (row_call hb3 (row_alloc M1.out _))
  replace I1 := Lib.hid (row_call hb3 (row_alloc I1.out _))
  have L1 := Lib.hid (row_call hb3 (heap_alloc_new _ _))
  clear hb3
  have X1_0 : V3.cell? ⟨w.heap.size, 0, none⟩ = some (.int .u64 xh) := cell_of_row _ _ _ _ _ _ X1.out
  have X1_1 : V3.cell? ⟨w.heap.size, 1, none⟩ = some (.int .u64 xl) := cell_of_row _ _ _ _ _ _ X1.out
  have U1_0 : V3.cell? ⟨w.heap.size + 1, 0, none⟩ = some (.int .u64 yh) := cell_of_row _ _ _ _ _ _ U1.out
  have U1_1 : V3.cell? ⟨w.heap.size + 1, 1, none⟩ = some (.int .u64 yl) := cell_of_row _ _ _ _ _ _ U1.out
  have M1_0 : V3.cell? ⟨w.heap.size + 1 + 1, 0, none⟩ = some (.int .i64 m0) := cell_of_row _ _ _ _ _ _ M1.out
  have M1_1 : V3.cell? ⟨w.heap.size + 1 + 1, 1, none⟩ = some (.int .i64 m1) := cell_of_row _ _ _ _ _ _ M1.out
  have I1_0 : V3.cell? ⟨V1.heap.size, 0, none⟩ = some (.int .u64 vh) := cell_of_row _ _ _ _ _ _ I1.out
  have I1_1 : V3.cell? ⟨V1.heap.size, 1, none⟩ = some (.int .u64 vl) := cell_of_row _ _ _ _ _ _ I1.out
  have L1_0 : V3.cell? ⟨V2.heap.size, 0, none⟩ = some (.int .u64 vh) := cell_of_row _ _ _ _ _ _ L1.out
  have L1_1 : V3.cell? ⟨V2.heap.size, 1, none⟩ = some (.int .u64 vl) := cell_of_row _ _ _ _ _ _ L1.out
  have zX1 := lt_of_heap X1.out
  have zU1 := lt_of_heap U1.out
  have zM1 := lt_of_heap M1.out
  have zI1 := lt_of_heap I1.out
  have zL1 := lt_of_heap L1.out
  go_simp
  go_wp2_with fail
  refine (H4.out _).mono ?_
  rintro e V4 ⟨rfl, hb4⟩
  clear X1_0 X1_1 zX1 U1_0 U1_1 zU1 M1_0 M1_1 zM1 I1_0 I1_1 zI1 L1_0 L1_1 zL1
  have nX1G1 := Lib.hid (lt_of_heap X1.out)
  have nU1G1 := Lib.hid (lt_of_heap U1.out)
  have nM1G1 := Lib.hid (lt_of_heap M1.out)
  have nI1G1 := Lib.hid (lt_of_heap I1.out)
  have nL1G1 := Lib.hid (lt_of_heap L1.out)
  have B4 := Lib.hid (((B3.out).alloc (B3.out.size) _).trans (hb4.mono (by have := B3.out.size; first | assumption | (simp <;> omega) | (simp; done))))
  replace X1 := Lib.hid (row_call hb4 (row_alloc X1.out _))
  replace U1 := Lib.hid (row_call hb4 (row_alloc U1.out _))
  replace M1 := Lib.hid (row_call hb4 (row_alloc M1.out _))
  replace I1 := Lib.hid (row_call hb4 (row_alloc I1.out _))
  replace L1 := Lib.hid (row_call hb4 (row_alloc L1.out _))
  have G1 := Lib.hid (row_call hb4 (heap_alloc_new _ _))
  clear hb4
  have X1_0 : V4.cell? ⟨w.heap.size, 0, none⟩ = some (.int .u64 xh) := cell_of_row _ _ _ _ _ _ X1.out
  have X1_1 : V4.cell? ⟨w.heap.size, 1, none⟩ = some (.int .u64 xl) := cell_of_row _ _ _ _ _ _ X1.out
  have U1_0 : V4.cell? ⟨w.heap.size + 1, 0, none⟩ = some (.int .u64 yh) := cell_of_row _ _ _ _ _ _ U1.out
  have U1_1 : V4.cell? ⟨w.heap.size + 1, 1, none⟩ = some (.int .u64 yl) := cell_of_row _ _ _ _ _ _ U1.out
  have M1_0 : V4.cell? ⟨w.heap.size + 1 + 1, 0, none⟩ = some (.int .i64 m0) := cell_of_row _ _ _ _ _ _ M1.out
  have M1_1 : V4.cell? ⟨w.heap.size + 1 + 1, 1, none⟩ = some (.int .i64 m1) := cell_of_row _ _ _ _ _ _ M1.out
  have I1_0 : V4.cell? ⟨V1.heap.size, 0, none⟩ = some (.int .u64 vh) := cell_of_row _ _ _ _ _ _ I1.out
  have I1_1 : V4.cell? ⟨V1.heap.size, 1, none⟩ = some (.int .u64 vl) := cell_of_row _ _ _ _ _ _ I1.out
  have L1_0 : V4.cell? ⟨V2.heap.size, 0, none⟩ = some (.int .u64 vh) := cell_of_row _ _ _ _ _ _ L1.out
  have L1_1 : V4.cell? ⟨V2.heap.size, 1, none⟩ = some (.int .u64 vl) := cell_of_row _ _ _ _ _ _ L1.out
  have G1_0 : V4.cell? ⟨V3.heap.size, 0, none⟩ = some (.int .u64 gh) := cell_of_row _ _ _ _ _ _ G1.out
  have G1_1 : V4.cell? ⟨V3.heap.size, 1, none⟩ = some (.int .u64 gl) := cell_of_row _ _ _ _ _ _ G1.out
  have zX1 := lt_of_heap X1.out
  have zU1 := lt_of_heap U1.out
  have zM1 := lt_of_heap M1.out
  have zI1 := lt_of_heap I1.out
  have zL1 := lt_of_heap L1.out
  have zG1 := lt_of_heap G1.out
  go_simp
  go_wp2_with fail
  refine (H5.out _).mono ?_
  rintro e V5 ⟨rfl, hb5⟩
  clear X1_0 X1_1 zX1 U1_0 U1_1 zU1 M1_0 M1_1 zM1 I1_0 I1_1 zI1 L1_0 L1_1 zL1 G1_0 G1_1 zG1
  have B5 : Hid (Below w.heap.size w V5) := by first | exact Lib.hid ((B4.out).trans (hb5.mono (by have := B4.out.size; first | assumption | (simp <;> omega) | (simp; done)))) | exact Lib.hid (((B4.out).alloc (B4.out.size) _).trans (hb5.mono (by have := B4.out.size; first | assumption | (simp <;> omega) | (simp; done)))) | exact Lib.hid ((((B4.out).alloc (B4.out.size) _).alloc (by have := B4.out.size; simp <;> omega) _).trans (hb5.mono (by have := B4.out.size; first | assumption | (simp <;> omega) | (simp; done)))) | exact Lib.hid (((((B4.out).alloc (B4.out.size) _).alloc (by have := B4.out.size; simp <;> omega) _).alloc (by have := B4.out.size; simp <;> omega) _).trans (hb5.mono (by have := B4.out.size; first | assumption | (simp <;> omega) | (simp; done))))
  first | replace X1 := Lib.hid (row_call hb5 X1.out) | replace X1 := Lib.hid (row_call hb5 (row_alloc X1.out _)) | replace X1 := Lib.hid (row_call hb5 (row_alloc (row_alloc X1.out _) _)) | replace X1 := Lib.hid (row_call hb5 (row_alloc (row_alloc (row_alloc X1.out _) _) _))
  first | replace U1 := Lib.hid (row_call hb5 U1.out) | replace U1 := Lib.hid (row_call hb5 (row_alloc U1.out _)) | replace U1 := Lib.hid (row_call hb5 (row_alloc (row_alloc U1.out _) _)) | replace U1 := Lib.hid (row_call hb5 (row_alloc (row_alloc (row_alloc U1.out _) _) _))
  first | replace M1 := Lib.hid (row_call hb5 M1.out) | replace M1 := Lib.hid (row_call hb5 (row_alloc M1.out _)) | replace M1 := Lib.hid (row_call hb5 (row_alloc (row_alloc M1.out _) _)) | replace M1 := Lib.hid (row_call hb5 (row_alloc (row_alloc (row_alloc M1.out _) _) _))
  first | replace I1 := Lib.hid (row_call hb5 I1.out) | replace I1 := Lib.hid (row_call hb5 (row_alloc I1.out _)) | replace I1 := Lib.hid (row_call hb5 (row_alloc (row_alloc I1.out _) _)) | replace I1 := Lib.hid (row_call hb5 (row_alloc (row_alloc (row_alloc I1.out _) _) _))
  first | replace L1 := Lib.hid (row_call hb5 L1.out) | replace L1 := Lib.hid (row_call hb5 (row_alloc L1.out _)) | replace L1 := Lib.hid (row_call hb5 (row_alloc (row_alloc L1.out _) _)) | replace L1 := Lib.hid (row_call hb5 (row_alloc (row_alloc (row_alloc L1.out _) _) _))
  first | replace G1 := Lib.hid (row_call hb5 G1.out) | replace G1 := Lib.hid (row_call hb5 (row_alloc G1.out _)) | replace G1 := Lib.hid (row_call hb5 (row_alloc (row_alloc G1.out _) _)) | replace G1 := Lib.hid (row_call hb5 (row_alloc (row_alloc (row_alloc G1.out _) _) _))
  clear hb5
  have X1_0 : V5.cell? ⟨w.heap.size, 0, none⟩ = some (.int .u64 xh) := cell_of_row _ _ _ _ _ _ X1.out
  have X1_1 : V5.cell? ⟨w.heap.size, 1, none⟩ = some (.int .u64 xl) := cell_of_row _ _ _ _ _ _ X1.out
  have U1_0 : V5.cell? ⟨w.heap.size + 1, 0, none⟩ = some (.int .u64 yh) := cell_of_row _ _ _ _ _ _ U1.out
  have U1_1 : V5.cell? ⟨w.heap.size + 1, 1, none⟩ = some (.int .u64 yl) := cell_of_row _ _ _ _ _ _ U1.out
  have M1_0 : V5.cell? ⟨w.heap.size + 1 + 1, 0, none⟩ = some (.int .i64 m0) := cell_of_row _ _ _ _ _ _ M1.out
  have M1_1 : V5.cell? ⟨w.heap.size + 1 + 1, 1, none⟩ = some (.int .i64 m1) := cell_of_row _ _ _ _ _ _ M1.out
  have I1_0 : V5.cell? ⟨V1.heap.size, 0, none⟩ = some (.int .u64 vh) := cell_of_row _ _ _ _ _ _ I1.out
  have I1_1 : V5.cell? ⟨V1.heap.size, 1, none⟩ = some (.int .u64 vl) := cell_of_row _ _ _ _ _ _ I1.out
  have L1_0 : V5.cell? ⟨V2.heap.size, 0, none⟩ = some (.int .u64 vh) := cell_of_row _ _ _ _ _ _ L1.out
  have L1_1 : V5.cell? ⟨V2.heap.size, 1, none⟩ = some (.int .u64 vl) := cell_of_row _ _ _ _ _ _ L1.out
  have G1_0 : V5.cell? ⟨V3.heap.size, 0, none⟩ = some (.int .u64 gh) := cell_of_row _ _ _ _ _ _ G1.out
  have G1_1 : V5.cell? ⟨V3.heap.size, 1, none⟩ = some (.int .u64 gl) := cell_of_row _ _ _ _ _ _ G1.out
  have zX1 := lt_of_heap X1.out
  have zU1 := lt_of_heap U1.out
  have zM1 := lt_of_heap M1.out
  have zI1 := lt_of_heap I1.out
  have zL1 := lt_of_heap L1.out
  have zG1 := lt_of_heap G1.out
  go_simp
  go_wp2_with fail
  refine (H7.out _).mono ?_
  rintro e V6 ⟨rfl, hb6⟩
  clear X1_0 X1_1 zX1 U1_0 U1_1 zU1 M1_0 M1_1 zM1 I1_0 I1_1 zI1 L1_0 L1_1 zL1 G1_0 G1_1 zG1
  have B6 : Hid (Below w.heap.size w V6) := by first | exact Lib.hid ((B5.out).trans (hb6.mono (by have := B5.out.size; first | assumption | (simp <;> omega) | (simp; done)))) | exact Lib.hid (((B5.out).alloc (B5.out.size) _).trans (hb6.mono (by have := B5.out.size; first | assumption | (simp <;> omega) | (simp; done)))) | exact Lib.hid ((((B5.out).alloc (B5.out.size) _).alloc (by have := B5.out.size; simp <;> omega) _).trans (hb6.mono (by have := B5.out.size; first | assumption | (simp <;> omega) | (simp; done)))) | exact Lib.hid (((((B5.out).alloc (B5.out.size) _).alloc (by have := B5.out.size; simp <;> omega) _).alloc (by have := B5.out.size; simp <;> omega) _).trans (hb6.mono (by have := B5.out.size; first | assumption | (simp <;> omega) | (simp; done))))
  first | replace X1 := Lib.hid (row_call hb6 X1.out) | replace X1 := Lib.hid (row_call hb6 (row_alloc X1.out _)) | replace X1 := Lib.hid (row_call hb6 (row_alloc (row_alloc X1.out _) _)) | replace X1 := Lib.hid (row_call hb6 (row_alloc (row_alloc (row_alloc X1.out _) _) _))
  first | replace U1 := Lib.hid (row_call hb6 U1.out) | replace U1 := Lib.hid (row_call hb6 (row_alloc U1.out _)) | replace U1 := Lib.hid (row_call hb6 (row_alloc (row_alloc U1.out _) _)) | replace U1 := Lib.hid (row_call hb6 (row_alloc (row_alloc (row_alloc U1.out _) _) _))
  first | replace M1 := Lib.hid (row_call hb6 M1.out) | replace M1 := Lib.hid (row_call hb6 (row_alloc M1.out _)) | replace M1 := Lib.hid (row_call hb6 (row_alloc (row_alloc M1.out _) _)) | replace M1 := Lib.hid (row_call hb6 (row_alloc (row_alloc (row_alloc M1.out _) _) _))
  first | replace I1 := Lib.hid (row_call hb6 I1.out) | replace I1 := Lib.hid (row_call hb6 (row_alloc I1.out _)) | replace I1 := Lib.hid (row_call hb6 (row_alloc (row_alloc I1.out _) _)) | replace I1 := Lib.hid (row_call hb6 (row_alloc (row_alloc (row_alloc I1.out _) _) _))
  first | replace L1 := Lib.hid (row_call hb6 L1.out) | replace L1 := Lib.hid (row_call hb6 (row_alloc L1.out _)) | replace L1 := Lib.hid (row_call hb6 (row_alloc (row_alloc L1.out _) _)) | replace L1 := Lib.hid (row_call hb6 (row_alloc (row_alloc (row_alloc L1.out _) _) _))
  first | replace G1 := Lib.hid (row_call hb6 G1.out) | replace G1 := Lib.hid (row_call hb6 (row_alloc G1.out _)) | replace G1 := Lib.hid (row_call hb6 (row_alloc (row_alloc G1.out _) _)) | replace G1 := Lib.hid (row_call hb6 (row_alloc (row_alloc (row_alloc G1.out _) _) _))
  clear hb6
  have X1_0 : V6.cell? ⟨w.heap.size, 0, none⟩ = some (.int .u64 xh) := cell_of_row _ _ _ _ _ _ X1.out
  have X1_1 : V6.cell? ⟨w.heap.size, 1, none⟩ = some (.int .u64 xl) := cell_of_row _ _ _ _ _ _ X1.out
  have U1_0 : V6.cell? ⟨w.heap.size + 1, 0, none⟩ = some (.int .u64 yh) := cell_of_row _ _ _ _ _ _ U1.out
  have U1_1 : V6.cell? ⟨w.heap.size + 1, 1, none⟩ = some (.int .u64 yl) := cell_of_row _ _ _ _ _ _ U1.out
  have M1_0 : V6.cell? ⟨w.heap.size + 1 + 1, 0, none⟩ = some (.int .i64 m0) := cell_of_row _ _ _ _ _ _ M1.out
  have M1_1 : V6.cell? ⟨w.heap.size + 1 + 1, 1, none⟩ = some (.int .i64 m1) := cell_of_row _ _ _ _ _ _ M1.out
  have I1_0 : V6.cell? ⟨V1.heap.size, 0, none⟩ = some (.int .u64 vh) := cell_of_row _ _ _ _ _ _ I1.out
  have I1_1 : V6.cell? ⟨V1.heap.size, 1, none⟩ = some (.int .u64 vl) := cell_of_row _ _ _ _ _ _ I1.out
  have L1_0 : V6.cell? ⟨V2.heap.size, 0, none⟩ = some (.int .u64 vh) := cell_of_row _ _ _ _ _ _ L1.out
  have L1_1 : V6.cell? ⟨V2.heap.size, 1, none⟩ = some (.int .u64 vl) := cell_of_row _ _ _ _ _ _ L1.out
  have G1_0 : V6.cell? ⟨V3.heap.size, 0, none⟩ = some (.int .u64 gh) := cell_of_row _ _ _ _ _ _ G1.out
  have G1_1 : V6.cell? ⟨V3.heap.size, 1, none⟩ = some (.int .u64 gl) := cell_of_row _ _ _ _ _ _ G1.out
  have zX1 := lt_of_heap X1.out
  have zU1 := lt_of_heap U1.out
  have zM1 := lt_of_heap M1.out
  have zI1 := lt_of_heap I1.out
  have zL1 := lt_of_heap L1.out
  have zG1 := lt_of_heap G1.out
  go_simp
  go_wp2_with fail
  refine (HK.out _).mono ?_
  rintro e V7 ⟨rfl, hb7⟩
  clear X1_0 X1_1 zX1 U1_0 U1_1 zU1 M1_0 M1_1 zM1 I1_0 I1_1 zI1 L1_0 L1_1 zL1 G1_0 G1_1 zG1
  have nX1B1 := Lib.hid (lt_of_heap X1.out)
  have nU1B1 := Lib.hid (lt_of_heap U1.out)
  have nM1B1 := Lib.hid (lt_of_heap M1.out)
  have nI1B1 := Lib.hid (lt_of_heap I1.out)
  have nL1B1 := Lib.hid (lt_of_heap L1.out)
  have nG1B1 := Lib.hid (lt_of_heap G1.out)
  have B7 := Lib.hid (((B6.out).alloc (B6.out.size) _).trans (hb7.mono (by have := B6.out.size; first | assumption | (simp <;> omega) | (simp; done))))
  replace X1 := Lib.hid (row_call hb7 (row_alloc X1.out _))
  replace U1 := Lib.hid (row_call hb7 (row_alloc U1.out _))
  replace M1 := Lib.hid (row_call hb7 (row_alloc M1.out _))
  replace I1 := Lib.hid (row_call hb7 (row_alloc I1.out _))
  replace L1 := Lib.hid (row_call hb7 (row_alloc L1.out _))
  replace G1 := Lib.hid (row_call hb7 (row_alloc G1.out _))
  have B1 := Lib.hid (row_call hb7 (heap_alloc_new _ _))
  clear hb7
  have X1_0 : V7.cell? ⟨w.heap.size, 0, none⟩ = some (.int .u64 xh) := cell_of_row _ _ _ _ _ _ X1.out
  have X1_1 : V7.cell? ⟨w.heap.size, 1, none⟩ = some (.int .u64 xl) := cell_of_row _ _ _ _ _ _ X1.out
  have U1_0 : V7.cell? ⟨w.heap.size + 1, 0, none⟩ = some (.int .u64 yh) := cell_of_row _ _ _ _ _ _ U1.out
  have U1_1 : V7.cell? ⟨w.heap.size + 1, 1, none⟩ = some (.int .u64 yl) := cell_of_row _ _ _ _ _ _ U1.out
  have M1_0 : V7.cell? ⟨w.heap.size + 1 + 1, 0, none⟩ = some (.int .i64 m0) := cell_of_row _ _ _ _ _ _ M1.out
  have M1_1 : V7.cell? ⟨w.heap.size + 1 + 1, 1, none⟩ = some (.int .i64 m1) := cell_of_row _ _ _ _ _ _ M1.out
  have I1_0 : V7.cell? ⟨V1.heap.size, 0, none⟩ = some (.int .u64 vh) := cell_of_row _ _ _ _ _ _ I1.out
  have I1_1 : V7.cell? ⟨V1.heap.size, 1, none⟩ = some (.int .u64 vl) := cell_of_row _ _ _ _ _ _ I1.out
  have L1_0 : V7.cell? ⟨V2.heap.size, 0, none⟩ = some (.int .u64 vh) := cell_of_row _ _ _ _ _ _ L1.out
  have L1_1 : V7.cell? ⟨V2.heap.size, 1, none⟩ = some (.int .u64 vl) := cell_of_row _ _ _ _ _ _ L1.out
  have G1_0 : V7.cell? ⟨V3.heap.size, 0, none⟩ = some (.int .u64 gh) := cell_of_row _ _ _ _ _ _ G1.out
  have G1_1 : V7.cell? ⟨V3.heap.size, 1, none⟩ = some (.int .u64 gl) := cell_of_row _ _ _ _ _ _ G1.out
  have B1_0 : V7.cell? ⟨V6.heap.size, 0, none⟩ = some (.int .u64 vh) := cell_of_row _ _ _ _ _ _ B1.out
  have B1_1 : V7.cell? ⟨V6.heap.size, 1, none⟩ = some (.int .u64 vl) := cell_of_row _ _ _ _ _ _ B1.out
  have zX1 := lt_of_heap X1.out
  have zU1 := lt_of_heap U1.out
  have zM1 := lt_of_heap M1.out
  have zI1 := lt_of_heap I1.out
  have zL1 := lt_of_heap L1.out
  have zG1 := lt_of_heap G1.out
  have zB1 := lt_of_heap B1.out
  go_simp
  go_wp2
  go_ret
  exact ⟨rfl, by first | exact B7.out | exact B7.out.alloc B7.out.size _⟩
set_option maxHeartbeats 6400000 in
set_option maxRecDepth 100000 in
theorem again_b5 (xh xl yh yl vh vl lh ll : Nat) (m0 m1 c1 c2 E F G : Int) (w : World) (g1 : decide (0 < c1) = false) (g2 : decide (c2 < 0) = false) (hz : ¬ vh = lh)
    (H1 : Hid (∀ w, Calls Try.prog 8 #[.agg #[.int .u64 xh, .int .u64 xl], .agg #[.int .u64 yh, .int .u64 yl], .int .i64 m0] w fun e w' => e = .returned (.tuple #[.agg #[.int .u64 vh, .int .u64 vl], .int .i64 0]) ∧ Below w.heap.size w w'))
    (H2 : Hid (∀ w, Calls Try.prog 8 #[.agg #[.int .u64 xh, .int .u64 xl], .agg #[.int .u64 yh, .int .u64 yl], .int .i64 0] w fun e w' => e = .returned (.tuple #[.agg #[.int .u64 lh, .int .u64 ll], .int .i64 0]) ∧ Below w.heap.size w w'))
    (H3 : Hid (∀ w, Calls Try.prog 8 #[.agg #[.int .u64 xh, .int .u64 xl], .agg #[.int .u64 yh, .int .u64 yl], .int .i64 1] w fun e w' => e = .returned (.tuple #[.agg #[.int .u64 vh, .int .u64 vl], .int .i64 0]) ∧ Below w.heap.size w w'))
    (H4 : Hid (∀ w, Calls Try.prog 15 #[.agg #[.int .u64 lh, .int .u64 ll], .agg #[.int .u64 xh, .int .u64 xl]] w fun e w' => e = .returned (.int .i64 c1) ∧ Below w.heap.size w w'))
    (H5 : Hid (∀ w, Calls Try.prog 15 #[.agg #[.int .u64 vh, .int .u64 vl], .agg #[.int .u64 xh, .int .u64 xl]] w fun e w' => e = .returned (.int .i64 c2) ∧ Below w.heap.size w w'))
    (H7 : Hid (∀ w, Calls Try.prog 8 #[.agg #[.int .u64 vh, .int .u64 vl], .agg #[.int .u64 yh, .int .u64 yl], .int .i64 m1] w fun e w' => e = .returned (.tuple #[.agg #[.int .u64 0, .int .u64 0], .int .i64 5]) ∧ Below w.heap.size w w'))
    (H8 : Hid (∀ w, Calls Try.prog 9 #[.agg #[.int .u64 vh, .int .u64 vl], .agg #[.int .u64 yh, .int .u64 yl], .int .i64 m1] w fun e w' => e = .returned (.tuple #[.agg #[.int .u64 0, .int .u64 0], .int .i64 5]) ∧ Below w.heap.size w w'))
    (HK : Hid (∀ w, Calls Try.prog 10 #[] w fun e w' => e = .returned (.bool true) ∧ Below w.heap.size w w'))
    : Calls Try.prog 6 #[.agg #[.int .u64 xh, .int .u64 xl], .agg #[.int .u64 yh, .int .u64 yl], .agg #[.int .i64 m0, .int .i64 m1]] w fun e w' => e = .returned (.bool true) ∧ Below w.heap.size w w' := by
  go_enter Try.func6, Try.ntmps6
  go_wp2_with fail
  
  refine (H1.out _).mono ?_
  rintro e V1 ⟨rfl, hb1⟩
  have B1 := Lib.hid (((((Below.refl w.heap.size w).alloc (Nat.le_refl _) _).alloc (by simp <;> omega) _).alloc (by simp <;> omega) _).trans (hb1.mono (by first | assumption | (simp <;> omega) | (simp; done))))
  have X1 := Lib.hid (row_call hb1 (row_alloc (row_alloc (heap_alloc_new _ _) _) _))
  have U1 := Lib.hid (row_at (k' := w.heap.size + 1) (by simp) (row_call hb1 (row_alloc (heap_alloc_new _ _) _)))
  have M1 := Lib.hid (row_at (k' := w.heap.size + 1 + 1) (by simp) (row_call hb1 (heap_alloc_new _ _)))
  clear hb1
  have X1_0 : V1.cell? ⟨w.heap.size, 0, none⟩ = some (.int .u64 xh) := cell_of_row _ _ _ _ _ _ X1.out
  have X1_1 : V1.cell? ⟨w.heap.size, 1, none⟩ = some (.int .u64 xl) := cell_of_row _ _ _ _ _ _ X1.out
  have U1_0 : V1.cell? ⟨w.heap.size + 1, 0, none⟩ = some (.int .u64 yh) := cell_of_row _ _ _ _ _ _ U1.out
  have U1_1 : V1.cell? ⟨w.heap.size + 1, 1, none⟩ = some (.int .u64 yl) := cell_of_row _ _ _ _ _ _ U1.out
  have M1_0 : V1.cell? ⟨w.heap.size + 1 + 1, 0, none⟩ = some (.int .i64 m0) := cell_of_row _ _ _ _ _ _ M1.out
  have M1_1 : V1.cell? ⟨w.heap.size + 1 + 1, 1, none⟩ = some (.int .i64 m1) := cell_of_row _ _ _ _ _ _ M1.out
  have zX1 := lt_of_heap X1.out
  have zU1 := lt_of_heap U1.out
  have zM1 := lt_of_heap M1.out
  go_simp
  go_wp2_with fail
  refine (H2.out _).mono ?_
  rintro e V2 ⟨rfl, hb2⟩
  clear X1_0 X1_1 zX1 U1_0 U1_1 zU1 M1_0 M1_1 zM1
  have nX1I1 := Lib.hid (lt_of_heap X1.out)
  have nU1I1 := Lib.hid (lt_of_heap U1.out)
  have nM1I1 := Lib.hid (lt_of_heap M1.out)
  have B2 := Lib.hid (((B1.out).alloc (B1.out.size) _).trans (hb2.mono (by have := B1.out.size; first | assumption | (simp <;> omega) | (simp; done))))
  replace X1 := Lib.hid (row_call hb2 (row_alloc X1.out _))
  replace U1 := Lib.hid (row_call hb2 (row_alloc U1.out _))
  replace M1 := Lib.hid (row_call hb2 (row_alloc M1.out _))
  have I1 := Lib.hid (row_call hb2 (heap_alloc_new _ _))
  clear hb2
  have X1_0 : V2.cell? ⟨w.heap.size, 0, none⟩ = some (.int .u64 xh) := cell_of_row _ _ _ _ _ _ X1.out
  have X1_1 : V2.cell? ⟨w.heap.size, 1, none⟩ = some (.int .u64 xl) := cell_of_row _ _ _ _ _ _ X1.out
  have U1_0 : V2.cell? ⟨w.heap.size + 1, 0, none⟩ = some (.int .u64 yh) := cell_of_row _ _ _ _ _ _ U1.out
  have U1_1 : V2.cell? ⟨w.heap.size + 1, 1, none⟩ = some (.int .u64 yl) := cell_of_row _ _ _ _ _ _ U1.out
  have M1_0 : V2.cell? ⟨w.heap.size + 1 + 1, 0, none⟩ = some (.int .i64 m0) := cell_of_row _ _ _ _ _ _ M1.out
  have M1_1 : V2.cell? ⟨w.heap.size + 1 + 1, 1, none⟩ = some (.int .i64 m1) := cell_of_row _ _ _ _ _ _ M1.out
  have I1_0 : V2.cell? ⟨V1.heap.size, 0, none⟩ = some (.int .u64 vh) := cell_of_row _ _ _ _ _ _ I1.out
  have I1_1 : V2.cell? ⟨V1.heap.size, 1, none⟩ = some (.int .u64 vl) := cell_of_row _ _ _ _ _ _ I1.out
  have zX1 := lt_of_heap X1.out
  have zU1 := lt_of_heap U1.out
  have zM1 := lt_of_heap M1.out
  have zI1 := lt_of_heap I1.out
  go_simp
  go_wp2_with fail
  refine (H3.out _).mono ?_
  rintro e V3 ⟨rfl, hb3⟩
  clear X1_0 X1_1 zX1 U1_0 U1_1 zU1 M1_0 M1_1 zM1 I1_0 I1_1 zI1
  have nX1L1 := Lib.hid (lt_of_heap X1.out)
  have nU1L1 := Lib.hid (lt_of_heap U1.out)
  have nM1L1 := Lib.hid (lt_of_heap M1.out)
  have nI1L1 := Lib.hid (lt_of_heap I1.out)
  have B3 := Lib.hid (((B2.out).alloc (B2.out.size) _).trans (hb3.mono (by have := B2.out.size; first | assumption | (simp <;> omega) | (simp; done))))
  replace X1 := Lib.hid (row_call hb3 (row_alloc X1.out _))
  replace U1 := Lib.hid (row_call hb3 (row_alloc U1.out _))
  replace M1 := Lib.hid (row_call hb3 (row_alloc M1.out _))
  replace I1 := Lib.hid (row_call hb3 (row_alloc I1.out _))
  have L1 := Lib.hid (row_call hb3 (heap_alloc_new _ _))
  clear hb3
  have X1_0 : V3.cell? ⟨w.heap.size, 0, none⟩ = some (.int .u64 xh) := cell_of_row _ _ _ _ _ _ X1.out
  have X1_1 : V3.cell? ⟨w.heap.size, 1, none⟩ = some (.int .u64 xl) := cell_of_row _ _ _ _ _ _ X1.out
  have U1_0 : V3.cell? ⟨w.heap.size + 1, 0, none⟩ = some (.int .u64 yh) := cell_of_row _ _ _ _ _ _ U1.out
  have U1_1 : V3.cell? ⟨w.heap.size + 1, 1, none⟩ = some (.int .u64 yl) := cell_of_row _ _ _ _ _ _ U1.out
  have M1_0 : V3.cell? ⟨w.heap.size + 1 + 1, 0, none⟩ = some (.int .i64 m0) := cell_of_row _ _ _ _ _ _ M1.out
  have M1_1 : V3.cell? ⟨w.heap.size + 1 + 1, 1, none⟩ = some (.int .i64 m1) := cell_of_row _ _ _ _ _ _ M1.out
  have I1_0 : V3.cell? ⟨V1.heap.size, 0, none⟩ = some (.int .u64 vh) := cell_of_row _ _ _ _ _ _ I1.out
  have I1_1 : V3.cell? ⟨V1.heap.size, 1, none⟩ = some (.int .u64 vl) := cell_of_row _ _ _ _ _ _ I1.out
  have L1_0 : V3.cell? ⟨V2.heap.size, 0, none⟩ = some (.int .u64 lh) := cell_of_row _ _ _ _ _ _ L1.out
  have L1_1 : V3.cell? ⟨V2.heap.size, 1, none⟩ = some (.int .u64 ll) := cell_of_row _ _ _ _ _ _ L1.out
  have zX1 := lt_of_heap X1.out
  have zU1 := lt_of_heap U1.out
  have zM1 := lt_of_heap M1.out
  have zI1 := lt_of_heap I1.out
  have zL1 := lt_of_heap L1.out
  go_simp
  go_wp2_with fail
  refine (H4.out _).mono ?_
  rintro e V4 ⟨rfl, hb4⟩
  clear X1_0 X1_1 zX1 U1_0 U1_1 zU1 M1_0 M1_1 zM1 I1_0 I1_1 zI1 L1_0 L1_1 zL1
  have nX1G1 := Lib.hid (lt_of_heap X1.out)
  have nU1G1 := Lib.hid (lt_of_heap U1.out)
  have nM1G1 := Lib.hid (lt_of_heap M1.out)
  have nI1G1 := Lib.hid (lt_of_heap I1.out)
  have nL1G1 := Lib.hid (lt_of_heap L1.out)
  have B4 := Lib.hid (((B3.out).alloc (B3.out.size) _).trans (hb4.mono (by have := B3.out.size; first | assumption | (simp <;> omega) | (simp; done))))
  replace X1 := Lib.hid (row_call hb4 (row_alloc X1.out _))
  replace U1 := Lib.hid (row_call hb4 (row_alloc U1.out _))
  replace M1 := Lib.hid (row_call hb4 (row_alloc M1.out _))
  replace I1 := Lib.hid (row_call hb4 (row_alloc I1.out _))
  replace L1 := Lib.hid (row_call hb4 (row_alloc L1.out _))
  have G1 := Lib.hid (row_call hb4 (heap_alloc_new _ _))
  clear hb4
  have X1_0 : V4.cell? ⟨w.heap.size, 0, none⟩ = some (.int .u64 xh) := cell_of_row _ _ _ _ _ _ X1.out
  have X1_1 : V4.cell? ⟨w.heap.size, 1, none⟩ = some (.int .u64 xl) := cell_of_row _ _ _ _ _ _ X1.out
  have U1_0 : V4.cell? ⟨w.heap.size + 1, 0, none⟩ = some (.int .u64 yh) := cell_of_row _ _ _ _ _ _ U1.out
  have U1_1 : V4.cell? ⟨w.heap.size + 1, 1, none⟩ = some (.int .u64 yl) := cell_of_row _ _ _ _ _ _ U1.out
  have M1_0 : V4.cell? ⟨w.heap.size + 1 + 1, 0, none⟩ = some (.int .i64 m0) := cell_of_row _ _ _ _ _ _ M1.out
  have M1_1 : V4.cell? ⟨w.heap.size + 1 + 1, 1, none⟩ = some (.int .i64 m1) := cell_of_row _ _ _ _ _ _ M1.out
  have I1_0 : V4.cell? ⟨V1.heap.size, 0, none⟩ = some (.int .u64 vh) := cell_of_row _ _ _ _ _ _ I1.out
  have I1_1 : V4.cell? ⟨V1.heap.size, 1, none⟩ = some (.int .u64 vl) := cell_of_row _ _ _ _ _ _ I1.out
  have L1_0 : V4.cell? ⟨V2.heap.size, 0, none⟩ = some (.int .u64 lh) := cell_of_row _ _ _ _ _ _ L1.out
  have L1_1 : V4.cell? ⟨V2.heap.size, 1, none⟩ = some (.int .u64 ll) := cell_of_row _ _ _ _ _ _ L1.out
  have G1_0 : V4.cell? ⟨V3.heap.size, 0, none⟩ = some (.int .u64 vh) := cell_of_row _ _ _ _ _ _ G1.out
  have G1_1 : V4.cell? ⟨V3.heap.size, 1, none⟩ = some (.int .u64 vl) := cell_of_row _ _ _ _ _ _ G1.out
  have zX1 := lt_of_heap X1.out
  have zU1 := lt_of_heap U1.out
  have zM1 := lt_of_heap M1.out
  have zI1 := lt_of_heap I1.out
  have zL1 := lt_of_heap L1.out
  have zG1 := lt_of_heap G1.out
  go_simp
  go_wp2_with fail
  refine (H5.out _).mono ?_
  rintro e V5 ⟨rfl, hb5⟩
  clear X1_0 X1_1 zX1 U1_0 U1_1 zU1 M1_0 M1_1 zM1 I1_0 I1_1 zI1 L1_0 L1_1 zL1 G1_0 G1_1 zG1
  have B5 : Hid (Below w.heap.size w V5) := by first | exact Lib.hid ((B4.out).trans (hb5.mono (by have := B4.out.size; first | assumption | (simp <;> omega) | (simp; done)))) | exact Lib.hid (((B4.out).alloc (B4.out.size) _).trans (hb5.mono (by have := B4.out.size; first | assumption | (simp <;> omega) | (simp; done)))) | exact Lib.hid ((((B4.out).alloc (B4.out.size) _).alloc (by have := B4.out.size; simp <;> omega) _).trans (hb5.mono (by have := B4.out.size; first | assumption | (simp <;> omega) | (simp; done)))) | exact Lib.hid (((((B4.out).alloc (B4.out.size) _).alloc (by have := B4.out.size; simp <;> omega) _).alloc (by have := B4.out.size; simp <;> omega) _).trans (hb5.mono (by have := B4.out.size; first | assumption | (simp <;> omega) | (simp; done))))
  first | replace X1 := Lib.hid (row_call hb5 X1.out) | replace X1 := Lib.hid (row_call hb5 (row_alloc X1.out _)) | replace X1 := Lib.hid (row_call hb5 (row_alloc (row_alloc X1.out _) _)) | replace X1 := Lib.hid (row_call hb5 (row_alloc (row_alloc (row_alloc X1.out _) _) _))
  first | replace U1 := Lib.hid (row_call hb5 U1.out) | replace U1 := Lib.hid (row_call hb5 (row_alloc U1.out _)) | replace U1 := Lib.hid (row_call hb5 (row_alloc (row_alloc U1.out _) _)) | replace U1 := Lib.hid (row_call hb5 (row_alloc (row_alloc (row_alloc U1.out _) _) _))
  first | replace M1 := Lib.hid (row_call hb5 M1.out) | replace M1 := Lib.hid (row_call hb5 (row_alloc M1.out _)) | replace M1 := Lib.hid (row_call hb5 (row_alloc (row_alloc M1.out _) _)) | replace M1 := Lib.hid (row_call hb5 (row_alloc (row_alloc (row_alloc M1.out _) _) _))
  first | replace I1 := Lib.hid (row_call hb5 I1.out) | replace I1 := Lib.hid (row_call hb5 (row_alloc I1.out _)) | replace I1 := Lib.hid (row_call hb5 (row_alloc (row_alloc I1.out _) _)) | replace I1 := Lib.hid (row_call hb5 (row_alloc (row_alloc (row_alloc I1.out _) _) _))
  first | replace L1 := Lib.hid (row_call hb5 L1.out) | replace L1 := Lib.hid (row_call hb5 (row_alloc L1.out _)) | replace L1 := Lib.hid (row_call hb5 (row_alloc (row_alloc L1.out _) _)) | replace L1 := Lib.hid (row_call hb5 (row_alloc (row_alloc (row_alloc L1.out _) _) _))
  first | replace G1 := Lib.hid (row_call hb5 G1.out) | replace G1 := Lib.hid (row_call hb5 (row_alloc G1.out _)) | replace G1 := Lib.hid (row_call hb5 (row_alloc (row_alloc G1.out _) _)) | replace G1 := Lib.hid (row_call hb5 (row_alloc (row_alloc (row_alloc G1.out _) _) _))
  clear hb5
  have X1_0 : V5.cell? ⟨w.heap.size, 0, none⟩ = some (.int .u64 xh) := cell_of_row _ _ _ _ _ _ X1.out
  have X1_1 : V5.cell? ⟨w.heap.size, 1, none⟩ = some (.int .u64 xl) := cell_of_row _ _ _ _ _ _ X1.out
  have U1_0 : V5.cell? ⟨w.heap.size + 1, 0, none⟩ = some (.int .u64 yh) := cell_of_row _ _ _ _ _ _ U1.out
  have U1_1 : V5.cell? ⟨w.heap.size + 1, 1, none⟩ = some (.int .u64 yl) := cell_of_row _ _ _ _ _ _ U1.out
  have M1_0 : V5.cell? ⟨w.heap.size + 1 + 1, 0, none⟩ = some (.int .i64 m0) := cell_of_row _ _ _ _ _ _ M1.out
  have M1_1 : V5.cell? ⟨w.heap.size + 1 + 1, 1, none⟩ = some (.int .i64 m1) := cell_of_row _ _ _ _ _ _ M1.out
  have I1_0 : V5.cell? ⟨V1.heap.size, 0, none⟩ = some (.int .u64 vh) := cell_of_row _ _ _ _ _ _ I1.out
  have I1_1 : V5.cell? ⟨V1.heap.size, 1, none⟩ = some (.int .u64 vl) := cell_of_row _ _ _ _ _ _ I1.out
  have L1_0 : V5.cell? ⟨V2.heap.size, 0, none⟩ = some (.int .u64 lh) := cell_of_row _ _ _ _ _ _ L1.out
  have L1_1 : V5.cell? ⟨V2.heap.size, 1, none⟩ = some (.int .u64 ll) := cell_of_row _ _ _ _ _ _ L1.out
  have G1_0 : V5.cell? ⟨V3.heap.size, 0, none⟩ = some (.int .u64 vh) := cell_of_row _ _ _ _ _ _ G1.out
  have G1_1 : V5.cell? ⟨V3.heap.size, 1, none⟩ = some (.int .u64 vl) := cell_of_row _ _ _ _ _ _ G1.out
  have zX1 := lt_of_heap X1.out
  have zU1 := lt_of_heap U1.out
  have zM1 := lt_of_heap M1.out
  have zI1 := lt_of_heap I1.out
  have zL1 := lt_of_heap L1.out
  have zG1 := lt_of_heap G1.out
  go_simp
  go_wp2_with fail
  refine (H7.out _).mono ?_
  rintro e V6 ⟨rfl, hb6⟩
  clear X1_0 X1_1 zX1 U1_0 U1_1 zU1 M1_0 M1_1 zM1 I1_0 I1_1 zI1 L1_0 L1_1 zL1 G1_0 G1_1 zG1
  have B6 : Hid (Below w.heap.size w V6) := by first | exact Lib.hid ((B5.out).trans (hb6.mono (by have := B5.out.size; first | assumption | (simp <;> omega) | (simp; done)))) | exact Lib.hid (((B5.out).alloc (B5.out.size) _).trans (hb6.mono (by have := B5.out.size; first | assumption | (simp <;> omega) | (simp; done)))) | exact Lib.hid ((((B5.out).alloc (B5.out.size) _).alloc (by have := B5.out.size; simp <;> omega) _).trans (hb6.mono (by have := B5.out.size; first | assumption | (simp <;> omega) | (simp; done)))) | exact Lib.hid (((((B5.out).alloc (B5.out.size) _).alloc (by have := B5.out.size; simp <;> omega) _).alloc (by have := B5.out.size; simp <;> omega) _).trans (hb6.mono (by have := B5.out.size; first | assumption | (simp <;> omega) | (simp; done))))
  first | replace X1 := Lib.hid (row_call hb6 X1.out) | replace X1 := Lib.hid (row_call hb6 (row_alloc X1.out _)) | replace X1 := Lib.hid (row_call hb6 (row_alloc (row_alloc X1.out _) _)) | replace X1 := Lib.hid (row_call hb6 (row_alloc (row_alloc (row_alloc X1.out _) _) _))
  first | replace U1 := Lib.hid (row_call hb6 U1.out) | replace U1 := Lib.hid (row_call hb6 (row_alloc U1.out _)) | replace U1 := Lib.hid (row_call hb6 (row_alloc (row_alloc U1.out _) _)) | replace U1 := Lib.hid (row_call hb6 (row_alloc (row_alloc (row_alloc U1.out _) _) _))
  first | replace M1 := Lib.hid (row_call hb6 M1.out) | replace M1 := Lib.hid (row_call hb6 (row_alloc M1.out _)) | replace M1 := Lib.hid (row_call hb6 (row_alloc (row_alloc M1.out _) _)) | replace M1 := Lib.hid (row_call hb6 (row_alloc (row_alloc (row_alloc M1.out _) _) _))
  first | replace I1 := Lib.hid (row_call hb6 I1.out) | replace I1 := Lib.hid (row_call hb6 (row_alloc I1.out _)) | replace I1 := Lib.hid (row_call hb6 (row_alloc (row_alloc I1.out _) _)) | replace I1 := Lib.hid (row_call hb6 (row_alloc (row_alloc (row_alloc I1.out _) _) _))
  first | replace L1 := Lib.hid (row_call hb6 L1.out) | replace L1 := Lib.hid (row_call hb6 (row_alloc L1.out _)) | replace L1 := Lib.hid (row_call hb6 (row_alloc (row_alloc L1.out _) _)) | replace L1 := Lib.hid (row_call hb6 (row_alloc (row_alloc (row_alloc L1.out _) _) _))
  first | replace G1 := Lib.hid (row_call hb6 G1.out) | replace G1 := Lib.hid (row_call hb6 (row_alloc G1.out _)) | replace G1 := Lib.hid (row_call hb6 (row_alloc (row_alloc G1.out _) _)) | replace G1 := Lib.hid (row_call hb6 (row_alloc (row_alloc (row_alloc G1.out _) _) _))
  clear hb6
  have X1_0 : V6.cell? ⟨w.heap.size, 0, none⟩ = some (.int .u64 xh) := cell_of_row _ _ _ _ _ _ X1.out
  have X1_1 : V6.cell? ⟨w.heap.size, 1, none⟩ = some (.int .u64 xl) := cell_of_row _ _ _ _ _ _ X1.out
  have U1_0 : V6.cell? ⟨w.heap.size + 1, 0, none⟩ = some (.int .u64 yh) := cell_of_row _ _ _ _ _ _ U1.out
  have U1_1 : V6.cell? ⟨w.heap.size + 1, 1, none⟩ = some (.int .u64 yl) := cell_of_row _ _ _ _ _ _ U1.out
  have M1_0 : V6.cell? ⟨w.heap.size + 1 + 1, 0, none⟩ = some (.int .i64 m0) := cell_of_row _ _ _ _ _ _ M1.out
  have M1_1 : V6.cell? ⟨w.heap.size + 1 + 1, 1, none⟩ = some (.int .i64 m1) := cell_of_row _ _ _ _ _ _ M1.out
  have I1_0 : V6.cell? ⟨V1.heap.size, 0, none⟩ = some (.int .u64 vh) := cell_of_row _ _ _ _ _ _ I1.out
  have I1_1 : V6.cell? ⟨V1.heap.size, 1, none⟩ = some (.int .u64 vl) := cell_of_row _ _ _ _ _ _ I1.out
  have L1_0 : V6.cell? ⟨V2.heap.size, 0, none⟩ = some (.int .u64 lh) := cell_of_row _ _ _ _ _ _ L1.out
  have L1_1 : V6.cell? ⟨V2.heap.size, 1, none⟩ = some (.int .u64 ll) := cell_of_row _ _ _ _ _ _ L1.out
  have G1_0 : V6.cell? ⟨V3.heap.size, 0, none⟩ = some (.int .u64 vh) := cell_of_row _ _ _ _ _ _ G1.out
  have G1_1 : V6.cell? ⟨V3.heap.size, 1, none⟩ = some (.int .u64 vl) := cell_of_row _ _ _ _ _ _ G1.out
  have zX1 := lt_of_heap X1.out
  have zU1 := lt_of_heap U1.out
  have zM1 := lt_of_heap M1.out
  have zI1 := lt_of_heap I1.out
  have zL1 := lt_of_heap L1.out
  have zG1 := lt_of_heap G1.out
  go_simp
  go_wp2_with fail
  refine (H8.out _).mono ?_
  rintro e V7 ⟨rfl, hb7⟩
  clear X1_0 X1_1 zX1 U1_0 U1_1 zU1 M1_0 M1_1 zM1 I1_0 I1_1 zI1 L1_0 L1_1 zL1 G1_0 G1_1 zG1
  have nX1B1 := Lib.hid (lt_of_heap X1.out)
  have nU1B1 := Lib.hid (lt_of_heap U1.out)
  have nM1B1 := Lib.hid (lt_of_heap M1.out)
  have nI1B1 := Lib.hid (lt_of_heap I1.out)
  have nL1B1 := Lib.hid (lt_of_heap L1.out)
  have nG1B1 := Lib.hid (lt_of_heap G1.out)
  have B7 := Lib.hid (((B6.out).alloc (B6.out.size) _).trans (hb7.mono (by have := B6.out.size; first | assumption | (simp <;> omega) | (simp; done))))
  replace X1 := Lib.hid (row_call hb7 (row_alloc X1.out _))
  replace U1 := Lib.hid (row_call hb7 (row_alloc U1.out _))
  replace M1 := Lib.hid (row_call hb7 (row_alloc M1.out _))
  replace I1 := Lib.hid (row_call hb7 (row_alloc I1.out _))
  replace L1 := Lib.hid (row_call hb7 (row_alloc L1.out _))
  replace G1 := Lib.hid (row_call hb7 (row_alloc G1.out _))
  have B1 := Lib.hid (row_call hb7 (heap_alloc_new _ _))
  clear hb7
  have X1_0 : V7.cell? ⟨w.heap.size, 0, none⟩ = some (.int .u64 xh) := cell_of_row _ _ _ _ _ _ X1.out
  have X1_1 : V7.cell? ⟨w.heap.size, 1, none⟩ = some (.int .u64 xl) := cell_of_row _ _ _ _ _ _ X1.out
  have U1_0 : V7.cell? ⟨w.heap.size + 1, 0, none⟩ = some (.int .u64 yh) := cell_of_row _ _ _ _ _ _ U1.out
  have U1_1 : V7.cell? ⟨w.heap.size + 1, 1, none⟩ = some (.int .u64 yl) := cell_of_row _ _ _ _ _ _ U1.out
  have M1_0 : V7.cell? ⟨w.heap.size + 1 + 1, 0, none⟩ = some (.int .i64 m0) := cell_of_row _ _ _ _ _ _ M1.out
  have M1_1 : V7.cell? ⟨w.heap.size + 1 + 1, 1, none⟩ = some (.int .i64 m1) := cell_of_row _ _ _ _ _ _ M1.out
  have I1_0 : V7.cell? ⟨V1.heap.size, 0, none⟩ = some (.int .u64 vh) := cell_of_row _ _ _ _ _ _ I1.out
  have I1_1 : V7.cell? ⟨V1.heap.size, 1, none⟩ = some (.int .u64 vl) := cell_of_row _ _ _ _ _ _ I1.out
  have L1_0 : V7.cell? ⟨V2.heap.size, 0, none⟩ = some (.int .u64 lh) := cell_of_row _ _ _ _ _ _ L1.out
  have L1_1 : V7.cell? ⟨V2.heap.size, 1, none⟩ = some (.int .u64 ll) := cell_of_row _ _ _ _ _ _ L1.out
  have G1_0 : V7.cell? ⟨V3.heap.size, 0, none⟩ = some (.int .u64 vh) := cell_of_row _ _ _ _ _ _ G1.out
  have G1_1 : V7.cell? ⟨V3.heap.size, 1, none⟩ = some (.int .u64 vl) := cell_of_row _ _ _ _ _ _ G1.out
  have B1_0 : V7.cell? ⟨V6.heap.size, 0, none⟩ = some (.int .u64 0) := cell_of_row _ _ _ _ _ _ B1.out
  have B1_1 : V7.cell? ⟨V6.heap.size, 1, none⟩ = some (.int .u64 0) := cell_of_row _ _ _ _ _ _ B1.out
  have zX1 := lt_of_heap X1.out
  have zU1 := lt_of_heap U1.out
  have zM1 := lt_of_heap M1.out
  have zI1 := lt_of_heap I1.out
  have zL1 := lt_of_heap L1.out
  have zG1 := lt_of_heap G1.out
  have zB1 := lt_of_heap B1.out
  go_simp
  go_wp2_with fail
  refine (HK.out _).mono ?_
  rintro e V8 ⟨rfl, hb8⟩
  clear X1_0 X1_1 zX1 U1_0 U1_1 zU1 M1_0 M1_1 zM1 I1_0 I1_1 zI1 L1_0 L1_1 zL1 G1_0 G1_1 zG1 B1_0 B1_1 zB1
  have nX1C1 := Lib.hid (lt_of_heap X1.out)
  have nU1C1 := Lib.hid (lt_of_heap U1.out)
  have nM1C1 := Lib.hid (lt_of_heap M1.out)
  have nI1C1 := Lib.hid (lt_of_heap I1.out)
  have nL1C1 := Lib.hid (lt_of_heap L1.out)
  have nG1C1 := Lib.hid (lt_of_heap G1.out)
  have nB1C1 := Lib.hid (lt_of_heap B1.out)
  have B8 := Lib.hid (((B7.out).alloc (B7.out.size) _).trans (hb8.mono (by have := B7.out.size; first | assumption | (simp <;> omega) | (simp; done))))
  replace X1 := Lib.hid (row_call hb8 (row_alloc X1.out _))
  replace U1 := Lib.hid (row_call hb8 (row_alloc U1.out _))
  replace M1 := Lib.hid (row_call hb8 (row_alloc M1.out _))
  replace I1 := Lib.hid (row_call hb8 (row_alloc I1.out _))
  replace L1 := Lib.hid (row_call hb8 (row_alloc L1.out _))
  replace G1 := Lib.hid (row_call hb8 (row_alloc G1.out _))
  replace B1 := Lib.hid (row_call hb8 (row_alloc B1.out _))
  have C1 := Lib.hid (row_call hb8 (heap_alloc_new _ _))
  clear hb8
  have X1_0 : V8.cell? ⟨w.heap.size, 0, none⟩ = some (.int .u64 xh) := cell_of_row _ _ _ _ _ _ X1.out
  have X1_1 : V8.cell? ⟨w.heap.size, 1, none⟩ = some (.int .u64 xl) := cell_of_row _ _ _ _ _ _ X1.out
  have U1_0 : V8.cell? ⟨w.heap.size + 1, 0, none⟩ = some (.int .u64 yh) := cell_of_row _ _ _ _ _ _ U1.out
  have U1_1 : V8.cell? ⟨w.heap.size + 1, 1, none⟩ = some (.int .u64 yl) := cell_of_row _ _ _ _ _ _ U1.out
  have M1_0 : V8.cell? ⟨w.heap.size + 1 + 1, 0, none⟩ = some (.int .i64 m0) := cell_of_row _ _ _ _ _ _ M1.out
  have M1_1 : V8.cell? ⟨w.heap.size + 1 + 1, 1, none⟩ = some (.int .i64 m1) := cell_of_row _ _ _ _ _ _ M1.out
  have I1_0 : V8.cell? ⟨V1.heap.size, 0, none⟩ = some (.int .u64 vh) := cell_of_row _ _ _ _ _ _ I1.out
  have I1_1 : V8.cell? ⟨V1.heap.size, 1, none⟩ = some (.int .u64 vl) := cell_of_row _ _ _ _ _ _ I1.out
  have L1_0 : V8.cell? ⟨V2.heap.size, 0, none⟩ = some (.int .u64 lh) := cell_of_row _ _ _ _ _ _ L1.out
  have L1_1 : V8.cell? ⟨V2.heap.size, 1, none⟩ = some (.int .u64 ll) := cell_of_row _ _ _ _ _ _ L1.out
  have G1_0 : V8.cell? ⟨V3.heap.size, 0, none⟩ = some (.int .u64 vh) := cell_of_row _ _ _ _ _ _ G1.out
  have G1_1 : V8.cell? ⟨V3.heap.size, 1, none⟩ = some (.int .u64 vl) := cell_of_row _ _ _ _ _ _ G1.out
  have B1_0 : V8.cell? ⟨V6.heap.size, 0, none⟩ = some (.int .u64 0) := cell_of_row _ _ _ _ _ _ B1.out
  have B1_1 : V8.cell? ⟨V6.heap.size, 1, none⟩ = some (.int .u64 0) := cell_of_row _ _ _ _ _ _ B1.out
  have C1_0 : V8.cell? ⟨V7.heap.size, 0, none⟩ = some (.int .u64 0) := cell_of_row _ _ _ _ _ _ C1.out
  have C1_1 : V8.cell? ⟨V7.heap.size, 1, none⟩ = some (.int .u64 0) := cell_of_row _ _ _ _ _ _ C1.out
  have zX1 := lt_of_heap X1.out
  have zU1 := lt_of_heap U1.out
  have zM1 := lt_of_heap M1.out
  have zI1 := lt_of_heap I1.out
  have zL1 := lt_of_heap L1.out
  have zG1 := lt_of_heap G1.out
  have zB1 := lt_of_heap B1.out
  have zC1 := lt_of_heap C1.out
  go_simp
  go_wp2
  go_ret
  exact ⟨rfl, by first | exact B8.out | exact B8.out.alloc B8.out.size _⟩
set_option maxHeartbeats 6400000 in
set_option maxRecDepth 100000 in
theorem again_b0 (xh xl yh yl vh vl lh ll : Nat) (m0 m1 c1 c2 E F G : Int) (w : World) (g1 : decide (0 < c1) = false) (g2 : decide (c2 < 0) = false) (hz : ¬ vh = lh)
    (H1 : Hid (∀ w, Calls Try.prog 8 #[.agg #[.int .u64 xh, .int .u64 xl], .agg #[.int .u64 yh, .int .u64 yl], .int .i64 m0] w fun e w' => e = .returned (.tuple #[.agg #[.int .u64 vh, .int .u64 vl], .int .i64 0]) ∧ Below w.heap.size w w'))
    (H2 : Hid (∀ w, Calls Try.prog 8 #[.agg #[.int .u64 xh, .int .u64 xl], .agg #[.int .u64 yh, .int .u64 yl], .int .i64 0] w fun e w' => e = .returned (.tuple #[.agg #[.int .u64 lh, .int .u64 ll], .int .i64 0]) ∧ Below w.heap.size w w'))
    (H3 : Hid (∀ w, Calls Try.prog 8 #[.agg #[.int .u64 xh, .int .u64 xl], .agg #[.int .u64 yh, .int .u64 yl], .int .i64 1] w fun e w' => e = .returned (.tuple #[.agg #[.int .u64 vh, .int .u64 vl], .int .i64 0]) ∧ Below w.heap.size w w'))
    (H4 : Hid (∀ w, Calls Try.prog 15 #[.agg #[.int .u64 lh, .int .u64 ll], .agg #[.int .u64 xh, .int .u64 xl]] w fun e w' => e = .returned (.int .i64 c1) ∧ Below w.heap.size w w'))
    (H5 : Hid (∀ w, Calls Try.prog 15 #[.agg #[.int .u64 vh, .int .u64 vl], .agg #[.int .u64 xh, .int .u64 xl]] w fun e w' => e = .returned (.int .i64 c2) ∧ Below w.heap.size w w'))
    (H7 : Hid (∀ w, Calls Try.prog 8 #[.agg #[.int .u64 vh, .int .u64 vl], .agg #[.int .u64 yh, .int .u64 yl], .int .i64 m1] w fun e w' => e = .returned (.tuple #[.agg #[.int .u64 vh, .int .u64 vl], .int .i64 0]) ∧ Below w.heap.size w w'))
    (HK : Hid (∀ w, Calls Try.prog 10 #[] w fun e w' => e = .returned (.bool true) ∧ Below w.heap.size w w'))
    : Calls Try.prog 6 #[.agg #[.int .u64 xh, .int .u64 xl], .agg #[.int .u64 yh, .int .u64 yl], .agg #[.int .i64 m0, .int .i64 m1]] w fun e w' => e = .returned (.bool true) ∧ Below w.heap.size w w' := by
  go_enter Try.func6, Try.ntmps6
  go_wp2_with fail
  
  refine (H1.out _).mono ?_
  rintro e V1 ⟨rfl, hb1⟩
  have B1 := Lib.hid (((((Below.refl w.heap.size w).alloc (Nat.le_refl _) _).alloc (by simp <;> omega) _).alloc (by simp <;> omega) _).trans (hb1.mono (by first | assumption | (simp <;> omega) | (simp; done))))
  have X1 := Lib.hid (row_call hb1 (row_alloc (row_alloc (heap_alloc_new _ _) _) _))
  have U1 := Lib.hid (row_at (k' := w.heap.size + 1) (by simp) (row_call hb1 (row_alloc (heap_alloc_new _ _) _)))
  have M1 := Lib.hid (row_at (k' := w.heap.size + 1 + 1) (by simp) (row_call hb1 (heap_alloc_new _ _)))
  clear hb1
  have X1_0 : V1.cell? ⟨w.heap.size, 0, none⟩ = some (.int .u64 xh) := cell_of_row _ _ _ _ _ _ X1.out
  have X1_1 : V1.cell? ⟨w.heap.size, 1, none⟩ = some (.int .u64 xl) := cell_of_row _ _ _ _ _ _ X1.out
  have U1_0 : V1.cell? ⟨w.heap.size + 1, 0, none⟩ = some (.int .u64 yh) := cell_of_row _ _ _ _ _ _ U1.out
  have U1_1 : V1.cell? ⟨w.heap.size + 1, 1, none⟩ = some (.int .u64 yl) := cell_of_row _ _ _ _ _ _ U1.out
  have M1_0 : V1.cell? ⟨w.heap.size + 1 + 1, 0, none⟩ = some (.int .i64 m0) := cell_of_row _ _ _ _ _ _ M1.out
  have M1_1 : V1.cell? ⟨w.heap.size + 1 + 1, 1, none⟩ = some (.int .i64 m1) := cell_of_row _ _ _ _ _ _ M1.out
  have zX1 := lt_of_heap X1.out
  have zU1 := lt_of_heap U1.out
  have zM1 := lt_of_heap M1.out
  go_simp
  go_wp2_with fail
  refine (H2.out _).mono ?_
  rintro e V2 ⟨rfl, hb2⟩
  clear X1_0 X1_1 zX1 U1_0 U1_1 zU1 M1_0 M1_1 zM1
  have nX1I1 := Lib.hid (lt_of_heap X1.out)
  have nU1I1 := Lib.hid (lt_of_heap U1.out)
  have nM1I1 := Lib.hid (lt_of_heap M1.out)
  have B2 := Lib.hid (((B1.out).alloc (B1.out.size) _).trans (hb2.mono (by have := B1.out.size; first | assumption | (simp <;> omega) | (simp; done))))
  replace X1 := Lib.hid (row_call hb2 (row_alloc X1.out _))
  replace U1 := Lib.hid (row_call hb2 (row_alloc U1.out _))
  replace M1 := Lib.hid (row_call hb2 (row_alloc M1.out _))
  have I1 := Lib.hid (row_call hb2 (heap_alloc_new _ _))
  clear hb2
  have X1_0 : V2.cell? ⟨w.heap.size, 0, none⟩ = some (.int .u64 xh) := cell_of_row _ _ _ _ _ _ X1.out
  have X1_1 : V2.cell? ⟨w.heap.size, 1, none⟩ = some (.int .u64 xl) := cell_of_row _ _ _ _ _ _ X1.out
  have U1_0 : V2.cell? ⟨w.heap.size + 1, 0, none⟩ = some (.int .u64 yh) := cell_of_row _ _ _ _ _ _ U1.out
  have U1_1 : V2.cell? ⟨w.heap.size + 1, 1, none⟩ = some (.int .u64 yl) := cell_of_row _ _ _ _ _ _ U1.out
  have M1_0 : V2.cell? ⟨w.heap.size + 1 + 1, 0, none⟩ = some (.int .i64 m0) := cell_of_row _ _ _ _ _ _ M1.out
  have M1_1 : V2.cell? ⟨w.heap.size + 1 + 1, 1, none⟩ = some (.int .i64 m1) := cell_of_row _ _ _ _ _ _ M1.out
  have I1_0 : V2.cell? ⟨V1.heap.size, 0, none⟩ = some (.int .u64 vh) := cell_of_row _ _ _ _ _ _ I1.out
  have I1_1 : V2.cell? ⟨V1.heap.size, 1, none⟩ = some (.int .u64 vl) := cell_of_row _ _ _ _ _ _ I1.out
  have zX1 := lt_of_heap X1.out
  have zU1 := lt_of_heap U1.out
  have zM1 := lt_of_heap M1.out
  have zI1 := lt_of_heap I1.out
  go_simp
  go_wp2_with fail
  refine (H3.out _).mono ?_
  rintro e V3 ⟨rfl, hb3⟩
  clear X1_0 X1_1 zX1 U1_0 U1_1 zU1 M1_0 M1_1 zM1 I1_0 I1_1 zI1
  have nX1L1 := Lib.hid (lt_of_heap X1.out)
  have nU1L1 := Lib.hid (lt_of_heap U1.out)
  have nM1L1 := Lib.hid (lt_of_heap M1.out)
  have nI1L1 := Lib.hid (lt_of_heap I1.out)
  have B3 := Lib.hid (((B2.out).alloc (B2.out.size) _).trans (hb3.mono (by have := B2.out.size; first | assumption | (simp <;> omega) | (simp; done))))
  replace X1 := Lib.hid (row_call hb3 (row_alloc X1.out _))
  replace U1 := Lib.hid (row_call hb3 (row_alloc U1.out _))
  replace M1 := Lib.hid (row_call hb3 (row_alloc M1.out _))
  replace I1 := Lib.hid (row_call hb3 (row_alloc I1.out _))
  have L1 := Lib.hid (row_call hb3 (heap_alloc_new _ _))
  clear hb3
  have X1_0 : V3.cell? ⟨w.heap.size, 0, none⟩ = some (.int .u64 xh) := cell_of_row _ _ _ _ _ _ X1.out
  have X1_1 : V3.cell? ⟨w.heap.size, 1, none⟩ = some (.int .u64 xl) := cell_of_row _ _ _ _ _ _ X1.out
  have U1_0 : V3.cell? ⟨w.heap.size + 1, 0, none⟩ = some (.int .u64 yh) := cell_of_row _ _ _ _ _ _ U1.out
  have U1_1 : V3.cell? ⟨w.heap.size + 1, 1, none⟩ = some (.int .u64 yl) := cell_of_row _ _ _ _ _ _ U1.out
  have M1_0 : V3.cell? ⟨w.heap.size + 1 + 1, 0, none⟩ = some (.int .i64 m0) := cell_of_row _ _ _ _ _ _ M1.out
  have M1_1 : V3.cell? ⟨w.heap.size + 1 + 1, 1, none⟩ = some (.int .i64 m1) := cell_of_row _ _ _ _ _ _ M1.out
  have I1_0 : V3.cell? ⟨V1.heap.size, 0, none⟩ = some (.int .u64 vh) := cell_of_row _ _ _ _ _ _ I1.out
  have I1_1 : V3.cell? ⟨V1.heap.size, 1, none⟩ = some (.int .u64 vl) := cell_of_row _ _ _ _ _ _ I1.out
  have L1_0 : V3.cell? ⟨V2.heap.size, 0, none⟩ = some (.int .u64 lh) := cell_of_row _ _ _ _ _ _ L1.out
  have L1_1 : V3.cell? ⟨V2.heap.size, 1, none⟩ = some (.int .u64 ll) := cell_of_row _ _ _ _ _ _ L1.out
  have zX1 := lt_of_heap X1.out
  have zU1 := lt_of_heap U1.out
  have zM1 := lt_of_heap M1.out
  have zI1 := lt_of_heap I1.out
  have zL1 := lt_of_heap L1.out
  go_simp
  go_wp2_with fail
  refine (H4.out _).mono ?_
  rintro e V4 ⟨rfl, hb4⟩
  clear X1_0 X1_1 zX1 U1_0 U1_1 zU1 M1_0 M1_1 zM1 I1_0 I1_1 zI1 L1_0 L1_1 zL1
  have nX1G1 := Lib.hid (lt_of_heap X1.out)
  have nU1G1 := Lib.hid (lt_of_heap U1.out)
  have nM1G1 := Lib.hid (lt_of_heap M1.out)
  have nI1G1 := Lib.hid (lt_of_heap I1.out)
  have nL1G1 := Lib.hid (lt_of_heap L1.out)
  have B4 := Lib.hid (((B3.out).alloc (B3.out.size) _).trans (hb4.mono (by have := B3.out.size; first | assumption | (simp <;> omega) | (simp; done))))
  replace X1 := Lib.hid (row_call hb4 (row_alloc X1.out _))
  replace U1 := Lib.hid (row_call hb4 (row_alloc U1.out _))
  replace M1 := Lib.hid (row_call hb4 (row_alloc M1.out _))
  replace I1 := Lib.hid (row_call hb4 (row_alloc I1.out _))
  replace L1 := Lib.hid (row_call hb4 (row_alloc L1.out _))
  have G1 := Lib.hid (row_call hb4 (heap_alloc_new _ _))
  clear hb4
  have X1_0 : V4.cell? ⟨w.heap.size, 0, none⟩ = some (.int .u64 xh) := cell_of_row _ _ _ _ _ _ X1.out
  have X1_1 : V4.cell? ⟨w.heap.size, 1, none⟩ = some (.int .u64 xl) := cell_of_row _ _ _ _ _ _ X1.out
  have U1_0 : V4.cell? ⟨w.heap.size + 1, 0, none⟩ = some (.int .u64 yh) := cell_of_row _ _ _ _ _ _ U1.out
  have U1_1 : V4.cell? ⟨w.heap.size + 1, 1, none⟩ = some (.int .u64 yl) := cell_of_row _ _ _ _ _ _ U1.out
  have M1_0 : V4.cell? ⟨w.heap.size + 1 + 1, 0, none⟩ = some (.int .i64 m0) := cell_of_row _ _ _ _ _ _ M1.out
  have M1_1 : V4.cell? ⟨w.heap.size + 1 + 1, 1, none⟩ = some (.int .i64 m1) := cell_of_row _ _ _ _ _ _ M1.out
  have I1_0 : V4.cell? ⟨V1.heap.size, 0, none⟩ = some (.int .u64 vh) := cell_of_row _ _ _ _ _ _ I1.out
  have I1_1 : V4.cell? ⟨V1.heap.size, 1, none⟩ = some (.int .u64 vl) := cell_of_row _ _ _ _ _ _ I1.out
  have L1_0 : V4.cell? ⟨V2.heap.size, 0, none⟩ = some (.int .u64 lh) := cell_of_row _ _ _ _ _ _ L1.out
  have L1_1 : V4.cell? ⟨V2.heap.size, 1, none⟩ = some (.int .u64 ll) := cell_of_row _ _ _ _ _ _ L1.out
  have G1_0 : V4.cell? ⟨V3.heap.size, 0, none⟩ = some (.int .u64 vh) := cell_of_row _ _ _ _ _ _ G1.out
  have G1_1 : V4.cell? ⟨V3.heap.size, 1, none⟩ = some (.int .u64 vl) := cell_of_row _ _ _ _ _ _ G1.out
  have zX1 := lt_of_heap X1.out
  have zU1 := lt_of_heap U1.out
  have zM1 := lt_of_heap M1.out
  have zI1 := lt_of_heap I1.out
  have zL1 := lt_of_heap L1.out
  have zG1 := lt_of_heap G1.out
  go_simp
  go_wp2_with fail
  refine (H5.out _).mono ?_
  rintro e V5 ⟨rfl, hb5⟩
  clear X1_0 X1_1 zX1 U1_0 U1_1 zU1 M1_0 M1_1 zM1 I1_0 I1_1 zI1 L1_0 L1_1 zL1 G1_0 G1_1 zG1
  have B5 : Hid (Below w.heap.size w V5) := by first | exact Lib.hid ((B4.out).trans (hb5.mono (by have := B4.out.size; first | assumption | (simp <;> omega) | (simp; done)))) | exact Lib.hid (((B4.out).alloc (B4.out.size) _).trans (hb5.mono (by have := B4.out.size; first | assumption | (simp <;> omega) | (simp; done)))) | exact Lib.hid ((((B4.out).alloc (B4.out.size) _).alloc (by have := B4.out.size; simp <;> omega) _).trans (hb5.mono (by have := B4.out.size; first | assumption | (simp <;> omega) | (simp; done)))) | exact Lib.hid (((((B4.out).alloc (B4.out.size) _).alloc (by have := B4.out.size; simp <;> omega) _).alloc (by have := B4.out.size; simp <;> omega) _).trans (hb5.mono (by have := B4.out.size; first | assumption | (simp <;> omega) | (simp; done))))
  first | replace X1 := Lib.hid (row_call hb5 X1.out) | replace X1 := Lib.hid (row_call hb5 (row_alloc X1.out _)) | replace X1 := Lib.hid (row_call hb5 (row_alloc (row_alloc X1.out _) _)) | replace X1 := Lib.hid (row_call hb5 (row_alloc (row_alloc (row_alloc X1.out _) _) _))
  first | replace U1 := Lib.hid (row_call hb5 U1.out) | replace U1 := Lib.hid (row_call hb5 (row_alloc U1.out _)) | replace U1 := Lib.hid (row_call hb5 (row_alloc (row_alloc U1.out _) _)) | replace U1 := Lib.hid (row_call hb5 (row_alloc (row_alloc (row_alloc U1.out _) _) _))
  first | replace M1 := Lib.hid (row_call hb5 M1.out) | replace M1 := Lib.hid (row_call hb5 (row_alloc M1.out _)) | replace M1 := Lib.hid (row_call hb5 (row_alloc (row_alloc M1.out _) _)) | replace M1 := Lib.hid (row_call hb5 (row_alloc (row_alloc (row_alloc M1.out _) _) _))
  first | replace I1 := Lib.hid (row_call hb5 I1.out) | replace I1 := Lib.hid (row_call hb5 (row_alloc I1.out _)) | replace I1 := Lib.hid (row_call hb5 (row_alloc (row_alloc I1.out _) _)) | replace I1 := Lib.hid (row_call hb5 (row_alloc (row_alloc (row_alloc I1.out _) _) _))
  first | replace L1 := Lib.hid (row_call hb5 L1.out) | replace L1 := Lib.hid (row_call hb5 (row_alloc L1.out _)) | replace L1 := Lib.hid (row_call hb5 (row_alloc (row_alloc L1.out _) _)) | replace L1 := Lib.hid (row_call hb5 (row_alloc (row_alloc (row_alloc L1.out _) _) _))
  first | replace G1 := Lib.hid (row_call hb5 G1.out) | replace G1 := Lib.hid (row_call hb5 (row_alloc G1.out _)) | replace G1 := Lib.hid (row_call hb5 (row_alloc (row_alloc G1.out _) _)) | replace G1 := Lib.hid (row_call hb5 (row_alloc (row_alloc (row_alloc G1.out _) _) _))
  clear hb5
  have X1_0 : V5.cell? ⟨w.heap.size, 0, none⟩ = some (.int .u64 xh) := cell_of_row _ _ _ _ _ _ X1.out
  have X1_1 : V5.cell? ⟨w.heap.size, 1, none⟩ = some (.int .u64 xl) := cell_of_row _ _ _ _ _ _ X1.out
  have U1_0 : V5.cell? ⟨w.heap.size + 1, 0, none⟩ = some (.int .u64 yh) := cell_of_row _ _ _ _ _ _ U1.out
  have U1_1 : V5.cell? ⟨w.heap.size + 1, 1, none⟩ = some (.int .u64 yl) := cell_of_row _ _ _ _ _ _ U1.out
  have M1_0 : V5.cell? ⟨w.heap.size + 1 + 1, 0, none⟩ = some (.int .i64 m0) := cell_of_row _ _ _ _ _ _ M1.out
  have M1_1 : V5.cell? ⟨w.heap.size + 1 + 1, 1, none⟩ = some (.int .i64 m1) := cell_of_row _ _ _ _ _ _ M1.out
  have I1_0 : V5.cell? ⟨V1.heap.size, 0, none⟩ = some (.int .u64 vh) := cell_of_row _ _ _ _ _ _ I1.out
  have I1_1 : V5.cell? ⟨V1.heap.size, 1, none⟩ = some (.int .u64 vl) := cell_of_row _ _ _ _ _ _ I1.out
  have L1_0 : V5.cell? ⟨V2.heap.size, 0, none⟩ = some (.int .u64 lh) := cell_of_row _ _ _ _ _ _ L1.out
  have L1_1 : V5.cell? ⟨V2.heap.size, 1, none⟩ = some (.int .u64 ll) := cell_of_row _ _ _ _ _ _ L1.out
  have G1_0 : V5.cell? ⟨V3.heap.size, 0, none⟩ = some (.int .u64 vh) := cell_of_row _ _ _ _ _ _ G1.out
  have G1_1 : V5.cell? ⟨V3.heap.size, 1, none⟩ = some (.int .u64 vl) := cell_of_row _ _ _ _ _ _ G1.out
  have zX1 := lt_of_heap X1.out
  have zU1 := lt_of_heap U1.out
  have zM1 := lt_of_heap M1.out
  have zI1 := lt_of_heap I1.out
  have zL1 := lt_of_heap L1.out
  have zG1 := lt_of_heap G1.out
  go_simp
  go_wp2_with fail
  refine (H7.out _).mono ?_
  rintro e V6 ⟨rfl, hb6⟩
  clear X1_0 X1_1 zX1 U1_0 U1_1 zU1 M1_0 M1_1 zM1 I1_0 I1_1 zI1 L1_0 L1_1 zL1 G1_0 G1_1 zG1
  have B6 : Hid (Below w.heap.size w V6) := by first | exact Lib.hid ((B5.out).trans (hb6.mono (by have := B5.out.size; first | assumption | (simp <;> omega) | (simp; done)))) | exact Lib.hid (((B5.out).alloc (B5.out.size) _).trans (hb6.mono (by have := B5.out.size; first | assumption | (simp <;> omega) | (simp; done)))) | exact Lib.hid ((((B5.out).alloc (B5.out.size) _).alloc (by have := B5.out.size; simp <;> omega) _).trans (hb6.mono (by have := B5.out.size; first | assumption | (simp <;> omega) | (simp; done)))) | exact Lib.hid (((((B5.out).alloc (B5.out.size) _).alloc (by have := B5.out.size; simp <;> omega) _).alloc (by have := B5.out.size; simp <;> omega) _).trans (hb6.mono (by have := B5.out.size; first | assumption | (simp <;> omega) | (simp; done))))
  first | replace X1 := Lib.hid (row_call hb6 X1.out) | replace X1 := Lib.hid (row_call hb6 (row_alloc X1.out _)) | replace X1 := Lib.hid (row_call hb6 (row_alloc (row_alloc X1.out _) _)) | replace X1 := Lib.hid (row_call hb6 (row_alloc (row_alloc (row_alloc X1.out _) _) _))
  first | replace U1 := Lib.hid (row_call hb6 U1.out) | replace U1 := Lib.hid (row_call hb6 (row_alloc U1.out _)) | replace U1 := Lib.hid (row_call hb6 (row_alloc (row_alloc U1.out _) _)) | replace U1 := Lib.hid (row_call hb6 (row_alloc (row_alloc (row_alloc U1.out _) _) _))
  first | replace M1 := Lib.hid (row_call hb6 M1.out) | replace M1 := Lib.hid (row_call hb6 (row_alloc M1.out _)) | replace M1 := Lib.hid (row_call hb6 (row_alloc (row_alloc M1.out _) _)) | replace M1 := Lib.hid (row_call hb6 (row_alloc (row_alloc (row_alloc M1.out _) _) _))
  first | replace I1 := Lib.hid (row_call hb6 I1.out) | replace I1 := Lib.hid (row_call hb6 (row_alloc I1.out _)) | replace I1 := Lib.hid (row_call hb6 (row_alloc (row_alloc I1.out _) _)) | replace I1 := Lib.hid (row_call hb6 (row_alloc (row_alloc (row_alloc I1.out _) _) _))
  first | replace L1 := Lib.hid (row_call hb6 L1.out) | replace L1 := Lib.hid (row_call hb6 (row_alloc L1.out _)) | replace L1 := Lib.hid (row_call hb6 (row_alloc (row_alloc L1.out _) _)) | replace L1 := Lib.hid (row_call hb6 (row_alloc (row_alloc (row_alloc L1.out _) _) _))
  first | replace G1 := Lib.hid (row_call hb6 G1.out) | replace G1 := Lib.hid (row_call hb6 (row_alloc G1.out _)) | replace G1 := Lib.hid (row_call hb6 (row_alloc (row_alloc G1.out _) _)) | replace G1 := Lib.hid (row_call hb6 (row_alloc (row_alloc (row_alloc G1.out _) _) _))
  clear hb6
  have X1_0 : V6.cell? ⟨w.heap.size, 0, none⟩ = some (.int .u64 xh) := cell_of_row _ _ _ _ _ _ X1.out
  have X1_1 : V6.cell? ⟨w.heap.size, 1, none⟩ = some (.int .u64 xl) := cell_of_row _ _ _ _ _ _ X1.out
  have U1_0 : V6.cell? ⟨w.heap.size + 1, 0, none⟩ = some (.int .u64 yh) := cell_of_row _ _ _ _ _ _ U1.out
  have U1_1 : V6.cell? ⟨w.heap.size + 1, 1, none⟩ = some (.int .u64 yl) := cell_of_row _ _ _ _ _ _ U1.out
  have M1_0 : V6.cell? ⟨w.heap.size + 1 + 1, 0, none⟩ = some (.int .i64 m0) := cell_of_row _ _ _ _ _ _ M1.out
  have M1_1 : V6.cell? ⟨w.heap.size + 1 + 1, 1, none⟩ = some (.int .i64 m1) := cell_of_row _ _ _ _ _ _ M1.out
  have I1_0 : V6.cell? ⟨V1.heap.size, 0, none⟩ = some (.int .u64 vh) := cell_of_row _ _ _ _ _ _ I1.out
  have I1_1 : V6.cell? ⟨V1.heap.size, 1, none⟩ = some (.int .u64 vl) := cell_of_row _ _ _ _ _ _ I1.out
  have L1_0 : V6.cell? ⟨V2.heap.size, 0, none⟩ = some (.int .u64 lh) := cell_of_row _ _ _ _ _ _ L1.out
  have L1_1 : V6.cell? ⟨V2.heap.size, 1, none⟩ = some (.int .u64 ll) := cell_of_row _ _ _ _ _ _ L1.out
  have G1_0 : V6.cell? ⟨V3.heap.size, 0, none⟩ = some (.int .u64 vh) := cell_of_row _ _ _ _ _ _ G1.out
  have G1_1 : V6.cell? ⟨V3.heap.size, 1, none⟩ = some (.int .u64 vl) := cell_of_row _ _ _ _ _ _ G1.out
  have zX1 := lt_of_heap X1.out
  have zU1 := lt_of_heap U1.out
  have zM1 := lt_of_heap M1.out
  have zI1 := lt_of_heap I1.out
  have zL1 := lt_of_heap L1.out
  have zG1 := lt_of_heap G1.out
  go_simp
  go_wp2_with fail
  refine (HK.out _).mono ?_
  rintro e V7 ⟨rfl, hb7⟩
  clear X1_0 X1_1 zX1 U1_0 U1_1 zU1 M1_0 M1_1 zM1 I1_0 I1_1 zI1 L1_0 L1_1 zL1 G1_0 G1_1 zG1
  have nX1B1 := Lib.hid (lt_of_heap X1.out)
  have nU1B1 := Lib.hid (lt_of_heap U1.out)
  have nM1B1 := Lib.hid (lt_of_heap M1.out)
  have nI1B1 := Lib.hid (lt_of_heap I1.out)
  have nL1B1 := Lib.hid (lt_of_heap L1.out)
  have nG1B1 := Lib.hid (lt_of_heap G1.out)
  have B7 := Lib.hid (((B6.out).alloc (B6.out.size) _).trans (hb7.mono (by have := B6.out.size; first | assumption | (simp <;> omega) | (simp; done))))
  replace X1 := Lib.hid (row_call hb7 (row_alloc X1.out _))
  replace U1 := Lib.hid (row_call hb7 (row_alloc U1.out _))
  replace M1 := Lib.hid (row_call hb7 (row_alloc M1.out _))
  replace I1 := Lib.hid (row_call hb7 (row_alloc I1.out _))
  replace L1 := Lib.hid (row_call hb7 (row_alloc L1.out _))
  replace G1 := Lib.hid (row_call hb7 (row_alloc G1.out _))
  have B1 := Lib.hid (row_call hb7 (heap_alloc_new _ _))
  clear hb7
  have X1_0 : V7.cell? ⟨w.heap.size, 0, none⟩ = some (.int .u64 xh) := cell_of_row _ _ _ _ _ _ X1.out
  have X1_1 : V7.cell? ⟨w.heap.size, 1, none⟩ = some (.int .u64 xl) := cell_of_row _ _ _ _ _ _ X1.out
  have U1_0 : V7.cell? ⟨w.heap.size + 1, 0, none⟩ = some (.int .u64 yh) := cell_of_row _ _ _ _ _ _ U1.out
  have U1_1 : V7.cell? ⟨w.heap.size + 1, 1, none⟩ = some (.int .u64 yl) := cell_of_row _ _ _ _ _ _ U1.out
  have M1_0 : V7.cell? ⟨w.heap.size + 1 + 1, 0, none⟩ = some (.int .i64 m0) := cell_of_row _ _ _ _ _ _ M1.out
  have M1_1 : V7.cell? ⟨w.heap.size + 1 + 1, 1, none⟩ = some (.int .i64 m1) := cell_of_row _ _ _ _ _ _ M1.out
  have I1_0 : V7.cell? ⟨V1.heap.size, 0, none⟩ = some (.int .u64 vh) := cell_of_row _ _ _ _ _ _ I1.out
  have I1_1 : V7.cell? ⟨V1.heap.size, 1, none⟩ = some (.int .u64 vl) := cell_of_row _ _ _ _ _ _ I1.out
  have L1_0 : V7.cell? ⟨V2.heap.size, 0, none⟩ = some (.int .u64 lh) := cell_of_row _ _ _ _ _ _ L1.out
  have L1_1 : V7.cell? ⟨V2.heap.size, 1, none⟩ = some (.int .u64 ll) := cell_of_row _ _ _ _ _ _ L1.out
  have G1_0 : V7.cell? ⟨V3.heap.size, 0, none⟩ = some (.int .u64 vh) := cell_of_row _ _ _ _ _ _ G1.out
  have G1_1 : V7.cell? ⟨V3.heap.size, 1, none⟩ = some (.int .u64 vl) := cell_of_row _ _ _ _ _ _ G1.out
  have B1_0 : V7.cell? ⟨V6.heap.size, 0, none⟩ = some (.int .u64 vh) := cell_of_row _ _ _ _ _ _ B1.out
  have B1_1 : V7.cell? ⟨V6.heap.size, 1, none⟩ = some (.int .u64 vl) := cell_of_row _ _ _ _ _ _ B1.out
  have zX1 := lt_of_heap X1.out
  have zU1 := lt_of_heap U1.out
  have zM1 := lt_of_heap M1.out
  have zI1 := lt_of_heap I1.out
  have zL1 := lt_of_heap L1.out
  have zG1 := lt_of_heap G1.out
  have zB1 := lt_of_heap B1.out
  go_simp
  go_wp2
  go_ret
  exact ⟨rfl, by first | exact B7.out | exact B7.out.alloc B7.out.size _⟩
set_option maxHeartbeats 6400000 in
set_option maxRecDepth 100000 in
theorem again_c5 (xh xl yh yl vh vl ll : Nat) (m0 m1 c1 c2 E F G : Int) (w : World) (g1 : decide (0 < c1) = false) (g2 : decide (c2 < 0) = false) (hz : ¬ vl = ll)
    (H1 : Hid (∀ w, Calls Try.prog 8 #[.agg #[.int .u64 xh, .int .u64 xl], .agg #[.int .u64 yh, .int .u64 yl], .int .i64 m0] w fun e w' => e = .returned (.tuple #[.agg #[.int .u64 vh, .int .u64 vl], .int .i64 0]) ∧ Below w.heap.size w w'))
    (H2 : Hid (∀ w, Calls Try.prog 8 #[.agg #[.int .u64 xh, .int .u64 xl], .agg #[.int .u64 yh, .int .u64 yl], .int .i64 0] w fun e w' => e = .returned (.tuple #[.agg #[.int .u64 vh, .int .u64 ll], .int .i64 0]) ∧ Below w.heap.size w w'))
    (H3 : Hid (∀ w, Calls Try.prog 8 #[.agg #[.int .u64 xh, .int .u64 xl], .agg #[.int .u64 yh, .int .u64 yl], .int .i64 1] w fun e w' => e = .returned (.tuple #[.agg #[.int .u64 vh, .int .u64 vl], .int .i64 0]) ∧ Below w.heap.size w w'))
    (H4 : Hid (∀ w, Calls Try.prog 15 #[.agg #[.int .u64 vh, .int .u64 ll], .agg #[.int .u64 xh, .int .u64 xl]] w fun e w' => e = .returned (.int .i64 c1) ∧ Below w.heap.size w w'))
    (H5 : Hid (∀ w, Calls Try.prog 15 #[.agg #[.int .u64 vh, .int .u64 vl], .agg #[.int .u64 xh, .int .u64 xl]] w fun e w' => e = .returned (.int .i64 c2) ∧ Below w.heap.size w w'))
    (H7 : Hid (∀ w, Calls Try.prog 8 #[.agg #[.int .u64 vh, .int .u64 vl], .agg #[.int .u64 yh, .int .u64 yl], .int .i64 m1] w fun e w' => e = .returned (.tuple #[.agg #[.int .u64 0, .int .u64 0], .int .i64 5]) ∧ Below w.heap.size w w'))
    (H8 : Hid (∀ w, Calls Try.prog 9 #[.agg #[.int .u64 vh, .int .u64 vl], .agg #[.int .u64 yh, .int .u64 yl], .int .i64 m1] w fun e w' => e = .returned (.tuple #[.agg #[.int .u64 0, .int .u64 0], .int .i64 5]) ∧ Below w.heap.size w w'))
    (HK : Hid (∀ w, Calls Try.prog 10 #[] w fun e w' => e = .returned (.bool true) ∧ Below w.heap.size w w'))
    : Calls Try.prog 6 #[.agg #[.int .u64 xh, .int .u64 xl], .agg #[.int .u64 yh, .int .u64 yl], .agg #[.int .i64 m0, .int .i64 m1]] w fun e w' => e = .returned (.bool true) ∧ Below w.heap.size w w' := by
  go_enter Try.func6, Try.ntmps6
  go_wp2_with fail
  
  refine (H1.out _).mono ?_
  rintro e V1 ⟨rfl, hb1⟩
  have B1 := Lib.hid (((((Below.refl w.heap.size w).alloc (Nat.le_refl _) _).alloc (by simp <;> omega) _).alloc (by simp <;> omega) _).trans (hb1.mono (by first | assumption | (simp <;> omega) | (simp; done))))
  have X1 := Lib.hid (row_call hb1 (row_alloc (row_alloc (heap_alloc_new _ _) _) _))
  have U1 := Lib.hid (row_at (k' := w.heap.size + 1) (by simp) (row_call hb1 (row_alloc (heap_alloc_new _ _) _)))
  have M1 := Lib.hid (row_at (k' := w.heap.size + 1 + 1) (by simp) (row_call hb1 (heap_alloc_new _ _)))
  clear hb1
  have X1_0 : V1.cell? ⟨w.heap.size, 0, none⟩ = some (.int .u64 xh) := cell_of_row _ _ _ _ _ _ X1.out
  have X1_1 : V1.cell? ⟨w.heap.size, 1, none⟩ = some (.int .u64 xl) := cell_of_row _ _ _ _ _ _ X1.out
  have U1_0 : V1.cell? ⟨w.heap.size + 1, 0, none⟩ = some (.int .u64 yh) := cell_of_row _ _ _ _ _ _ U1.out
  have U1_1 : V1.cell? ⟨w.heap.size + 1, 1, none⟩ = some (.int .u64 yl) := cell_of_row _ _ _ _ _ _ U1.out
  have M1_0 : V1.cell? ⟨w.heap.size + 1 + 1, 0, none⟩ = some (.int .i64 m0) := cell_of_row _ _ _ _ _ _ M1.out
  have M1_1 : V1.cell? ⟨w.heap.size + 1 + 1, 1, none⟩ = some (.int .i64 m1) := cell_of_row _ _ _ _ _ _ M1.out
  have zX1 := lt_of_heap X1.out
  have zU1 := lt_of_heap U1.out
  have zM1 := lt_of_heap M1.out
  go_simp
  go_wp2_with fail
  refine (H2.out _).mono ?_
  rintro e V2 ⟨rfl, hb2⟩
  clear X1_0 X1_1 zX1 U1_0 U1_1 zU1 M1_0 M1_1 zM1
  have nX1I1 := Lib.hid (lt_of_heap X1.out)
  have nU1I1 := Lib.hid (lt_of_heap U1.out)
  have nM1I1 := Lib.hid (lt_of_heap M1.out)
  have B2 := Lib.hid (((B1.out).alloc (B1.out.size) _).trans (hb2.mono (by have := B1.out.size; first | assumption | (simp <;> omega) | (simp; done))))
  replace X1 := Lib.hid (row_call hb2 (row_alloc X1.out _))
  replace U1 := Lib.hid (row_call hb2 (row_alloc U1.out _))
  replace M1 := Lib.hid (row_call hb2 (row_alloc M1.out _))
  have I1 := Lib.hid (row_call hb2 (heap_alloc_new _ _))
  clear hb2
  have X1_0 : V2.cell? ⟨w.heap.size, 0, none⟩ = some (.int .u64 xh) := cell_of_row _ _ _ _ _ _ X1.out
  have X1_1 : V2.cell? ⟨w.heap.size, 1, none⟩ = some (.int .u64 xl) := cell_of_row _ _ _ _ _ _ X1.out
  have U1_0 : V2.cell? ⟨w.heap.size + 1, 0, none⟩ = some (.int .u64 yh) := cell_of_row _ _ _ _ _ _ U1.out
  have U1_1 : V2.cell? ⟨w.heap.size + 1, 1, none⟩ = some (.int .u64 yl) := cell_of_row _ _ _ _ _ _ U1.out
  have M1_0 : V2.cell? ⟨w.heap.size + 1 + 1, 0, none⟩ = some (.int .i64 m0) := cell_of_row _ _ _ _ _ _ M1.out
  have M1_1 : V2.cell? ⟨w.heap.size + 1 + 1, 1, none⟩ = some (.int .i64 m1) := cell_of_row _ _ _ _ _ _ M1.out
  have I1_0 : V2.cell? ⟨V1.heap.size, 0, none⟩ = some (.int .u64 vh) := cell_of_row _ _ _ _ _ _ I1.out
  have I1_1 : V2.cell? ⟨V1.heap.size, 1, none⟩ = some (.int .u64 vl) := cell_of_row _ _ _ _ _ _ I1.out
  have zX1 := lt_of_heap X1.out
  have zU1 := lt_of_heap U1.out
  have zM1 := lt_of_heap M1.out
  have zI1 := lt_of_heap I1.out
  go_simp
  go_wp2_with fail
  refine (H3.out _).mono ?_
  rintro e V3 ⟨rfl, hb3⟩
  clear X1_0 X1_1 zX1 U1_0 U1_1 zU1 M1_0 M1_1 zM1 I1_0 I1_1 zI1
  have nX1L1 := Lib.hid (lt_of_heap X1.out)
  have nU1L1 := Lib.hid (lt_of_heap U1.out)
  have nM1L1 := Lib.hid (lt_of_heap M1.out)
  have nI1L1 := Lib.hid (lt_of_heap I1.out)
  have B3 := Lib.hid (((B2.out).alloc (B2.out.size) _).trans (hb3.mono (by have := B2.out.size; first | assumption | (simp <;> omega) | (simp; done))))
  replace X1 := Lib.hid (row_call hb3 (row_alloc X1.out _))
  replace U1 := Lib.hid (row_call hb3 (row_alloc U1.out _))
  replace M1 := Lib.hid (row_call hb3 (row_alloc M1.out _))
  replace I1 := Lib.hid (row_call hb3 (row_alloc I1.out _))
  have L1 := Lib.hid (row_call hb3 (heap_alloc_new _ _))
  clear hb3
  have X1_0 : V3.cell? ⟨w.heap.size, 0, none⟩ = some (.int .u64 xh) := cell_of_row _ _ _ _ _ _ X1.out
  have X1_1 : V3.cell? ⟨w.heap.size, 1, none⟩ = some (.int .u64 xl) := cell_of_row _ _ _ _ _ _ X1.out
  have U1_0 : V3.cell? ⟨w.heap.size + 1, 0, none⟩ = some (.int .u64 yh) := cell_of_row _ _ _ _ _ _ U1.out
  have U1_1 : V3.cell? ⟨w.heap.size + 1, 1, none⟩ = some (.int .u64 yl) := cell_of_row _ _ _ _ _ _ U1.out
  have M1_0 : V3.cell? ⟨w.heap.size + 1 + 1, 0, none⟩ = some (.int .i64 m0) := cell_of_row _ _ _ _ _ _ M1.out
  have M1_1 : V3.cell? ⟨w.heap.size + 1 + 1, 1, none⟩ = some (.int .i64 m1) := cell_of_row _ _ _ _ _ _ M1.out
  have I1_0 : V3.cell? ⟨V1.heap.size, 0, none⟩ = some (.int .u64 vh) := cell_of_row _ _ _ _ _ _ I1.out
  have I1_1 : V3.cell? ⟨V1.heap.size, 1, none⟩ = some (.int .u64 vl) := cell_of_row _ _ _ _ _ _ I1.out
  have L1_0 : V3.cell? ⟨V2.heap.size, 0, none⟩ = some (.int .u64 vh) := cell_of_row _ _ _ _ _ _ L1.out
  have L1_1 : V3.cell? ⟨V2.heap.size, 1, none⟩ = some (.int .u64 ll) := cell_of_row _ _ _ _ _ _ L1.out
  have zX1 := lt_of_heap X1.out
  have zU1 := lt_of_heap U1.out
  have zM1 := lt_of_heap M1.out
  have zI1 := lt_of_heap I1.out
  have zL1 := lt_of_heap L1.out
  go_simp
  go_wp2_with fail
  refine (H4.out _).mono ?_
  rintro e V4 ⟨rfl, hb4⟩
  clear X1_0 X1_1 zX1 U1_0 U1_1 zU1 M1_0 M1_1 zM1 I1_0 I1_1 zI1 L1_0 L1_1 zL1
  have nX1G1 := Lib.hid (lt_of_heap X1.out)
  have nU1G1 := Lib.hid (lt_of_heap U1.out)
  have nM1G1 := Lib.hid (lt_of_heap M1.out)
  have nI1G1 := Lib.hid (lt_of_heap I1.out)
  have nL1G1 := Lib.hid (lt_of_heap L1.out)
  have B4 := Lib.hid (((B3.out).alloc (B3.out.size) _).trans (hb4.mono (by have := B3.out.size; first | assumption | (simp <;> omega) | (simp; done))))
  replace X1 := Lib.hid (row_call hb4 (row_alloc X1.out _))
  replace U1 := Lib.hid (row_call hb4 (row_alloc U1.out _))
  replace M1 := Lib.hid (row_call hb4 (row_alloc M1.out _))
  replace I1 := Lib.hid (row_call hb4 (row_alloc I1.out _))
  replace L1 := Lib.hid (row_call hb4 (row_alloc L1.out _))
  have G1 := Lib.hid (row_call hb4 (heap_alloc_new _ _))
  clear hb4
  have X1_0 : V4.cell? ⟨w.heap.size, 0, none⟩ = some (.int .u64 xh) := cell_of_row _ _ _ _ _ _ X1.out
  have X1_1 : V4.cell? ⟨w.heap.size, 1, none⟩ = some (.int .u64 xl) := cell_of_row _ _ _ _ _ _ X1.out
  have U1_0 : V4.cell? ⟨w.heap.size + 1, 0, none⟩ = some (.int .u64 yh) := cell_of_row _ _ _ _ _ _ U1.out
  have U1_1 : V4.cell? ⟨w.heap.size + 1, 1, none⟩ = some (.int .u64 yl) := cell_of_row _ _ _ _ _ _ U1.out
  have M1_0 : V4.cell? ⟨w.heap.size + 1 + 1, 0, none⟩ = some (.int .i64 m0) := cell_of_row _ _ _ _ _ _ M1.out
  have M1_1 : V4.cell? ⟨w.heap.size + 1 + 1, 1, none⟩ = some (.int .i64 m1) := cell_of_row _ _ _ _ _ _ M1.out
  have I1_0 : V4.cell? ⟨V1.heap.size, 0, none⟩ = some (.int .u64 vh) := cell_of_row _ _ _ _ _ _ I1.out
  have I1_1 : V4.cell? ⟨V1.heap.size, 1, none⟩ = some (.int .u64 vl) := cell_of_row _ _ _ _ _ _ I1.out
  have L1_0 : V4.cell? ⟨V2.heap.size, 0, none⟩ = some (.int .u64 vh) := cell_of_row _ _ _ _ _ _ L1.out
  have L1_1 : V4.cell? ⟨V2.heap.size, 1, none⟩ = some (.int .u64 ll) := cell_of_row _ _ _ _ _ _ L1.out
  have G1_0 : V4.cell? ⟨V3.heap.size, 0, none⟩ = some (.int .u64 vh) := cell_of_row _ _ _ _ _ _ G1.out
  have G1_1 : V4.cell? ⟨V3.heap.size, 1, none⟩ = some (.int .u64 vl) := cell_of_row _ _ _ _ _ _ G1.out
  have zX1 := lt_of_heap X1.out
  have zU1 := lt_of_heap U1.out
  have zM1 := lt_of_heap M1.out
  have zI1 := lt_of_heap I1.out
  have zL1 := lt_of_heap L1.out
  have zG1 := lt_of_heap G1.out
  go_simp
  go_wp2_with fail
  refine (H5.out _).mono ?_
  rintro e V5 ⟨rfl, hb5⟩
  clear X1_0 X1_1 zX1 U1_0 U1_1 zU1 M1_0 M1_1 zM1 I1_0 I1_1 zI1 L1_0 L1_1 zL1 G1_0 G1_1 zG1
  have B5 : Hid (Below w.heap.size w V5) := by first | exact Lib.hid ((B4.out).trans (hb5.mono (by have := B4.out.size; first | assumption | (simp <;> omega) | (simp; done)))) | exact Lib.hid (((B4.out).alloc (B4.out.size) _).trans (hb5.mono (by have := B4.out.size; first | assumption | (simp <;> omega) | (simp; done)))) | exact Lib.hid ((((B4.out).alloc (B4.out.size) _).alloc (by have := B4.out.size; simp <;> omega) _).trans (hb5.mono (by have := B4.out.size; first | assumption | (simp <;> omega) | (simp; done)))) | exact Lib.hid (((((B4.out).alloc (B4.out.size) _).alloc (by have := B4.out.size; simp <;> omega) _).alloc (by have := B4.out.size; simp <;> omega) _).trans (hb5.mono (by have := B4.out.size; first | assumption | (simp <;> omega) | (simp; done))))
  first | replace X1 := Lib.hid (row_call hb5 X1.out) | replace X1 := Lib.hid (row_call hb5 (row_alloc X1.out _)) | replace X1 := Lib.hid (row_call hb5 (row_alloc (row_alloc X1.out _) _)) | replace X1 := Lib.hid (row_call hb5 (row_alloc (row_alloc (row_alloc X1.out _) _) _))
  first | replace U1 := Lib.hid (row_call hb5 U1.out) | replace U1 := Lib.hid (row_call hb5 (row_alloc U1.out _)) | replace U1 := Lib.hid (row_call hb5 (row_alloc (row_alloc U1.out _) _)) | replace U1 := Lib.hid (row_call hb5 (row_alloc (row_alloc (row_alloc U1.out _) _) _))
  first | replace M1 := Lib.hid (row_call hb5 M1.out) | replace M1 := Lib.hid (row_call hb5 (row_alloc M1.out _)) | replace M1 := Lib.hid (row_call hb5 (row_alloc (row_alloc M1.out _) _)) | replace M1 := Lib.hid (row_call hb5 (row_alloc (row_alloc (row_alloc M1.out _) _) _))
  first | replace I1 := Lib.hid (row_call hb5 I1.out) | replace I1 := Lib.hid (row_call hb5 (row_alloc I1.out _)) | replace I1 := Lib.hid (row_call hb5 (row_alloc (row_alloc I1.out _) _)) | replace I1 := Lib.hid (row_call hb5 (row_alloc (row_alloc (row_alloc I1.out _) _) _))
  first | replace L1 := Lib.hid (row_call hb5 L1.out) | replace L1 := Lib.hid (row_call hb5 (row_alloc L1.out _)) | replace L1 := Lib.hid (row_call hb5 (row_alloc (row_alloc L1.out _) _)) | replace L1 := Lib.hid (row_call hb5 (row_alloc (row_alloc (row_alloc L1.out _) _) _))
  first | replace G1 := Lib.hid (row_call hb5 G1.out) | replace G1 := Lib.hid (row_call hb5 (row_alloc G1.out _)) | replace G1 := Lib.hid (row_call hb5 (row_alloc (row_alloc G1.out _) _)) | replace G1 := Lib.hid (row_call hb5 (row_alloc (row_alloc (row_alloc G1.out _) _) _))
  clear hb5
  have X1_0 : V5.cell? ⟨w.heap.size, 0, none⟩ = some (.int .u64 xh) := cell_of_row _ _ _ _ _ _ X1.out
  have X1_1 : V5.cell? ⟨w.heap.size, 1, none⟩ = some (.int .u64 xl) := cell_of_row _ _ _ _ _ _ X1.out
  have U1_0 : V5.cell? ⟨w.heap.size + 1, 0, none⟩ = some (.int .u64 yh) := cell_of_row _ _ _ _ _ _ U1.out
  have U1_1 : V5.cell? ⟨w.heap.size + 1, 1, none⟩ = some (.int .u64 yl) := cell_of_row _ _ _ _ _ _ U1.out
  have M1_0 : V5.cell? ⟨w.heap.size + 1 + 1, 0, none⟩ = some (.int .i64 m0) := cell_of_row _ _ _ _ _ _ M1.out
  have M1_1 : V5.cell? ⟨w.heap.size + 1 + 1, 1, none⟩ = some (.int .i64 m1) := cell_of_row _ _ _ _ _ _ M1.out
  have I1_0 : V5.cell? ⟨V1.heap.size, 0, none⟩ = some (.int .u64 vh) := cell_of_row _ _ _ _ _ _ I1.out
  have I1_1 : V5.cell? ⟨V1.heap.size, 1, none⟩ = some (.int .u64 vl) := cell_of_row _ _ _ _ _ _ I1.out
  have L1_0 : V5.cell? ⟨V2.heap.size, 0, none⟩ = some (.int .u64 vh) := cell_of_row _ _ _ _ _ _ L1.out
  have L1_1 : V5.cell? ⟨V2.heap.size, 1, none⟩ = some (.int .u64 ll) := cell_of_row _ _ _ _ _ _ L1.out
  have G1_0 : V5.cell? ⟨V3.heap.size, 0, none⟩ = some (.int .u64 vh) := cell_of_row _ _ _ _ _ _ G1.out
  have G1_1 : V5.cell? ⟨V3.heap.size, 1, none⟩ = some (.int .u64 vl) := cell_of_row _ _ _ _ _ _ G1.out
  have zX1 := lt_of_heap X1.out
  have zU1 := lt_of_heap U1.out
  have zM1 := lt_of_heap M1.out
  have zI1 := lt_of_heap I1.out
  have zL1 := lt_of_heap L1.out
  have zG1 := lt_of_heap G1.out
  go_simp
  go_wp2_with fail
  refine (H7.out _).mono ?_
  rintro e V6 ⟨rfl, hb6⟩
  clear X1_0 X1_1 zX1 U1_0 U1_1 zU1 M1_0 M1_1 zM1 I1_0 I1_1 zI1 L1_0 L1_1 zL1 G1_0 G1_1 zG1
  have B6 : Hid (Below w.heap.size w V6) := by first | exact Lib.hid ((B5.out).trans (hb6.mono (by have := B5.out.size; first | assumption | (simp <;> omega) | (simp; done)))) | exact Lib.hid (((B5.out).alloc (B5.out.size) _).trans (hb6.mono (by have := B5.out.size; first | assumption | (simp <;> omega) | (simp; done)))) | exact Lib.hid ((((B5.out).alloc (B5.out.size) _).alloc (by have := B5.out.size; simp <;> omega) _).trans (hb6.mono (by have := B5.out.size; first | assumption | (simp <;> omega) | (simp; done)))) | exact Lib.hid (((((B5.out).alloc (B5.out.size) _).alloc (by have := B5.out.size; simp <;> omega) _).alloc (by have := B5.out.size; simp <;> omega) _).trans (hb6.mono (by have := B5.out.size; first | assumption | (simp <;> omega) | (simp; done))))
  first | replace X1 := Lib.hid (row_call hb6 X1.out) | replace X1 := Lib.hid (row_call hb6 (row_alloc X1.out _)) | replace X1 := Lib.hid (row_call hb6 (row_alloc (row_alloc X1.out _) _)) | replace X1 := Lib.hid (row_call hb6 (row_alloc (row_alloc (row_alloc X1.out _) _) _))
  first | replace U1 := Lib.hid (row_call hb6 U1.out) | replace U1 := Lib.hid (row_call hb6 (row_alloc U1.out _)) | replace U1 := Lib.hid (row_call hb6 (row_alloc (row_alloc U1.out _) _)) | replace U1 := Lib.hid (row_call hb6 (row_alloc (row_alloc (row_alloc U1.out _) _) _))
  first | replace M1 := Lib.hid (row_call hb6 M1.out) | replace M1 := Lib.hid (row_call hb6 (row_alloc M1.out _)) | replace M1 := Lib.hid (row_call hb6 (row_alloc (row_alloc M1.out _) _)) | replace M1 := Lib.hid (row_call hb6 (row_alloc (row_alloc (row_alloc M1.out _) _) _))
  first | replace I1 := Lib.hid (row_call hb6 I1.out) | replace I1 := Lib.hid (row_call hb6 (row_alloc I1.out _)) | replace I1 := Lib.hid (row_call hb6 (row_alloc (row_alloc I1.out _) _)) | replace I1 := Lib.hid (row_call hb6 (row_alloc (row_alloc (row_alloc I1.out _) _) _))
  first | replace L1 := Lib.hid (row_call hb6 L1.out) | replace L1 := Lib.hid (row_call hb6 (row_alloc L1.out _)) | replace L1 := Lib.hid (row_call hb6 (row_alloc (row_alloc L1.out _) _)) | replace L1 := Lib.hid (row_call hb6 (row_alloc (row_alloc (row_alloc L1.out _) _) _))
  first | replace G1 := Lib.hid (row_call hb6 G1.out) | replace G1 := Lib.hid (row_call hb6 (row_alloc G1.out _)) | replace G1 := Lib.hid (row_call hb6 (row_alloc (row_alloc G1.out _) _)) | replace G1 := Lib.hid (row_call hb6 (row_alloc (row_alloc (row_alloc G1.out _) _) _))
  clear hb6
  have X1_0 : V6.cell? ⟨w.heap.size, 0, none⟩ = some (.int .u64 xh) := cell_of_row _ _ _ _ _ _ X1.out
  have X1_1 : V6.cell? ⟨w.heap.size, 1, none⟩ = some (.int .u64 xl) := cell_of_row _ _ _ _ _ _ X1.out
  have U1_0 : V6.cell? ⟨w.heap.size + 1, 0, none⟩ = some (.int .u64 yh) := cell_of_row _ _ _ _ _ _ U1.out
  have U1_1 : V6.cell? ⟨w.heap.size + 1, 1, none⟩ = some (.int .u64 yl) := cell_of_row _ _ _ _ _ _ U1.out
  have M1_0 : V6.cell? ⟨w.heap.size + 1 + 1, 0, none⟩ = some (.int .i64 m0) := cell_of_row _ _ _ _ _ _ M1.out
  have M1_1 : V6.cell? ⟨w.heap.size + 1 + 1, 1, none⟩ = some (.int .i64 m1) := cell_of_row _ _ _ _ _ _ M1.out
  have I1_0 : V6.cell? ⟨V1.heap.size, 0, none⟩ = some (.int .u64 vh) := cell_of_row _ _ _ _ _ _ I1.out
  have I1_1 : V6.cell? ⟨V1.heap.size, 1, none⟩ = some (.int .u64 vl) := cell_of_row _ _ _ _ _ _ I1.out
  have L1_0 : V6.cell? ⟨V2.heap.size, 0, none⟩ = some (.int .u64 vh) := cell_of_row _ _ _ _ _ _ L1.out
  have L1_1 : V6.cell? ⟨V2.heap.size, 1, none⟩ = some (.int .u64 ll) := cell_of_row _ _ _ _ _ _ L1.out
  have G1_0 : V6.cell? ⟨V3.heap.size, 0, none⟩ = some (.int .u64 vh) := cell_of_row _ _ _ _ _ _ G1.out
  have G1_1 : V6.cell? ⟨V3.heap.size, 1, none⟩ = some (.int .u64 vl) := cell_of_row _ _ _ _ _ _ G1.out
  have zX1 := lt_of_heap X1.out
  have zU1 := lt_of_heap U1.out
  have zM1 := lt_of_heap M1.out
  have zI1 := lt_of_heap I1.out
  have zL1 := lt_of_heap L1.out
  have zG1 := lt_of_heap G1.out
  go_simp
  go_wp2_with fail
  refine (H8.out _).mono ?_
  rintro e V7 ⟨rfl, hb7⟩
  clear X1_0 X1_1 zX1 U1_0 U1_1 zU1 M1_0 M1_1 zM1 I1_0 I1_1 zI1 L1_0 L1_1 zL1 G1_0 G1_1 zG1
  have nX1B1 := Lib.hid (lt_of_heap X1.out)
  have nU1B1 := Lib.hid (lt_of_heap U1.out)
  have nM1B1 := Lib.hid (lt_of_heap M1.out)
  have nI1B1 := Lib.hid (lt_of_heap I1.out)
  have nL1B1 := Lib.hid (lt_of_heap L1.out)
  have nG1B1 := Lib.hid (lt_of_heap G1.out)
  have B7 := Lib.hid (((B6.out).alloc (B6.out.size) _).trans (hb7.mono (by have := B6.out.size; first | assumption | (simp <;> omega) | (simp; done))))
  replace X1 := Lib.hid (row_call hb7 (row_alloc X1.out _))
  replace U1 := Lib.hid (row_call hb7 (row_alloc U1.out _))
  replace M1 := Lib.hid (row_call hb7 (row_alloc M1.out _))
  replace I1 := Lib.hid (row_call hb7 (row_alloc I1.out _))
  replace L1 := Lib.hid (row_call hb7 (row_alloc L1.out _))
  replace G1 := Lib.hid (row_call hb7 (row_alloc G1.out _))
  have B1 := Lib.hid (row_call hb7 (heap_alloc_new _ _))
  clear hb7
  have X1_0 : V7.cell? ⟨w.heap.size, 0, none⟩ = some (.int .u64 xh) := cell_of_row _ _ _ _ _ _ X1.out
  have X1_1 : V7.cell? ⟨w.heap.size, 1, none⟩ = some (.int .u64 xl) := cell_of_row _ _ _ _ _ _ X1.out
  have U1_0 : V7.cell? ⟨w.heap.size + 1, 0, none⟩ = some (.int .u64 yh) := cell_of_row _ _ _ _ _ _ U1.out
  have U1_1 : V7.cell? ⟨w.heap.size + 1, 1, none⟩ = some (.int .u64 yl) := cell_of_row _ _ _ _ _ _ U1.out
  have M1_0 : V7.cell? ⟨w.heap.size + 1 + 1, 0, none⟩ = some (.int .i64 m0) := cell_of_row _ _ _ _ _ _ M1.out
  have M1_1 : V7.cell? ⟨w.heap.size + 1 + 1, 1, none⟩ = some (.int .i64 m1) := cell_of_row _ _ _ _ _ _ M1.out
  have I1_0 : V7.cell? ⟨V1.heap.size, 0, none⟩ = some (.int .u64 vh) := cell_of_row _ _ _ _ _ _ I1.out
  have I1_1 : V7.cell? ⟨V1.heap.size, 1, none⟩ = some (.int .u64 vl) := cell_of_row _ _ _ _ _ _ I1.out
  have L1_0 : V7.cell? ⟨V2.heap.size, 0, none⟩ = some (.int .u64 vh) := cell_of_row _ _ _ _ _ _ L1.out
  have L1_1 : V7.cell? ⟨V2.heap.size, 1, none⟩ = some (.int .u64 ll) := cell_of_row _ _ _ _ _ _ L1.out
  have G1_0 : V7.cell? ⟨V3.heap.size, 0, none⟩ = some (.int .u64 vh) := cell_of_row _ _ _ _ _ _ G1.out
  have G1_1 : V7.cell? ⟨V3.heap.size, 1, none⟩ = some (.int .u64 vl) := cell_of_row _ _ _ _ _ _ G1.out
  have B1_0 : V7.cell? ⟨V6.heap.size, 0, none⟩ = some (.int .u64 0) := cell_of_row _ _ _ _ _ _ B1.out
  have B1_1 : V7.cell? ⟨V6.heap.size, 1, none⟩ = some (.int .u64 0) := cell_of_row _ _ _ _ _ _ B1.out
  have zX1 := lt_of_heap X1.out
  have zU1 := lt_of_heap U1.out
  have zM1 := lt_of_heap M1.out
  have zI1 := lt_of_heap I1.out
  have zL1 := lt_of_heap L1.out
  have zG1 := lt_of_heap G1.out
  have zB1 := lt_of_heap B1.out
  go_simp
  go_wp2_with fail
  refine (HK.out _).mono ?_
  rintro e V8 ⟨rfl, hb8⟩
  clear X1_0 X1_1 zX1 U1_0 U1_1 zU1 M1_0 M1_1 zM1 I1_0 I1_1 zI1 L1_0 L1_1 zL1 G1_0 G1_1 zG1 B1_0 B1_1 zB1
  have nX1C1 := Lib.hid (lt_of_heap X1.out)
  have nU1C1 := Lib.hid (lt_of_heap U1.out)
  have nM1C1 := Lib.hid (lt_of_heap M1.out)
  have nI1C1 := Lib.hid (lt_of_heap I1.out)
  have nL1C1 := Lib.hid (lt_of_heap L1.out)
  have nG1C1 := Lib.hid (lt_of_heap G1.out)
  have nB1C1 := Lib.hid (lt_of_heap B1.out)
  have B8 := Lib.hid (((B7.out).alloc (B7.out.size) _).trans (hb8.mono (by have := B7.out.size; first | assumption | (simp <;> omega) | (simp; done))))
  replace X1 := Lib.hid (row_call hb8 (row_alloc X1.out _))
  replace U1 := Lib.hid (row_call hb8 (row_alloc U1.out _))
  replace M1 := Lib.hid (row_call hb8 (row_alloc M1.out _))
  replace I1 := Lib.hid (row_call hb8 (row_alloc I1.out _))
  replace L1 := Lib.hid (row_call hb8 (row_alloc L1.out _))
  replace G1 := Lib.hid (row_call hb8 (row_alloc G1.out _))
  replace B1 := Lib.hid (row_call hb8 (row_alloc B1.out _))
  have C1 := Lib.hid (row_call hb8 (heap_alloc_new _ _))
  clear hb8
  have X1_0 : V8.cell? ⟨w.heap.size, 0, none⟩ = some (.int .u64 xh) := cell_of_row _ _ _ _ _ _ X1.out
  have X1_1 : V8.cell? ⟨w.heap.size, 1, none⟩ = some (.int .u64 xl) := cell_of_row _ _ _ _ _ _ X1.out
  have U1_0 : V8.cell? ⟨w.heap.size + 1, 0, none⟩ = some (.int .u64 yh) := cell_of_row _ _ _ _ _ _ U1.out
  have U1_1 : V8.cell? ⟨w.heap.size + 1, 1, none⟩ = some (.int .u64 yl) := cell_of_row _ _ _ _ _ _ U1.out
  have M1_0 : V8.cell? ⟨w.heap.size + 1 + 1, 0, none⟩ = some (.int .i64 m0) := cell_of_row _ _ _ _ _ _ M1.out
  have M1_1 : V8.cell? ⟨w.heap.size + 1 + 1, 1, none⟩ = some (.int .i64 m1) := cell_of_row _ _ _ _ _ _ M1.out
  have I1_0 : V8.cell? ⟨V1.heap.size, 0, none⟩ = some (.int .u64 vh) := cell_of_row _ _ _ _ _ _ I1.out
  have I1_1 : V8.cell? ⟨V1.heap.size, 1, none⟩ = some (.int .u64 vl) := cell_of_row _ _ _ _ _ _ I1.out
  have L1_0 : V8.cell? ⟨V2.heap.size, 0, none⟩ = some (.int .u64 vh) := cell_of_row _ _ _ _ _ _ L1.out
  have L1_1 : V8.cell? ⟨V2.heap.size, 1, none⟩ = some (.int .u64 ll) := cell_of_row _ _ _ _ _ _ L1.out
  have G1_0 : V8.cell? ⟨V3.heap.size, 0, none⟩ = some (.int .u64 vh) := cell_of_row _ _ _ _ _ _ G1.out
  have G1_1 : V8.cell? ⟨V3.heap.size, 1, none⟩ = some (.int .u64 vl) := cell_of_row _ _ _ _ _ _ G1.out
  have B1_0 : V8.cell? ⟨V6.heap.size, 0, none⟩ = some (.int .u64 0) := cell_of_row _ _ _ _ _ _ B1.out
  have B1_1 : V8.cell? ⟨V6.heap.size, 1, none⟩ = some (.int .u64 0) := cell_of_row _ _ _ _ _ _ B1.out
  have C1_0 : V8.cell? ⟨V7.heap.size, 0, none⟩ = some (.int .u64 0) := cell_of_row _ _ _ _ _ _ C1.out
  have C1_1 : V8.cell? ⟨V7.heap.size, 1, none⟩ = some (.int .u64 0) := cell_of_row _ _ _ _ _ _ C1.out
  have zX1 := lt_of_heap X1.out
  have zU1 := lt_of_heap U1.out
  have zM1 := lt_of_heap M1.out
  have zI1 := lt_of_heap I1.out
  have zL1 := lt_of_heap L1.out
  have zG1 := lt_of_heap G1.out
  have zB1 := lt_of_heap B1.out
  have zC1 := lt_of_heap C1.out
  go_simp
  go_wp2
  go_ret
  exact ⟨rfl, by first | exact B8.out | exact B8.out.alloc B8.out.size _⟩
set_option maxHeartbeats 6400000 in
set_option maxRecDepth 100000 in
theorem again_c0 (xh xl yh yl vh vl ll : Nat) (m0 m1 c1 c2 E F G : Int) (w : World) (g1 : decide (0 < c1) = false) (g2 : decide (c2 < 0) = false) (hz : ¬ vl = ll)
    (H1 : Hid (∀ w, Calls Try.prog 8 #[.agg #[.int .u64 xh, .int .u64 xl], .agg #[.int .u64 yh, .int .u64 yl], .int .i64 m0] w fun e w' => e = .returned (.tuple #[.agg #[.int .u64 vh, .int .u64 vl], .int .i64 0]) ∧ Below w.heap.size w w'))
    (H2 : Hid (∀ w, Calls Try.prog 8 #[.agg #[.int .u64 xh, .int .u64 xl], .agg #[.int .u64 yh, .int .u64 yl], .int .i64 0] w fun e w' => e = .returned (.tuple #[.agg #[.int .u64 vh, .int .u64 ll], .int .i64 0]) ∧ Below w.heap.size w w'))
    (H3 : Hid (∀ w, Calls Try.prog 8 #[.agg #[.int .u64 xh, .int .u64 xl], .agg #[.int .u64 yh, .int .u64 yl], .int .i64 1] w fun e w' => e = .returned (.tuple #[.agg #[.int .u64 vh, .int .u64 vl], .int .i64 0]) ∧ Below w.heap.size w w'))
    (H4 : Hid (∀ w, Calls Try.prog 15 #[.agg #[.int .u64 vh, .int .u64 ll], .agg #[.int .u64 xh, .int .u64 xl]] w fun e w' => e = .returned (.int .i64 c1) ∧ Below w.heap.size w w'))
    (H5 : Hid (∀ w, Calls Try.prog 15 #[.agg #[.int .u64 vh, .int .u64 vl], .agg #[.int .u64 xh, .int .u64 xl]] w fun e w' => e = .returned (.int .i64 c2) ∧ Below w.heap.size w w'))
    (H7 : Hid (∀ w, Calls Try.prog 8 #[.agg #[.int .u64 vh, .int .u64 vl], .agg #[.int .u64 yh, .int .u64 yl], .int .i64 m1] w fun e w' => e = .returned (.tuple #[.agg #[.int .u64 vh, .int .u64 vl], .int .i64 0]) ∧ Below w.heap.size w w'))
    (HK : Hid (∀ w, Calls Try.prog 10 #[] w fun e w' => e = .returned (.bool true) ∧ Below w.heap.size w w'))
    : Calls Try.prog 6 #[.agg #[.int .u64 xh, .int .u64 xl], .agg #[.int .u64 yh, .int .u64 yl], .agg #[.int .i64 m0, .int .i64 m1]] w fun e w' => e = .returned (.bool true) ∧ Below w.heap.size w w' := by
  go_enter Try.func6, Try.ntmps6
  go_wp2_with fail
  
  refine (H1.out _).mono ?_
  rintro e V1 ⟨rfl, hb1⟩
  have B1 := Lib.hid (((((Below.refl w.heap.size w).alloc (Nat.le_refl _) _).alloc (by simp <;> omega) _).alloc (by simp <;> omega) _).trans (hb1.mono (by first | assumption | (simp <;> omega) | (simp; done))))
  have X1 := Lib.hid (row_call hb1 (row_alloc (row_alloc (heap_alloc_new _ _) _) _))
  have U1 := Lib.hid (row_at (k' := w.heap.size + 1) (by simp) (row_call hb1 (row_alloc (heap_alloc_new _ _) _)))
  have M1 := Lib.hid (row_at (k' := w.heap.size + 1 + 1) (by simp) (row_call hb1 (heap_alloc_new _ _)))
  clear hb1
  have X1_0 : V1.cell? ⟨w.heap.size, 0, none⟩ = some (.int .u64 xh) := cell_of_row _ _ _ _ _ _ X1.out
  have X1_1 : V1.cell? ⟨w.heap.size, 1, none⟩ = some (.int .u64 xl) := cell_of_row _ _ _ _ _ _ X1.out
  have U1_0 : V1.cell? ⟨w.heap.size + 1, 0, none⟩ = some (.int .u64 yh) := cell_of_row _ _ _ _ _ _ U1.out
  have U1_1 : V1.cell? ⟨w.heap.size + 1, 1, none⟩ = some (.int .u64 yl) := cell_of_row _ _ _ _ _ _ U1.out
  have M1_0 : V1.cell? ⟨w.heap.size + 1 + 1, 0, none⟩ = some (.int .i64 m0) := cell_of_row _ _ _ _ _ _ M1.out
  have M1_1 : V1.cell? ⟨w.heap.size + 1 + 1, 1, none⟩ = some (.int .i64 m1) := cell_of_row _ _ _ _ _ _ M1.out
  have zX1 := lt_of_heap X1.out
  have zU1 := lt_of_heap U1.out
  have zM1 := lt_of_heap M1.out
  go_simp
  go_wp2_with fail
  refine (H2.out _).mono ?_
  rintro e V2 ⟨rfl, hb2⟩
  clear X1_0 X1_1 zX1 U1_0 U1_1 zU1 M1_0 M1_1 zM1
  have nX1I1 := Lib.hid (lt_of_heap X1.out)
  have nU1I1 := Lib.hid (lt_of_heap U1.out)
  have nM1I1 := Lib.hid (lt_of_heap M1.out)
  have B2 := Lib.hid (((B1.out).alloc (B1.out.size) _).trans (hb2.mono (by have := B1.out.size; first | assumption | (simp <;> omega) | (simp; done))))
  replace X1 := Lib.hid (row_call hb2 (row_alloc X1.out _))
  replace U1 := Lib.hid (row_call hb2 (row_alloc U1.out _))
  replace M1 := Lib.hid (row_call hb2 (row_alloc M1.out _))
  have I1 := Lib.hid (row_call hb2 (heap_alloc_new _ _))
  clear hb2
  have X1_0 : V2.cell? ⟨w.heap.size, 0, none⟩ = some (.int .u64 xh) := cell_of_row _ _ _ _ _ _ X1.out
  have X1_1 : V2.cell? ⟨w.heap.size, 1, none⟩ = some (.int .u64 xl) := cell_of_row _ _ _ _ _ _ X1.out
  have U1_0 : V2.cell? ⟨w.heap.size + 1, 0, none⟩ = some (.int .u64 yh) := cell_of_row _ _ _ _ _ _ U1.out
  have U1_1 : V2.cell? ⟨w.heap.size + 1, 1, none⟩ = some (.int .u64 yl) := cell_of_row _ _ _ _ _ _ U1.out
  have M1_0 : V2.cell? ⟨w.heap.size + 1 + 1, 0, none⟩ = some (.int .i64 m0) := cell_of_row _ _ _ _ _ _ M1.out
  have M1_1 : V2.cell? ⟨w.heap.size + 1 + 1, 1, none⟩ = some (.int .i64 m1) := cell_of_row _ _ _ _ _ _ M1.out
  have I1_0 : V2.cell? ⟨V1.heap.size, 0, none⟩ = some (.int .u64 vh) := cell_of_row _ _ _ _ _ _ I1.out
  have I1_1 : V2.cell? ⟨V1.heap.size, 1, none⟩ = some (.int .u64 vl) := cell_of_row _ _ _ _ _ _ I1.out
  have zX1 := lt_of_heap X1.out
  have zU1 := lt_of_heap U1.out
  have zM1 := lt_of_heap M1.out
  have zI1 := lt_of_heap I1.out
  go_simp
  go_wp2_with fail
  refine (H3.out _).mono ?_
  rintro e V3 ⟨rfl, hb3⟩
  clear X1_0 X1_1 zX1 U1_0 U1_1 zU1 M1_0 M1_1 zM1 I1_0 I1_1 zI1
  have nX1L1 := Lib.hid (lt_of_heap X1.out)
  have nU1L1 := Lib.hid (lt_of_heap U1.out)
  have nM1L1 := Lib.hid (lt_of_heap M1.out)
  have nI1L1 := Lib.hid (lt_of_heap I1.out)
  have B3 := Lib.hid (((B2.out).alloc (B2.out.size) _).trans (hb3.mono (by have := B2.out.size; first | assumption | (simp <;> omega) | (simp; done))))
  replace X1 := Lib.hid (row_call hb3 (row_alloc X1.out _))
  replace U1 := Lib.hid (row_call hb3 (row_alloc U1.out _))
  replace M1 := Lib.hid (row_call hb3 (row_alloc M1.out _))
  replace I1 := Lib.hid (row_call hb3 (row_alloc I1.out _))
  have L1 := Lib.hid (row_call hb3 (heap_alloc_new _ _))
  clear hb3
  have X1_0 : V3.cell? ⟨w.heap.size, 0, none⟩ = some (.int .u64 xh) := cell_of_row _ _ _ _ _ _ X1.out
  have X1_1 : V3.cell? ⟨w.heap.size, 1, none⟩ = some (.int .u64 xl) := cell_of_row _ _ _ _ _ _ X1.out
  have U1_0 : V3.cell? ⟨w.heap.size + 1, 0, none⟩ = some (.int .u64 yh) := cell_of_row _ _ _ _ _ _ U1.out
  have U1_1 : V3.cell? ⟨w.heap.size + 1, 1, none⟩ = some (.int .u64 yl) := cell_of_row _ _ _ _ _ _ U1.out
  have M1_0 : V3.cell? ⟨w.heap.size + 1 + 1, 0, none⟩ = some (.int .i64 m0) := cell_of_row _ _ _ _ _ _ M1.out
  have M1_1 : V3.cell? ⟨w.heap.size + 1 + 1, 1, none⟩ = some (.int .i64 m1) := cell_of_row _ _ _ _ _ _ M1.out
  have I1_0 : V3.cell? ⟨V1.heap.size, 0, none⟩ = some (.int .u64 vh) := cell_of_row _ _ _ _ _ _ I1.out
  have I1_1 : V3.cell? ⟨V1.heap.size, 1, none⟩ = some (.int .u64 vl) := cell_of_row _ _ _ _ _ _ I1.out
  have L1_0 : V3.cell? ⟨V2.heap.size, 0, none⟩ = some (.int .u64 vh) := cell_of_row _ _ _ _ _ _ L1.out
  have L1_1 : V3.cell? ⟨V2.heap.size, 1, none⟩ = some (.int .u64 ll) := cell_of_row _ _ _ _ _ _ L1.out
  have zX1 := lt_of_heap X1.out
  have zU1 := lt_of_heap U1.out
  have zM1 := lt_of_heap M1.out
  have zI1 := lt_of_heap I1.out
  have zL1 := lt_of_heap L1.out
  go_simp
  go_wp2_with fail
  refine (H4.out _).mono ?_
  rintro e V4 ⟨rfl, hb4⟩
  clear X1_0 X1_1 zX1 U1_0 U1_1 zU1 M1_0 M1_1 zM1 I1_0 I1_1 zI1 L1_0 L1_1 zL1
  have nX1G1 := Lib.hid (lt_of_heap X1.out)
  have nU1G1 := Lib.hid (lt_of_heap U1.out)
  have nM1G1 := Lib.hid (lt_of_heap M1.out)
  have nI1G1 := Lib.hid (lt_of_heap I1.out)
  have nL1G1 := Lib.hid (lt_of_heap L1.out)
  have B4 := Lib.hid (((B3.out).alloc (B3.out.size) _).trans (hb4.mono (by have := B3.out.size; first | assumption | (simp <;> omega) | (simp; done))))
  replace X1 := Lib.hid (row_call hb4 (row_alloc X1.out _))
  replace U1 := Lib.hid (row_call hb4 (row_alloc U1.out _))
  replace M1 := Lib.hid (row_call hb4 (row_alloc M1.out _))
  replace I1 := Lib.hid (row_call hb4 (row_alloc I1.out _))
  replace L1 := Lib.hid (row_call hb4 (row_alloc L1.out _))
  have G1 := Lib.hid (row_call hb4 (heap_alloc_new _ _))
  clear hb4
  have X1_0 : V4.cell? ⟨w.heap.size, 0, none⟩ = some (.int .u64 xh) := cell_of_row _ _ _ _ _ _ X1.out
  have X1_1 : V4.cell? ⟨w.heap.size, 1, none⟩ = some (.int .u64 xl) := cell_of_row _ _ _ _ _ _ X1.out
  have U1_0 : V4.cell? ⟨w.heap.size + 1, 0, none⟩ = some (.int .u64 yh) := cell_of_row _ _ _ _ _ _ U1.out
  have U1_1 : V4.cell? ⟨w.heap.size + 1, 1, none⟩ = some (.int .u64 yl) := cell_of_row _ _ _ _ _ _ U1.out
  have M1_0 : V4.cell? ⟨w.heap.size + 1 + 1, 0, none⟩ = some (.int .i64 m0) := cell_of_row _ _ _ _ _ _ M1.out
  have M1_1 : V4.cell? ⟨w.heap.size + 1 + 1, 1, none⟩ = some (.int .i64 m1) := cell_of_row _ _ _ _ _ _ M1.out
  have I1_0 : V4.cell? ⟨V1.heap.size, 0, none⟩ = some (.int .u64 vh) := cell_of_row _ _ _ _ _ _ I1.out
  have I1_1 : V4.cell? ⟨V1.heap.size, 1, none⟩ = some (.int .u64 vl) := cell_of_row _ _ _ _ _ _ I1.out
  have L1_0 : V4.cell? ⟨V2.heap.size, 0, none⟩ = some (.int .u64 vh) := cell_of_row _ _ _ _ _ _ L1.out
  have L1_1 : V4.cell? ⟨V2.heap.size, 1, none⟩ = some (.int .u64 ll) := cell_of_row _ _ _ _ _ _ L1.out
  have G1_0 : V4.cell? ⟨V3.heap.size, 0, none⟩ = some (.int .u64 vh) := cell_of_row _ _ _ _ _ _ G1.out
  have G1_1 : V4.cell? ⟨V3.heap.size, 1, none⟩ = some (.int .u64 vl) := cell_of_row _ _ _ _ _ _ G1.out
  have zX1 := lt_of_heap X1.out
  have zU1 := lt_of_heap U1.out
  have zM1 := lt_of_heap M1.out
  have zI1 := lt_of_heap I1.out
  have zL1 := lt_of_heap L1.out
  have zG1 := lt_of_heap G1.out
  go_simp
  go_wp2_with fail
  refine (H5.out _).mono ?_
  rintro e V5 ⟨rfl, hb5⟩
  clear X1_0 X1_1 zX1 U1_0 U1_1 zU1 M1_0 M1_1 zM1 I1_0 I1_1 zI1 L1_0 L1_1 zL1 G1_0 G1_1 zG1
  have B5 : Hid (Below w.heap.size w V5) := by first | exact Lib.hid ((B4.out).trans (hb5.mono (by have := B4.out.size; first | assumption | (simp <;> omega) | (simp; done)))) | exact Lib.hid (((B4.out).alloc (B4.out.size) _).trans (hb5.mono (by have := B4.out.size; first | assumption | (simp <;> omega) | (simp; done)))) | exact Lib.hid ((((B4.out).alloc (B4.out.size) _).alloc (by have := B4.out.size; simp <;> omega) _).trans (hb5.mono (by have := B4.out.size; first | assumption | (simp <;> omega) | (simp; done)))) | exact Lib.hid (((((B4.out).alloc (B4.out.size) _).alloc (by have := B4.out.size; simp <;> omega) _).alloc (by have := B4.out.size; simp <;> omega) _).trans (hb5.mono (by have := B4.out.size; first | assumption | (simp <;> omega) | (simp; done))))
  first | replace X1 := Lib.hid (row_call hb5 X1.out) | replace X1 := Lib.hid (row_call hb5 (row_alloc X1.out _)) | replace X1 := Lib.hid (row_call hb5 (row_alloc (row_alloc X1.out _) _)) | replace X1 := Lib.hid (row_call hb5 (row_alloc (row_alloc (row_alloc X1.out _) _) _))
  first | replace U1 := Lib.hid (row_call hb5 U1.out) | replace U1 := Lib.hid (row_call hb5 (row_alloc U1.out _)) | replace U1 := Lib.hid (row_call hb5 (row_alloc (row_alloc U1.out _) _)) | replace U1 := Lib.hid (row_call hb5 (row_alloc (row_alloc (row_alloc U1.out _) _) _))
  first | replace M1 := Lib.hid (row_call hb5 M1.out) | replace M1 := Lib.hid (row_call hb5 (row_alloc M1.out _)) | replace M1 := Lib.hid (row_call hb5 (row_alloc (row_alloc M1.out _) _)) | replace M1 := Lib.hid (row_call hb5 (row_alloc (row_alloc (row_alloc M1.out _) _) _))
  first | replace I1 := Lib.hid (row_call hb5 I1.out) | replace I1 := Lib.hid (row_call hb5 (row_alloc I1.out _)) | replace I1 := Lib.hid (row_call hb5 (row_alloc (row_alloc I1.out _) _)) | replace I1 := Lib.hid (row_call hb5 (row_alloc (row_alloc (row_alloc I1.out _) _) _))
  first | replace L1 := Lib.hid (row_call hb5 L1.out) | replace L1 := Lib.hid (row_call hb5 (row_alloc L1.out _)) | replace L1 := Lib.hid (row_call hb5 (row_alloc (row_alloc L1.out _) _)) | replace L1 := Lib.hid (row_call hb5 (row_alloc (row_alloc (row_alloc L1.out _) _) _))
  first | replace G1 := Lib.hid (row_call hb5 G1.out) | replace G1 := Lib.hid (row_call hb5 (row_alloc G1.out _)) | replace G1 := Lib.hid (row_call hb5 (row_alloc (row_alloc G1.out _) _)) | replace G1 := Lib.hid (row_call hb5 (row_alloc (row_alloc (row_alloc G1.out _) _) _))
  clear hb5
  have X1_0 : V5.cell? ⟨w.heap.size, 0, none⟩ = some (.int .u64 xh) := cell_of_row _ _ _ _ _ _ X1.out
  have X1_1 : V5.cell? ⟨w.heap.size, 1, none⟩ = some (.int .u64 xl) := cell_of_row _ _ _ _ _ _ X1.out
  have U1_0 : V5.cell? ⟨w.heap.size + 1, 0, none⟩ = some (.int .u64 yh) := cell_of_row _ _ _ _ _ _ U1.out
  have U1_1 : V5.cell? ⟨w.heap.size + 1, 1, none⟩ = some (.int .u64 yl) := cell_of_row _ _ _ _ _ _ U1.out
  have M1_0 : V5.cell? ⟨w.heap.size + 1 + 1, 0, none⟩ = some (.int .i64 m0) := cell_of_row _ _ _ _ _ _ M1.out
  have M1_1 : V5.cell? ⟨w.heap.size + 1 + 1, 1, none⟩ = some (.int .i64 m1) := cell_of_row _ _ _ _ _ _ M1.out
  have I1_0 : V5.cell? ⟨V1.heap.size, 0, none⟩ = some (.int .u64 vh) := cell_of_row _ _ _ _ _ _ I1.out
  have I1_1 : V5.cell? ⟨V1.heap.size, 1, none⟩ = some (.int .u64 vl) := cell_of_row _ _ _ _ _ _ I1.out
  have L1_0 : V5.cell? ⟨V2.heap.size, 0, none⟩ = some (.int .u64 vh) := cell_of_row _ _ _ _ _ _ L1.out
  have L1_1 : V5.cell? ⟨V2.heap.size, 1, none⟩ = some (.int .u64 ll) := cell_of_row _ _ _ _ _ _ L1.out
  have G1_0 : V5.cell? ⟨V3.heap.size, 0, none⟩ = some (.int .u64 vh) := cell_of_row _ _ _ _ _ _ G1.out
  have G1_1 : V5.cell? ⟨V3.heap.size, 1, none⟩ = some (.int .u64 vl) := cell_of_row _ _ _ _ _ _ G1.out
  have zX1 := lt_of_heap X1.out
  have zU1 := lt_of_heap U1.out
  have zM1 := lt_of_heap M1.out
  have zI1 := lt_of_heap I1.out
  have zL1 := lt_of_heap L1.out
  have zG1 := lt_of_heap G1.out
  go_simp
  go_wp2_with fail
  refine (H7.out _).mono ?_
  rintro e V6 ⟨rfl, hb6⟩
  clear X1_0 X1_1 zX1 U1_0 U1_1 zU1 M1_0 M1_1 zM1 I1_0 I1_1 zI1 L1_0 L1_1 zL1 G1_0 G1_1 zG1
  have B6 : Hid (Below w.heap.size w V6) := by first | exact Lib.hid ((B5.out).trans (hb6.mono (by have := B5.out.size; first | assumption | (simp <;> omega) | (simp; done)))) | exact Lib.hid (((B5.out).alloc (B5.out.size) _).trans (hb6.mono (by have := B5.out.size; first | assumption | (simp <;> omega) | (simp; done)))) | exact Lib.hid ((((B5.out).alloc (B5.out.size) _).alloc (by have := B5.out.size; simp <;> omega) _).trans (hb6.mono (by have := B5.out.size; first | assumption | (simp <;> omega) | (simp; done)))) | exact Lib.hid (((((B5.out).alloc (B5.out.size) _).alloc (by have := B5.out.size; simp <;> omega) _).alloc (by have := B5.out.size; simp <;> omega) _).trans (hb6.mono (by have := B5.out.size; first | assumption | (simp <;> omega) | (simp; done))))
  first | replace X1 := Lib.hid (row_call hb6 X1.out) | replace X1 := Lib.hid (row_call hb6 (row_alloc X1.out _)) | replace X1 := Lib.hid (row_call hb6 (row_alloc (row_alloc X1.out _) _)) | replace X1 := Lib.hid (row_call hb6 (row_alloc (row_alloc (row_alloc X1.out _) _) _))
  first | replace U1 := Lib.hid (row_call hb6 U1.out) | replace U1 := Lib.hid (row_call hb6 (row_alloc U1.out _)) | replace U1 := Lib.hid (row_call hb6 (row_alloc (row_alloc U1.out _) _)) | replace U1 := Lib.hid (row_call hb6 (row_alloc (row_alloc (row_alloc U1.out _) _) _))
  first | replace M1 := Lib.hid (row_call hb6 M1.out) | replace M1 := Lib.hid (row_call hb6 (row_alloc M1.out _)) | replace M1 := Lib.hid (row_call hb6 (row_alloc (row_alloc M1.out _) _)) | replace M1 := Lib.hid (row_call hb6 (row_alloc (row_alloc (row_alloc M1.out _) _) _))
  first | replace I1 := Lib.hid (row_call hb6 I1.out) | replace I1 := Lib.hid (row_call hb6 (row_alloc I1.out _)) | replace I1 := Lib.hid (row_call hb6 (row_alloc (row_alloc I1.out _) _)) | replace I1 := Lib.hid (row_call hb6 (row_alloc (row_alloc (row_alloc I1.out _) _) _))
  first | replace L1 := Lib.hid (row_call hb6 L1.out) | replace L1 := Lib.hid (row_call hb6 (row_alloc L1.out _)) | replace L1 := Lib.hid (row_call hb6 (row_alloc (row_alloc L1.out _) _)) | replace L1 := Lib.hid (row_call hb6 (row_alloc (row_alloc (row_alloc L1.out _) _) _))
  first | replace G1 := Lib.hid (row_call hb6 G1.out) | replace G1 := Lib.hid (row_call hb6 (row_alloc G1.out _)) | replace G1 := Lib.hid (row_call hb6 (row_alloc (row_alloc G1.out _) _)) | replace G1 := Lib.hid (row_call hb6 (row_alloc (row_alloc (row_alloc G1.out _) _) _))
  clear hb6
  have X1_0 : V6.cell? ⟨w.heap.size, 0, none⟩ = some (.int .u64 xh) := cell_of_row _ _ _ _ _ _ X1.out
  have X1_1 : V6.cell? ⟨w.heap.size, 1, none⟩ = some (.int .u64 xl) := cell_of_row _ _ _ _ _ _ X1.out
  have U1_0 : V6.cell? ⟨w.heap.size + 1, 0, none⟩ = some (.int .u64 yh) := cell_of_row _ _ _ _ _ _ U1.out
  have U1_1 : V6.cell? ⟨w.heap.size + 1, 1, none⟩ = some (.int .u64 yl) := cell_of_row _ _ _ _ _ _ U1.out
  have M1_0 : V6.cell? ⟨w.heap.size + 1 + 1, 0, none⟩ = some (.int .i64 m0) := cell_of_row _ _ _ _ _ _ M1.out
  have M1_1 : V6.cell? ⟨w.heap.size + 1 + 1, 1, none⟩ = some (.int .i64 m1) := cell_of_row _ _ _ _ _ _ M1.out
  have I1_0 : V6.cell? ⟨V1.heap.size, 0, none⟩ = some (.int .u64 vh) := cell_of_row _ _ _ _ _ _ I1.out
  have I1_1 : V6.cell? ⟨V1.heap.size, 1, none⟩ = some (.int .u64 vl) := cell_of_row _ _ _ _ _ _ I1.out
  have L1_0 : V6.cell? ⟨V2.heap.size, 0, none⟩ = some (.int .u64 vh) := cell_of_row _ _ _ _ _ _ L1.out
  have L1_1 : V6.cell? ⟨V2.heap.size, 1, none⟩ = some (.int .u64 ll) := cell_of_row _ _ _ _ _ _ L1.out
  have G1_0 : V6.cell? ⟨V3.heap.size, 0, none⟩ = some (.int .u64 vh) := cell_of_row _ _ _ _ _ _ G1.out
  have G1_1 : V6.cell? ⟨V3.heap.size, 1, none⟩ = some (.int .u64 vl) := cell_of_row _ _ _ _ _ _ G1.out
  have zX1 := lt_of_heap X1.out
  have zU1 := lt_of_heap U1.out
  have zM1 := lt_of_heap M1.out
  have zI1 := lt_of_heap I1.out
  have zL1 := lt_of_heap L1.out
  have zG1 := lt_of_heap G1.out
  go_simp
  go_wp2_with fail
  refine (HK.out _).mono ?_
  rintro e V7 ⟨rfl, hb7⟩
  clear X1_0 X1_1 zX1 U1_0 U1_1 zU1 M1_0 M1_1 zM1 I1_0 I1_1 zI1 L1_0 L1_1 zL1 G1_0 G1_1 zG1
  have nX1B1 := Lib.hid (lt_of_heap X1.out)
  have nU1B1 := Lib.hid (lt_of_heap U1.out)
  have nM1B1 := Lib.hid (lt_of_heap M1.out)
  have nI1B1 := Lib.hid (lt_of_heap I1.out)
  have nL1B1 := Lib.hid (lt_of_heap L1.out)
  have nG1B1 := Lib.hid (lt_of_heap G1.out)
  have B7 := Lib.hid (((B6.out).alloc (B6.out.size) _).trans (hb7.mono (by have := B6.out.size; first | assumption | (simp <;> omega) | (simp; done))))
  replace X1 := Lib.hid (row_call hb7 (row_alloc X1.out _))
  replace U1 := Lib.hid (row_call hb7 (row_alloc U1.out _))
  replace M1 := Lib.hid (row_call hb7 (row_alloc M1.out _))
  replace I1 := Lib.hid (row_call hb7 (row_alloc I1.out _))
  replace L1 := Lib.hid (row_call hb7 (row_alloc L1.out _))
  replace G1 := Lib.hid (row_call hb7 (row_alloc G1.out _))
  have B1 := Lib.hid (row_call hb7 (heap_alloc_new _ _))
  clear hb7
  have X1_0 : V7.cell? ⟨w.heap.size, 0, none⟩ = some (.int .u64 xh) := cell_of_row _ _ _ _ _ _ X1.out
  have X1_1 : V7.cell? ⟨w.heap.size, 1, none⟩ = some (.int .u64 xl) := cell_of_row _ _ _ _ _ _ X1.out
  have U1_0 : V7.cell? ⟨w.heap.size + 1, 0, none⟩ = some (.int .u64 yh) := cell_of_row _ _ _ _ _ _ U1.out
  have U1_1 : V7.cell? ⟨w.heap.size + 1, 1, none⟩ = some (.int .u64 yl) := cell_of_row _ _ _ _ _ _ U1.out
  have M1_0 : V7.cell? ⟨w.heap.size + 1 + 1, 0, none⟩ = some (.int .i64 m0) := cell_of_row _ _ _ _ _ _ M1.out
  have M1_1 : V7.cell? ⟨w.heap.size + 1 + 1, 1, none⟩ = some (.int .i64 m1) := cell_of_row _ _ _ _ _ _ M1.out
  have I1_0 : V7.cell? ⟨V1.heap.size, 0, none⟩ = some (.int .u64 vh) := cell_of_row _ _ _ _ _ _ I1.out
  have I1_1 : V7.cell? ⟨V1.heap.size, 1, none⟩ = some (.int .u64 vl) := cell_of_row _ _ _ _ _ _ I1.out
  have L1_0 : V7.cell? ⟨V2.heap.size, 0, none⟩ = some (.int .u64 vh) := cell_of_row _ _ _ _ _ _ L1.out
  have L1_1 : V7.cell? ⟨V2.heap.size, 1, none⟩ = some (.int .u64 ll) := cell_of_row _ _ _ _ _ _ L1.out
  have G1_0 : V7.cell? ⟨V3.heap.size, 0, none⟩ = some (.int .u64 vh) := cell_of_row _ _ _ _ _ _ G1.out
  have G1_1 : V7.cell? ⟨V3.heap.size, 1, none⟩ = some (.int .u64 vl) := cell_of_row _ _ _ _ _ _ G1.out
  have B1_0 : V7.cell? ⟨V6.heap.size, 0, none⟩ = some (.int .u64 vh) := cell_of_row _ _ _ _ _ _ B1.out
  have B1_1 : V7.cell? ⟨V6.heap.size, 1, none⟩ = some (.int .u64 vl) := cell_of_row _ _ _ _ _ _ B1.out
  have zX1 := lt_of_heap X1.out
  have zU1 := lt_of_heap U1.out
  have zM1 := lt_of_heap M1.out
  have zI1 := lt_of_heap I1.out
  have zL1 := lt_of_heap L1.out
  have zG1 := lt_of_heap G1.out
  have zB1 := lt_of_heap B1.out
  go_simp
  go_wp2
  go_ret
  exact ⟨rfl, by first | exact B7.out | exact B7.out.alloc B7.out.size _⟩
theorem rnd_floor (x y : Int) : rnd x y 0 = x / y * y := by
  unfold rnd
  have e := Int.emod_add_mul_ediv x y
  rw [Int.mul_comm] at e
  split
  · omega
  · rw [if_neg]; unfold upB; simp
theorem rnd_ceil (x y : Int) : rnd x y 1 = if x % y = 0 then x / y * y else x / y * y + y := by
  unfold rnd
  have e := Int.emod_add_mul_ediv x y
  rw [Int.mul_comm] at e
  split
  · omega
  · rw [if_pos]; unfold upB; simp
theorem rnd_or (x y m : Int) : rnd x y m = rnd x y 0 ∨ rnd x y m = rnd x y 1 := by
  rw [rnd_floor, rnd_ceil]
  have e := Int.emod_add_mul_ediv x y
  rw [Int.mul_comm] at e
  unfold rnd
  by_cases h : x % y = 0
  · rw [if_pos h, if_pos h]; left; omega
  · rw [if_neg h, if_neg h]
    split
    · right; rfl
    · left; rfl
theorem rnd_mult (x y m : Int) (hy : y ≠ 0) : rnd x y m % y = 0 := by
  rcases rnd_or x y m with h | h
  · rw [h, rnd_floor]; exact Int.mul_emod_left _ _
  · rw [h, rnd_ceil]
    split
    · exact Int.mul_emod_left _ _
    · rw [show x / y * y + y = (x / y + 1) * y by rw [Int.add_mul, Int.one_mul]]; exact Int.mul_emod_left _ _
theorem rnd_again {x y m : Int} (h : x % y = 0) : rnd x y m = x := if_pos h
theorem rnd_le (x y : Int) (hy : 1 ≤ y) : rnd x y 0 ≤ x ∧ x ≤ rnd x y 1 := by
  rw [rnd_floor, rnd_ceil]
  have e := Int.emod_add_mul_ediv x y
  rw [Int.mul_comm] at e
  have r0 := Int.emod_nonneg x (show y ≠ 0 by omega)
  have r1 := Int.emod_lt_of_pos x (show 0 < y by omega)
  split <;> omega
theorem badW_mode {x y m m' : Int} (h : badW x y m = false) (h0 : 0 ≤ m') (h8 : m' ≤ 8) : badW x y m' = false := by
  obtain ⟨b1, b2, b3, b4, b5⟩ := badW_ok h
  cases hb : badW x y m'
  · rfl
  · exact absurd ⟨b1, b2, b3, h0, h8⟩ (badW_no hb)
theorem roundAgain_walk (h l p q : Nat) (m0 m1 : Int) (u : U h) (v : U l) (u2 : U p) (v2 : U q) (b0 : in64 m0) (b1 : in64 m1) (w : World) :
    Calls Try.prog 6 #[.agg #[.int .u64 h, .int .u64 l], .agg #[.int .u64 p, .int .u64 q], .agg #[.int .i64 m0, .int .i64 m1]] w fun e w' => e = .returned (.bool true) ∧ Below w.heap.size w w' := by
  obtain ⟨x, ix, rfl, rfl⟩ : ∃ x, in128 x ∧ zh x = h ∧ zl x = l := ⟨sz h l, sz_in h l u v, zh_sz h l u v, zl_sz h l u v⟩
  obtain ⟨y, iy, rfl, rfl⟩ : ∃ y, in128 y ∧ zh y = p ∧ zl y = q := ⟨sz p q, sz_in p q u2 v2, zh_sz p q u2 v2, zl_sz p q u2 v2⟩
  have X1 := roundWide_any x y m0 ix iy
  have X2 := roundWide_any x y 0 ix iy
  have X3 := roundWide_any x y 1 ix iy
  have HK := Lib.hid awake5_any
  cases hb : badW x y m0
  · obtain ⟨b1', b2', b3', b4', b5'⟩ := badW_ok hb
    obtain ⟨i1, i2, i3⟩ := @rnd_in x y m0 b1' b2' b3'
    obtain ⟨j1, _, _⟩ := @rnd_in x y 0 b1' b2' b3'
    obtain ⟨k1, _, _⟩ := @rnd_in x y 1 b1' b2' b3'
    have hb0 := badW_mode (m' := 0) hb (by omega) (by omega)
    have hb1 := badW_mode (m' := 1) hb (by omega) (by omega)
    rw [(rw_ok hb).1, (rw_ok hb).2] at X1
    rw [(rw_ok hb0).1, (rw_ok hb0).2] at X2
    rw [(rw_ok hb1).1, (rw_ok hb1).2] at X3
    have hle := rnd_le x y b1'
    have hm := rnd_mult x y m0 (by omega)
    have hor := rnd_or x y m0
    have X4 := rSigned_any (rnd x y 0) x j1 ix
    have X5 := rSigned_any (rnd x y 1) x k1 ix
    have g1 : decide (0 < cmpZ (rnd x y 0) x) = false := decide_eq_false (by have := cmpZ_le.mpr hle.1; omega)
    have g2 : decide (cmpZ (rnd x y 1) x < 0) = false := decide_eq_false (fun h => by have := cmpZ_lt.mp h; omega)
    have X7 := roundWide_any (rnd x y m0) y m1 i1 iy
    have X8 := rwWide_any (rnd x y m0) y m1 i1 iy
    generalize rnd x y m0 = a at *
    generalize rnd x y 0 = lo at *
    generalize rnd x y 1 = hg at *
    cases hc : badW a y m1
    · rw [(rw_ok hc).1, (rw_ok hc).2, rnd_again hm] at X7
      rcases hor with h | h
      · subst h
        exact again_a0 _ _ _ _ _ _ _ _ m0 m1 _ _ 0 0 0 w g1 g2 (Lib.hid X1) (Lib.hid X2) (Lib.hid X3) (Lib.hid X4) (Lib.hid X5) (Lib.hid X7) HK
      · subst h
        by_cases hz : zh a = zh lo
        · by_cases hz2 : zl a = zl lo
          · have := hl_inj i1 j1 hz hz2
            subst this
            exact again_a0 _ _ _ _ _ _ _ _ m0 m1 _ _ 0 0 0 w g1 g2 (Lib.hid X1) (Lib.hid X2) (Lib.hid X3) (Lib.hid X4) (Lib.hid X5) (Lib.hid X7) HK
          · rw [← hz] at X2 X4
            exact again_c0 _ _ _ _ _ _ _ m0 m1 _ _ 0 0 0 w g1 g2 hz2 (Lib.hid X1) (Lib.hid X2) (Lib.hid X3) (Lib.hid X4) (Lib.hid X5) (Lib.hid X7) HK
        · exact again_b0 _ _ _ _ _ _ _ _ m0 m1 _ _ 0 0 0 w g1 g2 hz (Lib.hid X1) (Lib.hid X2) (Lib.hid X3) (Lib.hid X4) (Lib.hid X5) (Lib.hid X7) HK
    · rw [(rw_bad hc).1, (rw_bad hc).2, zh_zero, zl_zero] at X7 X8
      rcases hor with h | h
      · subst h
        exact again_a5 _ _ _ _ _ _ _ _ m0 m1 _ _ 0 0 0 w g1 g2 (Lib.hid X1) (Lib.hid X2) (Lib.hid X3) (Lib.hid X4) (Lib.hid X5) (Lib.hid X7) (Lib.hid X8) HK
      · subst h
        by_cases hz : zh a = zh lo
        · by_cases hz2 : zl a = zl lo
          · have := hl_inj i1 j1 hz hz2
            subst this
            exact again_a5 _ _ _ _ _ _ _ _ m0 m1 _ _ 0 0 0 w g1 g2 (Lib.hid X1) (Lib.hid X2) (Lib.hid X3) (Lib.hid X4) (Lib.hid X5) (Lib.hid X7) (Lib.hid X8) HK
          · rw [← hz] at X2 X4
            exact again_c5 _ _ _ _ _ _ _ m0 m1 _ _ 0 0 0 w g1 g2 hz2 (Lib.hid X1) (Lib.hid X2) (Lib.hid X3) (Lib.hid X4) (Lib.hid X5) (Lib.hid X7) (Lib.hid X8) HK
        · exact again_b5 _ _ _ _ _ _ _ _ m0 m1 _ _ 0 0 0 w g1 g2 hz (Lib.hid X1) (Lib.hid X2) (Lib.hid X3) (Lib.hid X4) (Lib.hid X5) (Lib.hid X7) (Lib.hid X8) HK
  · rw [(rw_bad hb).2] at X1
    exact again_bad _ _ _ _ _ _ _ _ _ _ m0 m1 0 0 _ _ _ w (by decide) (Lib.hid X1) (Lib.hid X2) (Lib.hid X3) HK
end Go.Proofs.Ytlfbiidnfheelaa
