/- Contracts of package dur: parts joined, sums, nanoseconds. -/
import Derived.Test.YtjgpjphffjjhdaaDurB
namespace Go.Proofs.Ytjgpjphffjjhdaa
set_option linter.unusedVariables false
set_option linter.unusedSimpArgs false
open Go.ChangeShapes Go.WideShapes Go.ChangeAt Go.RowKit

theorem duE_far {T : Int} (h : ¬ in64 (T / 1000000000)) : ¬ (-1099511627776000000000 ≤ T ∧ T ≤ 1099511627776000000000) := by unfold in64 at h; omega
set_option maxHeartbeats 1600000 in
set_option maxRecDepth 100000 in
theorem join_any (x y : Int) (bx : in128 x) (b : in128 y) (bs : in128 (x + y / 1000000000)) (w : World) :
    Calls Try.prog 29 #[.agg #[.int .u64 (zh x), .int .u64 (zl x)], .agg #[.int .u64 (zh y), .int .u64 (zl y)]] w fun e w' => e = .returned (.tuple #[.agg #[.int .i64 (duS (nanos x y)), .int .i64 (duN (nanos x y))], .int .i64 (duE (nanos x y))]) ∧ Below w.heap.size w w' := by
  have X1 := dFloor_any y 1000000000 b (by unfold U; omega) (by omega)
  rw [show ((1000000000 : Nat) : Int) = 1000000000 from rfl] at X1
  have X2 := zAdd_any x (y / 1000000000)
  have X3 := zInt_any _ bs
  have e1 : nanos x y / 1000000000 = x + y / 1000000000 := by unfold nanos; omega
  have e2 : nanos x y % 1000000000 = y % 1000000000 := by unfold nanos; omega
  have r0 : 0 ≤ y % 1000000000 := by omega
  have r1 : y % 1000000000 < 1000000000 := by omega
  have f1 : wrap64 (y % 1000000000) = y % 1000000000 := by unfold wrap64; omega
  have ck := dd_ck (nanos x y)
  rw [e1, e2] at ck
  have X4 := dCheck_any (x + y / 1000000000) (y % 1000000000)
  rw [ck] at X4
  have H1 := Lib.hid X1
  have H2 := Lib.hid X2
  by_cases hq : in64 (x + y / 1000000000)
  · rw [iV_of hq, iE_of hq] at X3
    have H3 := Lib.hid X3
    by_cases ht : -1099511627776000000000 ≤ nanos x y ∧ nanos x y ≤ 1099511627776000000000
    · obtain ⟨u1, u2, u3⟩ := dd_yes ht
      rw [u1, u2, u3, e1, e2]
      rw [u3] at X4
      have H4 := Lib.hid X4
      clear X1 X2 X3 X4 ck u1 u2 u3 ht hq e1 e2 bx b bs
      generalize cb x (y / 1000000000) = o at *
      generalize x + y / 1000000000 = Q at *
      generalize y / 1000000000 = q at *
      generalize y % 1000000000 = R at *
      go_enter Try.func29, Try.ntmps29
      refine wp_shut ?_
      go_wp2_with fail
      
      refine (H1.out _).mono ?_
      rintro e V1 ⟨rfl, hb1⟩
      have B1 := Lib.hid (((((Below.refl w.heap.size w).alloc (Nat.le_refl _) _).alloc (by simp <;> omega) _).alloc (by simp <;> omega) _).trans (hb1.mono (by first | assumption | (simp <;> omega) | (simp; done))))
      have A1 := Lib.hid (row_call hb1 (row_alloc (row_alloc (heap_alloc_new _ _) _) _))
      have D1 := Lib.hid (row_at (k' := w.heap.size + 1) (by simp) (row_call hb1 (row_alloc (heap_alloc_new _ _) _)))
      have Z1 := Lib.hid (row_at (k' := w.heap.size + 1 + 1) (by simp) (row_call hb1 (heap_alloc_new _ _)))
      clear hb1
      have A1_0 : V1.cell? ⟨w.heap.size, 0, none⟩ = some (.int .u64 (zh x)) := cell_of_row _ _ _ _ _ _ A1.out
      have A1_1 : V1.cell? ⟨w.heap.size, 1, none⟩ = some (.int .u64 (zl x)) := cell_of_row _ _ _ _ _ _ A1.out
      have D1_0 : V1.cell? ⟨w.heap.size + 1, 0, none⟩ = some (.int .u64 (zh y)) := cell_of_row _ _ _ _ _ _ D1.out
      have D1_1 : V1.cell? ⟨w.heap.size + 1, 1, none⟩ = some (.int .u64 (zl y)) := cell_of_row _ _ _ _ _ _ D1.out
      have Z1_0 : V1.cell? ⟨w.heap.size + 1 + 1, 0, none⟩ = some (.int .i64 0) := cell_of_row _ _ _ _ _ _ Z1.out
      have Z1_1 : V1.cell? ⟨w.heap.size + 1 + 1, 1, none⟩ = some (.int .i64 0) := cell_of_row _ _ _ _ _ _ Z1.out
      have Z1_f0 : V1.frozen? ⟨w.heap.size + 1 + 1, 0, none⟩ = false := by simp [World.frozen?, Z1.out]
      have Z1_f1 : V1.frozen? ⟨w.heap.size + 1 + 1, 1, none⟩ = false := by simp [World.frozen?, Z1.out]
      have zA1 := lt_of_heap A1.out
      have zD1 := lt_of_heap D1.out
      have zZ1 := lt_of_heap Z1.out
      go_simp
      go_wp2_with fail
      refine (H2.out _).mono ?_
      rintro e V2 ⟨rfl, hb2⟩
      clear A1_0 A1_1 zA1 D1_0 D1_1 zD1 Z1_0 Z1_1 Z1_f0 Z1_f1 zZ1
      have nA1Q1 := Lib.hid (lt_of_heap A1.out)
      have nD1Q1 := Lib.hid (lt_of_heap D1.out)
      have nZ1Q1 := Lib.hid (lt_of_heap Z1.out)
      have B2 := Lib.hid (((B1.out).alloc (B1.out.size) _).trans (hb2.mono (by have := B1.out.size; first | assumption | (simp <;> omega) | (simp; done))))
      replace A1 := Lib.hid (row_call hb2 (row_alloc A1.out _))
      replace D1 := Lib.hid (row_call hb2 (row_alloc D1.out _))
      replace Z1 := Lib.hid (row_call hb2 (row_alloc Z1.out _))
      have Q1 := Lib.hid (row_call hb2 (heap_alloc_new _ _))
      clear hb2
      have A1_0 : V2.cell? ⟨w.heap.size, 0, none⟩ = some (.int .u64 (zh x)) := cell_of_row _ _ _ _ _ _ A1.out
      have A1_1 : V2.cell? ⟨w.heap.size, 1, none⟩ = some (.int .u64 (zl x)) := cell_of_row _ _ _ _ _ _ A1.out
      have D1_0 : V2.cell? ⟨w.heap.size + 1, 0, none⟩ = some (.int .u64 (zh y)) := cell_of_row _ _ _ _ _ _ D1.out
      have D1_1 : V2.cell? ⟨w.heap.size + 1, 1, none⟩ = some (.int .u64 (zl y)) := cell_of_row _ _ _ _ _ _ D1.out
      have Z1_0 : V2.cell? ⟨w.heap.size + 1 + 1, 0, none⟩ = some (.int .i64 0) := cell_of_row _ _ _ _ _ _ Z1.out
      have Z1_1 : V2.cell? ⟨w.heap.size + 1 + 1, 1, none⟩ = some (.int .i64 0) := cell_of_row _ _ _ _ _ _ Z1.out
      have Z1_f0 : V2.frozen? ⟨w.heap.size + 1 + 1, 0, none⟩ = false := by simp [World.frozen?, Z1.out]
      have Z1_f1 : V2.frozen? ⟨w.heap.size + 1 + 1, 1, none⟩ = false := by simp [World.frozen?, Z1.out]
      have Q1_0 : V2.cell? ⟨V1.heap.size, 0, none⟩ = some (.int .u64 (zh q)) := cell_of_row _ _ _ _ _ _ Q1.out
      have Q1_1 : V2.cell? ⟨V1.heap.size, 1, none⟩ = some (.int .u64 (zl q)) := cell_of_row _ _ _ _ _ _ Q1.out
      have zA1 := lt_of_heap A1.out
      have zD1 := lt_of_heap D1.out
      have zZ1 := lt_of_heap Z1.out
      have zQ1 := lt_of_heap Q1.out
      go_simp
      go_wp2_with fail
      refine (H3.out _).mono ?_
      rintro e V3 ⟨rfl, hb3⟩
      clear A1_0 A1_1 zA1 D1_0 D1_1 zD1 Z1_0 Z1_1 Z1_f0 Z1_f1 zZ1 Q1_0 Q1_1 zQ1
      have nA1S1 := Lib.hid (lt_of_heap A1.out)
      have nD1S1 := Lib.hid (lt_of_heap D1.out)
      have nZ1S1 := Lib.hid (lt_of_heap Z1.out)
      have nQ1S1 := Lib.hid (lt_of_heap Q1.out)
      have B3 := Lib.hid (((B2.out).alloc (B2.out.size) _).trans (hb3.mono (by have := B2.out.size; first | assumption | (simp <;> omega) | (simp; done))))
      replace A1 := Lib.hid (row_call hb3 (row_alloc A1.out _))
      replace D1 := Lib.hid (row_call hb3 (row_alloc D1.out _))
      replace Z1 := Lib.hid (row_call hb3 (row_alloc Z1.out _))
      replace Q1 := Lib.hid (row_call hb3 (row_alloc Q1.out _))
      have S1 := Lib.hid (row_call hb3 (heap_alloc_new _ _))
      clear hb3
      have A1_0 : V3.cell? ⟨w.heap.size, 0, none⟩ = some (.int .u64 (zh x)) := cell_of_row _ _ _ _ _ _ A1.out
      have A1_1 : V3.cell? ⟨w.heap.size, 1, none⟩ = some (.int .u64 (zl x)) := cell_of_row _ _ _ _ _ _ A1.out
      have D1_0 : V3.cell? ⟨w.heap.size + 1, 0, none⟩ = some (.int .u64 (zh y)) := cell_of_row _ _ _ _ _ _ D1.out
      have D1_1 : V3.cell? ⟨w.heap.size + 1, 1, none⟩ = some (.int .u64 (zl y)) := cell_of_row _ _ _ _ _ _ D1.out
      have Z1_0 : V3.cell? ⟨w.heap.size + 1 + 1, 0, none⟩ = some (.int .i64 0) := cell_of_row _ _ _ _ _ _ Z1.out
      have Z1_1 : V3.cell? ⟨w.heap.size + 1 + 1, 1, none⟩ = some (.int .i64 0) := cell_of_row _ _ _ _ _ _ Z1.out
      have Z1_f0 : V3.frozen? ⟨w.heap.size + 1 + 1, 0, none⟩ = false := by simp [World.frozen?, Z1.out]
      have Z1_f1 : V3.frozen? ⟨w.heap.size + 1 + 1, 1, none⟩ = false := by simp [World.frozen?, Z1.out]
      have Q1_0 : V3.cell? ⟨V1.heap.size, 0, none⟩ = some (.int .u64 (zh q)) := cell_of_row _ _ _ _ _ _ Q1.out
      have Q1_1 : V3.cell? ⟨V1.heap.size, 1, none⟩ = some (.int .u64 (zl q)) := cell_of_row _ _ _ _ _ _ Q1.out
      have S1_0 : V3.cell? ⟨V2.heap.size, 0, none⟩ = some (.int .u64 (zh Q)) := cell_of_row _ _ _ _ _ _ S1.out
      have S1_1 : V3.cell? ⟨V2.heap.size, 1, none⟩ = some (.int .u64 (zl Q)) := cell_of_row _ _ _ _ _ _ S1.out
      have zA1 := lt_of_heap A1.out
      have zD1 := lt_of_heap D1.out
      have zZ1 := lt_of_heap Z1.out
      have zQ1 := lt_of_heap Q1.out
      have zS1 := lt_of_heap S1.out
      go_simp
      go_wp2_with fail
      refine (H4.out _).mono ?_
      rintro e V4 ⟨rfl, hb4⟩
      clear A1_0 A1_1 zA1 D1_0 D1_1 zD1 Z1_0 Z1_1 Z1_f0 Z1_f1 zZ1 Q1_0 Q1_1 zQ1 S1_0 S1_1 zS1
      have nA1I1 := Lib.hid (lt_of_heap A1.out)
      have nD1I1 := Lib.hid (lt_of_heap D1.out)
      have nZ1I1 := Lib.hid (lt_of_heap Z1.out)
      have nQ1I1 := Lib.hid (lt_of_heap Q1.out)
      have nS1I1 := Lib.hid (lt_of_heap S1.out)
      have B4 := Lib.hid (((B3.out).alloc (B3.out.size) _).trans (hb4.mono (by have := B3.out.size; first | assumption | (simp <;> omega) | (simp; done))))
      replace A1 := Lib.hid (row_call hb4 (row_alloc A1.out _))
      replace D1 := Lib.hid (row_call hb4 (row_alloc D1.out _))
      replace Z1 := Lib.hid (row_call hb4 (row_alloc Z1.out _))
      replace Q1 := Lib.hid (row_call hb4 (row_alloc Q1.out _))
      replace S1 := Lib.hid (row_call hb4 (row_alloc S1.out _))
      have I1 := Lib.hid (row_call hb4 (heap_alloc_new _ _))
      clear hb4
      have A1_0 : V4.cell? ⟨w.heap.size, 0, none⟩ = some (.int .u64 (zh x)) := cell_of_row _ _ _ _ _ _ A1.out
      have A1_1 : V4.cell? ⟨w.heap.size, 1, none⟩ = some (.int .u64 (zl x)) := cell_of_row _ _ _ _ _ _ A1.out
      have D1_0 : V4.cell? ⟨w.heap.size + 1, 0, none⟩ = some (.int .u64 (zh y)) := cell_of_row _ _ _ _ _ _ D1.out
      have D1_1 : V4.cell? ⟨w.heap.size + 1, 1, none⟩ = some (.int .u64 (zl y)) := cell_of_row _ _ _ _ _ _ D1.out
      have Z1_0 : V4.cell? ⟨w.heap.size + 1 + 1, 0, none⟩ = some (.int .i64 0) := cell_of_row _ _ _ _ _ _ Z1.out
      have Z1_1 : V4.cell? ⟨w.heap.size + 1 + 1, 1, none⟩ = some (.int .i64 0) := cell_of_row _ _ _ _ _ _ Z1.out
      have Z1_f0 : V4.frozen? ⟨w.heap.size + 1 + 1, 0, none⟩ = false := by simp [World.frozen?, Z1.out]
      have Z1_f1 : V4.frozen? ⟨w.heap.size + 1 + 1, 1, none⟩ = false := by simp [World.frozen?, Z1.out]
      have Q1_0 : V4.cell? ⟨V1.heap.size, 0, none⟩ = some (.int .u64 (zh q)) := cell_of_row _ _ _ _ _ _ Q1.out
      have Q1_1 : V4.cell? ⟨V1.heap.size, 1, none⟩ = some (.int .u64 (zl q)) := cell_of_row _ _ _ _ _ _ Q1.out
      have S1_0 : V4.cell? ⟨V2.heap.size, 0, none⟩ = some (.int .u64 (zh Q)) := cell_of_row _ _ _ _ _ _ S1.out
      have S1_1 : V4.cell? ⟨V2.heap.size, 1, none⟩ = some (.int .u64 (zl Q)) := cell_of_row _ _ _ _ _ _ S1.out
      have I1_0 : V4.cell? ⟨V3.heap.size, 0, none⟩ = some (.int .i64 Q) := cell_of_row _ _ _ _ _ _ I1.out
      have I1_1 : V4.cell? ⟨V3.heap.size, 1, none⟩ = some (.int .i64 R) := cell_of_row _ _ _ _ _ _ I1.out
      have zA1 := lt_of_heap A1.out
      have zD1 := lt_of_heap D1.out
      have zZ1 := lt_of_heap Z1.out
      have zQ1 := lt_of_heap Q1.out
      have zS1 := lt_of_heap S1.out
      have zI1 := lt_of_heap I1.out
      go_simp
      go_wp2
      refine shut_ret (v := .tuple #[.agg #[.int .i64 Q, .int .i64 R], .int .i64 0]) (by simp [results, Try.results29, go_sem, zZ1, Z1_0, Z1_1]) rfl ⟨rfl, ?_⟩
      exact keep2 B4.out (by omega) _ _
    · obtain ⟨u1, u2, u3⟩ := dd_no ht
      rw [u1, u2, u3]
      rw [u3] at X4
      have H4 := Lib.hid X4
      clear X1 X2 X3 X4 ck u1 u2 u3 ht hq e1 e2 bx b bs
      generalize cb x (y / 1000000000) = o at *
      generalize x + y / 1000000000 = Q at *
      generalize y / 1000000000 = q at *
      generalize y % 1000000000 = R at *
      go_enter Try.func29, Try.ntmps29
      refine wp_shut ?_
      go_wp2_with fail
      
      refine (H1.out _).mono ?_
      rintro e V1 ⟨rfl, hb1⟩
      have B1 := Lib.hid (((((Below.refl w.heap.size w).alloc (Nat.le_refl _) _).alloc (by simp <;> omega) _).alloc (by simp <;> omega) _).trans (hb1.mono (by first | assumption | (simp <;> omega) | (simp; done))))
      have A1 := Lib.hid (row_call hb1 (row_alloc (row_alloc (heap_alloc_new _ _) _) _))
      have D1 := Lib.hid (row_at (k' := w.heap.size + 1) (by simp) (row_call hb1 (row_alloc (heap_alloc_new _ _) _)))
      have Z1 := Lib.hid (row_at (k' := w.heap.size + 1 + 1) (by simp) (row_call hb1 (heap_alloc_new _ _)))
      clear hb1
      have A1_0 : V1.cell? ⟨w.heap.size, 0, none⟩ = some (.int .u64 (zh x)) := cell_of_row _ _ _ _ _ _ A1.out
      have A1_1 : V1.cell? ⟨w.heap.size, 1, none⟩ = some (.int .u64 (zl x)) := cell_of_row _ _ _ _ _ _ A1.out
      have D1_0 : V1.cell? ⟨w.heap.size + 1, 0, none⟩ = some (.int .u64 (zh y)) := cell_of_row _ _ _ _ _ _ D1.out
      have D1_1 : V1.cell? ⟨w.heap.size + 1, 1, none⟩ = some (.int .u64 (zl y)) := cell_of_row _ _ _ _ _ _ D1.out
      have Z1_0 : V1.cell? ⟨w.heap.size + 1 + 1, 0, none⟩ = some (.int .i64 0) := cell_of_row _ _ _ _ _ _ Z1.out
      have Z1_1 : V1.cell? ⟨w.heap.size + 1 + 1, 1, none⟩ = some (.int .i64 0) := cell_of_row _ _ _ _ _ _ Z1.out
      have Z1_f0 : V1.frozen? ⟨w.heap.size + 1 + 1, 0, none⟩ = false := by simp [World.frozen?, Z1.out]
      have Z1_f1 : V1.frozen? ⟨w.heap.size + 1 + 1, 1, none⟩ = false := by simp [World.frozen?, Z1.out]
      have zA1 := lt_of_heap A1.out
      have zD1 := lt_of_heap D1.out
      have zZ1 := lt_of_heap Z1.out
      go_simp
      go_wp2_with fail
      refine (H2.out _).mono ?_
      rintro e V2 ⟨rfl, hb2⟩
      clear A1_0 A1_1 zA1 D1_0 D1_1 zD1 Z1_0 Z1_1 Z1_f0 Z1_f1 zZ1
      have nA1Q1 := Lib.hid (lt_of_heap A1.out)
      have nD1Q1 := Lib.hid (lt_of_heap D1.out)
      have nZ1Q1 := Lib.hid (lt_of_heap Z1.out)
      have B2 := Lib.hid (((B1.out).alloc (B1.out.size) _).trans (hb2.mono (by have := B1.out.size; first | assumption | (simp <;> omega) | (simp; done))))
      replace A1 := Lib.hid (row_call hb2 (row_alloc A1.out _))
      replace D1 := Lib.hid (row_call hb2 (row_alloc D1.out _))
      replace Z1 := Lib.hid (row_call hb2 (row_alloc Z1.out _))
      have Q1 := Lib.hid (row_call hb2 (heap_alloc_new _ _))
      clear hb2
      have A1_0 : V2.cell? ⟨w.heap.size, 0, none⟩ = some (.int .u64 (zh x)) := cell_of_row _ _ _ _ _ _ A1.out
      have A1_1 : V2.cell? ⟨w.heap.size, 1, none⟩ = some (.int .u64 (zl x)) := cell_of_row _ _ _ _ _ _ A1.out
      have D1_0 : V2.cell? ⟨w.heap.size + 1, 0, none⟩ = some (.int .u64 (zh y)) := cell_of_row _ _ _ _ _ _ D1.out
      have D1_1 : V2.cell? ⟨w.heap.size + 1, 1, none⟩ = some (.int .u64 (zl y)) := cell_of_row _ _ _ _ _ _ D1.out
      have Z1_0 : V2.cell? ⟨w.heap.size + 1 + 1, 0, none⟩ = some (.int .i64 0) := cell_of_row _ _ _ _ _ _ Z1.out
      have Z1_1 : V2.cell? ⟨w.heap.size + 1 + 1, 1, none⟩ = some (.int .i64 0) := cell_of_row _ _ _ _ _ _ Z1.out
      have Z1_f0 : V2.frozen? ⟨w.heap.size + 1 + 1, 0, none⟩ = false := by simp [World.frozen?, Z1.out]
      have Z1_f1 : V2.frozen? ⟨w.heap.size + 1 + 1, 1, none⟩ = false := by simp [World.frozen?, Z1.out]
      have Q1_0 : V2.cell? ⟨V1.heap.size, 0, none⟩ = some (.int .u64 (zh q)) := cell_of_row _ _ _ _ _ _ Q1.out
      have Q1_1 : V2.cell? ⟨V1.heap.size, 1, none⟩ = some (.int .u64 (zl q)) := cell_of_row _ _ _ _ _ _ Q1.out
      have zA1 := lt_of_heap A1.out
      have zD1 := lt_of_heap D1.out
      have zZ1 := lt_of_heap Z1.out
      have zQ1 := lt_of_heap Q1.out
      go_simp
      go_wp2_with fail
      refine (H3.out _).mono ?_
      rintro e V3 ⟨rfl, hb3⟩
      clear A1_0 A1_1 zA1 D1_0 D1_1 zD1 Z1_0 Z1_1 Z1_f0 Z1_f1 zZ1 Q1_0 Q1_1 zQ1
      have nA1S1 := Lib.hid (lt_of_heap A1.out)
      have nD1S1 := Lib.hid (lt_of_heap D1.out)
      have nZ1S1 := Lib.hid (lt_of_heap Z1.out)
      have nQ1S1 := Lib.hid (lt_of_heap Q1.out)
      have B3 := Lib.hid (((B2.out).alloc (B2.out.size) _).trans (hb3.mono (by have := B2.out.size; first | assumption | (simp <;> omega) | (simp; done))))
      replace A1 := Lib.hid (row_call hb3 (row_alloc A1.out _))
      replace D1 := Lib.hid (row_call hb3 (row_alloc D1.out _))
      replace Z1 := Lib.hid (row_call hb3 (row_alloc Z1.out _))
      replace Q1 := Lib.hid (row_call hb3 (row_alloc Q1.out _))
      have S1 := Lib.hid (row_call hb3 (heap_alloc_new _ _))
      clear hb3
      have A1_0 : V3.cell? ⟨w.heap.size, 0, none⟩ = some (.int .u64 (zh x)) := cell_of_row _ _ _ _ _ _ A1.out
      have A1_1 : V3.cell? ⟨w.heap.size, 1, none⟩ = some (.int .u64 (zl x)) := cell_of_row _ _ _ _ _ _ A1.out
      have D1_0 : V3.cell? ⟨w.heap.size + 1, 0, none⟩ = some (.int .u64 (zh y)) := cell_of_row _ _ _ _ _ _ D1.out
      have D1_1 : V3.cell? ⟨w.heap.size + 1, 1, none⟩ = some (.int .u64 (zl y)) := cell_of_row _ _ _ _ _ _ D1.out
      have Z1_0 : V3.cell? ⟨w.heap.size + 1 + 1, 0, none⟩ = some (.int .i64 0) := cell_of_row _ _ _ _ _ _ Z1.out
      have Z1_1 : V3.cell? ⟨w.heap.size + 1 + 1, 1, none⟩ = some (.int .i64 0) := cell_of_row _ _ _ _ _ _ Z1.out
      have Z1_f0 : V3.frozen? ⟨w.heap.size + 1 + 1, 0, none⟩ = false := by simp [World.frozen?, Z1.out]
      have Z1_f1 : V3.frozen? ⟨w.heap.size + 1 + 1, 1, none⟩ = false := by simp [World.frozen?, Z1.out]
      have Q1_0 : V3.cell? ⟨V1.heap.size, 0, none⟩ = some (.int .u64 (zh q)) := cell_of_row _ _ _ _ _ _ Q1.out
      have Q1_1 : V3.cell? ⟨V1.heap.size, 1, none⟩ = some (.int .u64 (zl q)) := cell_of_row _ _ _ _ _ _ Q1.out
      have S1_0 : V3.cell? ⟨V2.heap.size, 0, none⟩ = some (.int .u64 (zh Q)) := cell_of_row _ _ _ _ _ _ S1.out
      have S1_1 : V3.cell? ⟨V2.heap.size, 1, none⟩ = some (.int .u64 (zl Q)) := cell_of_row _ _ _ _ _ _ S1.out
      have zA1 := lt_of_heap A1.out
      have zD1 := lt_of_heap D1.out
      have zZ1 := lt_of_heap Z1.out
      have zQ1 := lt_of_heap Q1.out
      have zS1 := lt_of_heap S1.out
      go_simp
      go_wp2_with fail
      refine (H4.out _).mono ?_
      rintro e V4 ⟨rfl, hb4⟩
      clear A1_0 A1_1 zA1 D1_0 D1_1 zD1 Z1_0 Z1_1 Z1_f0 Z1_f1 zZ1 Q1_0 Q1_1 zQ1 S1_0 S1_1 zS1
      have nA1I1 := Lib.hid (lt_of_heap A1.out)
      have nD1I1 := Lib.hid (lt_of_heap D1.out)
      have nZ1I1 := Lib.hid (lt_of_heap Z1.out)
      have nQ1I1 := Lib.hid (lt_of_heap Q1.out)
      have nS1I1 := Lib.hid (lt_of_heap S1.out)
      have B4 := Lib.hid (((B3.out).alloc (B3.out.size) _).trans (hb4.mono (by have := B3.out.size; first | assumption | (simp <;> omega) | (simp; done))))
      replace A1 := Lib.hid (row_call hb4 (row_alloc A1.out _))
      replace D1 := Lib.hid (row_call hb4 (row_alloc D1.out _))
      replace Z1 := Lib.hid (row_call hb4 (row_alloc Z1.out _))
      replace Q1 := Lib.hid (row_call hb4 (row_alloc Q1.out _))
      replace S1 := Lib.hid (row_call hb4 (row_alloc S1.out _))
      have I1 := Lib.hid (row_call hb4 (heap_alloc_new _ _))
      clear hb4
      have A1_0 : V4.cell? ⟨w.heap.size, 0, none⟩ = some (.int .u64 (zh x)) := cell_of_row _ _ _ _ _ _ A1.out
      have A1_1 : V4.cell? ⟨w.heap.size, 1, none⟩ = some (.int .u64 (zl x)) := cell_of_row _ _ _ _ _ _ A1.out
      have D1_0 : V4.cell? ⟨w.heap.size + 1, 0, none⟩ = some (.int .u64 (zh y)) := cell_of_row _ _ _ _ _ _ D1.out
      have D1_1 : V4.cell? ⟨w.heap.size + 1, 1, none⟩ = some (.int .u64 (zl y)) := cell_of_row _ _ _ _ _ _ D1.out
      have Z1_0 : V4.cell? ⟨w.heap.size + 1 + 1, 0, none⟩ = some (.int .i64 0) := cell_of_row _ _ _ _ _ _ Z1.out
      have Z1_1 : V4.cell? ⟨w.heap.size + 1 + 1, 1, none⟩ = some (.int .i64 0) := cell_of_row _ _ _ _ _ _ Z1.out
      have Z1_f0 : V4.frozen? ⟨w.heap.size + 1 + 1, 0, none⟩ = false := by simp [World.frozen?, Z1.out]
      have Z1_f1 : V4.frozen? ⟨w.heap.size + 1 + 1, 1, none⟩ = false := by simp [World.frozen?, Z1.out]
      have Q1_0 : V4.cell? ⟨V1.heap.size, 0, none⟩ = some (.int .u64 (zh q)) := cell_of_row _ _ _ _ _ _ Q1.out
      have Q1_1 : V4.cell? ⟨V1.heap.size, 1, none⟩ = some (.int .u64 (zl q)) := cell_of_row _ _ _ _ _ _ Q1.out
      have S1_0 : V4.cell? ⟨V2.heap.size, 0, none⟩ = some (.int .u64 (zh Q)) := cell_of_row _ _ _ _ _ _ S1.out
      have S1_1 : V4.cell? ⟨V2.heap.size, 1, none⟩ = some (.int .u64 (zl Q)) := cell_of_row _ _ _ _ _ _ S1.out
      have I1_0 : V4.cell? ⟨V3.heap.size, 0, none⟩ = some (.int .i64 Q) := cell_of_row _ _ _ _ _ _ I1.out
      have I1_1 : V4.cell? ⟨V3.heap.size, 1, none⟩ = some (.int .i64 R) := cell_of_row _ _ _ _ _ _ I1.out
      have zA1 := lt_of_heap A1.out
      have zD1 := lt_of_heap D1.out
      have zZ1 := lt_of_heap Z1.out
      have zQ1 := lt_of_heap Q1.out
      have zS1 := lt_of_heap S1.out
      have zI1 := lt_of_heap I1.out
      go_simp
      go_wp2
      refine shut_ret (v := .tuple #[.agg #[.int .i64 0, .int .i64 0], .int .i64 8]) (by simp [results, Try.results29, go_sem, zZ1, Z1_0, Z1_1]) rfl ⟨rfl, ?_⟩
      exact keep2 B4.out (by omega) _ _
  · rw [iV_not hq, iE_not hq] at X3
    rw [← e1] at hq
    obtain ⟨u1, u2, u3⟩ := dd_no (duE_far hq)
    rw [u1, u2, u3]
    have H3 := Lib.hid X3
    clear X1 X2 X3 X4 ck u1 u2 u3 hq e1 e2 bx b bs
    generalize cb x (y / 1000000000) = o at *
    generalize x + y / 1000000000 = Q at *
    generalize y / 1000000000 = q at *
    generalize y % 1000000000 = R at *
    go_enter Try.func29, Try.ntmps29
    refine wp_shut ?_
    go_wp2_with fail
    
    refine (H1.out _).mono ?_
    rintro e V1 ⟨rfl, hb1⟩
    have B1 := Lib.hid (((((Below.refl w.heap.size w).alloc (Nat.le_refl _) _).alloc (by simp <;> omega) _).alloc (by simp <;> omega) _).trans (hb1.mono (by first | assumption | (simp <;> omega) | (simp; done))))
    have A1 := Lib.hid (row_call hb1 (row_alloc (row_alloc (heap_alloc_new _ _) _) _))
    have D1 := Lib.hid (row_at (k' := w.heap.size + 1) (by simp) (row_call hb1 (row_alloc (heap_alloc_new _ _) _)))
    have Z1 := Lib.hid (row_at (k' := w.heap.size + 1 + 1) (by simp) (row_call hb1 (heap_alloc_new _ _)))
    clear hb1
    have A1_0 : V1.cell? ⟨w.heap.size, 0, none⟩ = some (.int .u64 (zh x)) := cell_of_row _ _ _ _ _ _ A1.out
    have A1_1 : V1.cell? ⟨w.heap.size, 1, none⟩ = some (.int .u64 (zl x)) := cell_of_row _ _ _ _ _ _ A1.out
    have D1_0 : V1.cell? ⟨w.heap.size + 1, 0, none⟩ = some (.int .u64 (zh y)) := cell_of_row _ _ _ _ _ _ D1.out
    have D1_1 : V1.cell? ⟨w.heap.size + 1, 1, none⟩ = some (.int .u64 (zl y)) := cell_of_row _ _ _ _ _ _ D1.out
    have Z1_0 : V1.cell? ⟨w.heap.size + 1 + 1, 0, none⟩ = some (.int .i64 0) := cell_of_row _ _ _ _ _ _ Z1.out
    have Z1_1 : V1.cell? ⟨w.heap.size + 1 + 1, 1, none⟩ = some (.int .i64 0) := cell_of_row _ _ _ _ _ _ Z1.out
    have Z1_f0 : V1.frozen? ⟨w.heap.size + 1 + 1, 0, none⟩ = false := by simp [World.frozen?, Z1.out]
    have Z1_f1 : V1.frozen? ⟨w.heap.size + 1 + 1, 1, none⟩ = false := by simp [World.frozen?, Z1.out]
    have zA1 := lt_of_heap A1.out
    have zD1 := lt_of_heap D1.out
    have zZ1 := lt_of_heap Z1.out
    go_simp
    go_wp2_with fail
    refine (H2.out _).mono ?_
    rintro e V2 ⟨rfl, hb2⟩
    clear A1_0 A1_1 zA1 D1_0 D1_1 zD1 Z1_0 Z1_1 Z1_f0 Z1_f1 zZ1
    have nA1Q1 := Lib.hid (lt_of_heap A1.out)
    have nD1Q1 := Lib.hid (lt_of_heap D1.out)
    have nZ1Q1 := Lib.hid (lt_of_heap Z1.out)
    have B2 := Lib.hid (((B1.out).alloc (B1.out.size) _).trans (hb2.mono (by have := B1.out.size; first | assumption | (simp <;> omega) | (simp; done))))
    replace A1 := Lib.hid (row_call hb2 (row_alloc A1.out _))
    replace D1 := Lib.hid (row_call hb2 (row_alloc D1.out _))
    replace Z1 := Lib.hid (row_call hb2 (row_alloc Z1.out _))
    have Q1 := Lib.hid (row_call hb2 (heap_alloc_new _ _))
    clear hb2
    have A1_0 : V2.cell? ⟨w.heap.size, 0, none⟩ = some (.int .u64 (zh x)) := cell_of_row _ _ _ _ _ _ A1.out
    have A1_1 : V2.cell? ⟨w.heap.size, 1, none⟩ = some (.int .u64 (zl x)) := cell_of_row _ _ _ _ _ _ A1.out
    have D1_0 : V2.cell? ⟨w.heap.size + 1, 0, none⟩ = some (.int .u64 (zh y)) := cell_of_row _ _ _ _ _ _ D1.out
    have D1_1 : V2.cell? ⟨w.heap.size + 1, 1, none⟩ = some (.int .u64 (zl y)) := cell_of_row _ _ _ _ _ _ D1.out
    have Z1_0 : V2.cell? ⟨w.heap.size + 1 + 1, 0, none⟩ = some (.int .i64 0) := cell_of_row _ _ _ _ _ _ Z1.out
    have Z1_1 : V2.cell? ⟨w.heap.size + 1 + 1, 1, none⟩ = some (.int .i64 0) := cell_of_row _ _ _ _ _ _ Z1.out
    have Z1_f0 : V2.frozen? ⟨w.heap.size + 1 + 1, 0, none⟩ = false := by simp [World.frozen?, Z1.out]
    have Z1_f1 : V2.frozen? ⟨w.heap.size + 1 + 1, 1, none⟩ = false := by simp [World.frozen?, Z1.out]
    have Q1_0 : V2.cell? ⟨V1.heap.size, 0, none⟩ = some (.int .u64 (zh q)) := cell_of_row _ _ _ _ _ _ Q1.out
    have Q1_1 : V2.cell? ⟨V1.heap.size, 1, none⟩ = some (.int .u64 (zl q)) := cell_of_row _ _ _ _ _ _ Q1.out
    have zA1 := lt_of_heap A1.out
    have zD1 := lt_of_heap D1.out
    have zZ1 := lt_of_heap Z1.out
    have zQ1 := lt_of_heap Q1.out
    go_simp
    go_wp2_with fail
    refine (H3.out _).mono ?_
    rintro e V3 ⟨rfl, hb3⟩
    clear A1_0 A1_1 zA1 D1_0 D1_1 zD1 Z1_0 Z1_1 Z1_f0 Z1_f1 zZ1 Q1_0 Q1_1 zQ1
    have nA1S1 := Lib.hid (lt_of_heap A1.out)
    have nD1S1 := Lib.hid (lt_of_heap D1.out)
    have nZ1S1 := Lib.hid (lt_of_heap Z1.out)
    have nQ1S1 := Lib.hid (lt_of_heap Q1.out)
    have B3 := Lib.hid (((B2.out).alloc (B2.out.size) _).trans (hb3.mono (by have := B2.out.size; first | assumption | (simp <;> omega) | (simp; done))))
    replace A1 := Lib.hid (row_call hb3 (row_alloc A1.out _))
    replace D1 := Lib.hid (row_call hb3 (row_alloc D1.out _))
    replace Z1 := Lib.hid (row_call hb3 (row_alloc Z1.out _))
    replace Q1 := Lib.hid (row_call hb3 (row_alloc Q1.out _))
    have S1 := Lib.hid (row_call hb3 (heap_alloc_new _ _))
    clear hb3
    have A1_0 : V3.cell? ⟨w.heap.size, 0, none⟩ = some (.int .u64 (zh x)) := cell_of_row _ _ _ _ _ _ A1.out
    have A1_1 : V3.cell? ⟨w.heap.size, 1, none⟩ = some (.int .u64 (zl x)) := cell_of_row _ _ _ _ _ _ A1.out
    have D1_0 : V3.cell? ⟨w.heap.size + 1, 0, none⟩ = some (.int .u64 (zh y)) := cell_of_row _ _ _ _ _ _ D1.out
    have D1_1 : V3.cell? ⟨w.heap.size + 1, 1, none⟩ = some (.int .u64 (zl y)) := cell_of_row _ _ _ _ _ _ D1.out
    have Z1_0 : V3.cell? ⟨w.heap.size + 1 + 1, 0, none⟩ = some (.int .i64 0) := cell_of_row _ _ _ _ _ _ Z1.out
    have Z1_1 : V3.cell? ⟨w.heap.size + 1 + 1, 1, none⟩ = some (.int .i64 0) := cell_of_row _ _ _ _ _ _ Z1.out
    have Z1_f0 : V3.frozen? ⟨w.heap.size + 1 + 1, 0, none⟩ = false := by simp [World.frozen?, Z1.out]
    have Z1_f1 : V3.frozen? ⟨w.heap.size + 1 + 1, 1, none⟩ = false := by simp [World.frozen?, Z1.out]
    have Q1_0 : V3.cell? ⟨V1.heap.size, 0, none⟩ = some (.int .u64 (zh q)) := cell_of_row _ _ _ _ _ _ Q1.out
    have Q1_1 : V3.cell? ⟨V1.heap.size, 1, none⟩ = some (.int .u64 (zl q)) := cell_of_row _ _ _ _ _ _ Q1.out
    have S1_0 : V3.cell? ⟨V2.heap.size, 0, none⟩ = some (.int .u64 (zh Q)) := cell_of_row _ _ _ _ _ _ S1.out
    have S1_1 : V3.cell? ⟨V2.heap.size, 1, none⟩ = some (.int .u64 (zl Q)) := cell_of_row _ _ _ _ _ _ S1.out
    have zA1 := lt_of_heap A1.out
    have zD1 := lt_of_heap D1.out
    have zZ1 := lt_of_heap Z1.out
    have zQ1 := lt_of_heap Q1.out
    have zS1 := lt_of_heap S1.out
    go_simp
    go_wp2
    refine shut_ret (v := .tuple #[.agg #[.int .i64 0, .int .i64 0], .int .i64 8]) (by simp [results, Try.results29, go_sem, zZ1, Z1_0, Z1_1]) rfl ⟨rfl, ?_⟩
    exact keep2 B3.out (by omega) _ _
theorem mul_bd {f d : Int} (hf : in64 f) (hd : -1099511627776 ≤ d ∧ d ≤ 1099511627776) : -10141204801825835211973625643008 ≤ f * d ∧ f * d ≤ 10141204801825835211973625643008 := by
  have h1 : f.natAbs * d.natAbs ≤ 9223372036854775808 * 1099511627776 := by
    unfold in64 at hf
    exact Nat.mul_le_mul (by omega) (by omega)
  have h2 : (f * d).natAbs = f.natAbs * d.natAbs := Int.natAbs_mul f d
  omega
theorem plus_nanos (s n d m f : Int) : nanos (s + f * d) (n + f * m) = nanos s n + f * nanos d m := by
  unfold nanos
  rw [Int.mul_add, ← Int.mul_assoc, Int.add_mul]
  omega
set_option maxHeartbeats 3200000 in
set_option maxRecDepth 100000 in
theorem plus_any (s n d m f : Int) (bf : in64 f) (w : World) :
    Calls Try.prog 32 #[.agg #[.int .i64 s, .int .i64 n], .agg #[.int .i64 d, .int .i64 m], .func (.func 33) #[.int .i64 f] #[]] w fun e w' => e = .returned (.tuple #[.agg #[.int .i64 (dpS (fsI (ckD s n) (ckD d m)) (nanos s n + f * nanos d m)), .int .i64 (dpN (fsI (ckD s n) (ckD d m)) (nanos s n + f * nanos d m))], .int .i64 (dpE (fsI (ckD s n) (ckD d m)) (nanos s n + f * nanos d m))]) ∧ Below w.heap.size w w' := by
  have H1 := Lib.hid (dCheck_any s n)
  have H2 := Lib.hid (dCheck_any d m)
  have X3 := dLesser_any (ckD s n) (ckD d m) (ckD_nonneg _ _) (ckD_nonneg _ _)
  by_cases hc : fsI (ckD s n) (ckD d m) = 0
  · obtain ⟨c1, c2⟩ := fs_zero hc
    obtain ⟨o1, o2, o3⟩ := of_ckD c1
    obtain ⟨p1, p2, p3⟩ := of_ckD c2
    have o4 := of_wmB o1
    have p4 := of_wmB p1
    obtain ⟨u1, u2, u3⟩ := pp_ok (T := nanos s n + f * nanos d m) hc
    rw [u1, u2, u3]
    have k1 := mul_bd bf ⟨p2, p3⟩
    have k2 := mul_bd (d := m) bf ⟨by omega, by omega⟩
    rw [hc] at X3
    have H3 := Lib.hid X3
    have H4 := Lib.hid (zOf_any s (by unfold in64; omega))
    have H5 := Lib.hid (times_any f d bf (by unfold in64; omega))
    have H6 := Lib.hid (zAdd_any s (f * d))
    have H7 := Lib.hid (zOf_any n (by unfold in64; omega))
    have H8 := Lib.hid (times_any f m bf (by unfold in64; omega))
    have H9 := Lib.hid (zAdd_any n (f * m))
    have X10 := join_any (s + f * d) (n + f * m) (by unfold in128; omega) (by unfold in128; omega) (by unfold in128; omega)
    rw [plus_nanos] at X10
    have H10 := Lib.hid X10
    clear X3 X10 u1 u2 u3 hc c1 c2 o1 o2 o3 p1 p2 p3 o4 p4 k1 k2 bf
    generalize nanos s n + f * nanos d m = T at *
    generalize duS T = RS at *
    generalize duN T = RN at *
    generalize duE T = RE at *
    generalize cb s (f * d) = c1 at *
    generalize cb n (f * m) = c2 at *
    generalize s + f * d = a1 at *
    generalize n + f * m = a2 at *
    generalize f * d = b1 at *
    generalize f * m = b2 at *
    generalize ckD s n = c3 at *
    generalize ckD d m = c4 at *
    go_enter Try.func32, Try.ntmps32
    refine wp_shut ?_
    go_wp2_with fail
    
    obtain ⟨W0, hW0⟩ : ∃ W0, W0 = (((w.alloc (Obj.cells #[Value.int .i64 s, Value.int .i64 n] 23)).alloc (Obj.cells #[Value.int .i64 d, Value.int .i64 m] 23)).alloc (Obj.cells #[Value.int .i64 0, Value.int .i64 0] 23)) := ⟨_, rfl⟩
    have A1 := Lib.hid (row_at (k' := w.heap.size) (by simp) (row_by hW0 (row_alloc (row_alloc (heap_alloc_new _ _) _) _)))
    have D1 := Lib.hid (row_at (k' := w.heap.size + 1) (by simp) (row_by hW0 (row_alloc (heap_alloc_new _ _) _)))
    have Z1 := Lib.hid (row_at (k' := w.heap.size + 1 + 1) (by simp) (row_by hW0 (heap_alloc_new _ _)))
    have HB0 := Lib.hid (below_by hW0 ((((Below.refl w.heap.size w).alloc (by simp <;> omega) _).alloc (by simp <;> omega) _).alloc (by simp <;> omega) _))
    have HW0 := Lib.hid hW0
    clear hW0
    have A1_0 : W0.cell? ⟨w.heap.size, 0, none⟩ = some (.int .i64 s) := cell_of_row _ _ _ _ _ _ A1.out
    have A1_1 : W0.cell? ⟨w.heap.size, 1, none⟩ = some (.int .i64 n) := cell_of_row _ _ _ _ _ _ A1.out
    have zA1 := lt_of_heap A1.out
    have D1_0 : W0.cell? ⟨w.heap.size + 1, 0, none⟩ = some (.int .i64 d) := cell_of_row _ _ _ _ _ _ D1.out
    have D1_1 : W0.cell? ⟨w.heap.size + 1, 1, none⟩ = some (.int .i64 m) := cell_of_row _ _ _ _ _ _ D1.out
    have zD1 := lt_of_heap D1.out
    have Z1_0 : W0.cell? ⟨w.heap.size + 1 + 1, 0, none⟩ = some (.int .i64 0) := cell_of_row _ _ _ _ _ _ Z1.out
    have Z1_1 : W0.cell? ⟨w.heap.size + 1 + 1, 1, none⟩ = some (.int .i64 0) := cell_of_row _ _ _ _ _ _ Z1.out
    have Z1_f0 : W0.frozen? ⟨w.heap.size + 1 + 1, 0, none⟩ = false := (by simp [World.frozen?, Z1.out])
    have Z1_f1 : W0.frozen? ⟨w.heap.size + 1 + 1, 1, none⟩ = false := (by simp [World.frozen?, Z1.out])
    have zZ1 := lt_of_heap Z1.out
    try rw [← HW0.out]
    go_cut [8] (fun s8 wx => s8 = .int .i64 0 ∧ Below W0.heap.size W0 wx)
    case first =>
      go_region_held3 (fun w' => Below W0.heap.size W0 w' ∧ w'.cell? ⟨w.heap.size, 0, none⟩ = some (.int .i64 s) ∧ w'.cell? ⟨w.heap.size, 1, none⟩ = some (.int .i64 n) ∧ w'.cell? ⟨w.heap.size + 1, 0, none⟩ = some (.int .i64 d) ∧ w'.cell? ⟨w.heap.size + 1, 1, none⟩ = some (.int .i64 m))
    (first
      | ((try go_split_ands); refine ⟨(Below.refl _ _).drew, ?_, ?_, ?_, ?_⟩ <;> first | assumption | (rw [World.cell?_drew]; assumption))
      | ((try go_split_ands); refine ⟨keepS (W0 := W0) ?_ hb1, cellS (W0 := W0) ?_ hb1 ?_ ?_, cellS (W0 := W0) ?_ hb1 ?_ ?_, cellS (W0 := W0) ?_ hb1 ?_ ?_, cellS (W0 := W0) ?_ hb1 ?_ ?_⟩ <;> first | assumption | omega)
      | ((try go_split_ands); refine ⟨keepA (W0 := W0) ?_ _, cellA (W0 := W0) ?_ _ ?_ ?_, cellA (W0 := W0) ?_ _ ?_ ?_, cellA (W0 := W0) ?_ _ ?_ ?_, cellA (W0 := W0) ?_ _ ?_ ?_⟩ <;> first | assumption | omega)
      | ((try go_split_ands); refine ⟨keepAd (W0 := W0) ?_ _, cellAd (W0 := W0) ?_ _ ?_ ?_, cellAd (W0 := W0) ?_ _ ?_ ?_, cellAd (W0 := W0) ?_ _ ?_ ?_, cellAd (W0 := W0) ?_ _ ?_ ?_⟩ <;> first | assumption | omega | exact Below.refl _ _)
      | ((try go_split_ands); refine ⟨keep2 (W0 := W0) ?_ ?_ _ _, cell2 (W0 := W0) ?_ _ _ ?_ ?_, cell2 (W0 := W0) ?_ _ _ ?_ ?_, cell2 (W0 := W0) ?_ _ _ ?_ ?_, cell2 (W0 := W0) ?_ _ _ ?_ ?_⟩ <;> first | assumption | omega | exact Nat.le_refl _)
      | ((try go_split_ands); refine ⟨keepZ (W0 := W0) ?_ ?_ _, cellZ (W0 := W0) ?_ _ ?_ ?_, cellZ (W0 := W0) ?_ _ ?_ ?_, cellZ (W0 := W0) ?_ _ ?_ ?_, cellZ (W0 := W0) ?_ _ ?_ ?_⟩ <;> first | assumption | omega | exact Nat.le_refl _ | exact ⟨_, by assumption⟩))
    (first | (go_at_call 10; (with_reducible refine (H1.out _).mono ?_); rintro e w1 ⟨rfl, hb1⟩; (try go_split_ands); have hge : W0.heap.size ≤ w1.heap.size := (by first | (refine (keepS (W0 := W0) ?_ hb1).size; assumption) | exact (hb1.size : W0.heap.size ≤ w1.heap.size)); (try have hrow := row_call hb1 hrow); (try have hrow := row_new hb1); (try have hrow := row_newd hb1); have hl1 := lt_below hb1; obtain ⟨hc1, hf1⟩ := bcell hb1; (try (have hrc := row_cellA hrow; clear hc1 hf1)); (try have hrf := row_frozA hrow)) | (go_at_call 10; (with_reducible refine (H2.out _).mono ?_); rintro e w1 ⟨rfl, hb1⟩; (try go_split_ands); have hge : W0.heap.size ≤ w1.heap.size := (by first | (refine (keepS (W0 := W0) ?_ hb1).size; assumption) | exact (hb1.size : W0.heap.size ≤ w1.heap.size)); (try have hrow := row_call hb1 hrow); (try have hrow := row_new hb1); (try have hrow := row_newd hb1); have hl1 := lt_below hb1; obtain ⟨hc1, hf1⟩ := bcell hb1; (try (have hrc := row_cellA hrow; clear hc1 hf1)); (try have hrf := row_frozA hrow)) | (go_at_call 53; (with_reducible refine (H3.out _).mono ?_); rintro e w1 ⟨rfl, hb1⟩; (try go_split_ands); have hge : W0.heap.size ≤ w1.heap.size := (by first | (refine (keepS (W0 := W0) ?_ hb1).size; assumption) | exact (hb1.size : W0.heap.size ≤ w1.heap.size)); (try have hrow := row_call hb1 hrow); (try have hrow := row_new hb1); (try have hrow := row_newd hb1); have hl1 := lt_below hb1; obtain ⟨hc1, hf1⟩ := bcell hb1; (try (have hrc := row_cellA hrow; clear hc1 hf1)); (try have hrf := row_frozA hrow)))
      all_goals (try go_split_ands)
      all_goals (go_wp2_with fail; go_meet; refine ⟨rfl, ?_⟩)
      all_goals first | assumption | exact heap_alloc_new _ _ | exact row_set (by assumption) _ _
    case rest =>
      obtain ⟨rfl, hB⟩ := hcut
      obtain ⟨V1, rfl⟩ : ∃ V, V = wc := ⟨_, rfl⟩
      clear A1_0 A1_1 zA1 D1_0 D1_1 zD1 Z1_0 Z1_1 Z1_f0 Z1_f1 zZ1
      replace A1 := Lib.hid (row_call hB A1.out)
      replace D1 := Lib.hid (row_call hB D1.out)
      replace Z1 := Lib.hid (row_call hB Z1.out)
      have B1 := Lib.hid (HB0.out.trans (hB.mono HB0.out.size))
      clear hB
      have A1_0 : V1.cell? ⟨w.heap.size, 0, none⟩ = some (.int .i64 s) := cell_of_row _ _ _ _ _ _ A1.out
      have A1_1 : V1.cell? ⟨w.heap.size, 1, none⟩ = some (.int .i64 n) := cell_of_row _ _ _ _ _ _ A1.out
      have zA1 := lt_of_heap A1.out
      have D1_0 : V1.cell? ⟨w.heap.size + 1, 0, none⟩ = some (.int .i64 d) := cell_of_row _ _ _ _ _ _ D1.out
      have D1_1 : V1.cell? ⟨w.heap.size + 1, 1, none⟩ = some (.int .i64 m) := cell_of_row _ _ _ _ _ _ D1.out
      have zD1 := lt_of_heap D1.out
      have Z1_0 : V1.cell? ⟨w.heap.size + 1 + 1, 0, none⟩ = some (.int .i64 0) := cell_of_row _ _ _ _ _ _ Z1.out
      have Z1_1 : V1.cell? ⟨w.heap.size + 1 + 1, 1, none⟩ = some (.int .i64 0) := cell_of_row _ _ _ _ _ _ Z1.out
      have Z1_f0 : V1.frozen? ⟨w.heap.size + 1 + 1, 0, none⟩ = false := (by simp [World.frozen?, Z1.out])
      have Z1_f1 : V1.frozen? ⟨w.heap.size + 1 + 1, 1, none⟩ = false := (by simp [World.frozen?, Z1.out])
      have zZ1 := lt_of_heap Z1.out
      go_wp2_with fail
      clear A1_0 A1_1 zA1 D1_0 D1_1 zD1 Z1_0 Z1_1 Z1_f0 Z1_f1 zZ1
      obtain ⟨W0, hW0⟩ : ∃ W0, W0 = V1 := ⟨_, rfl⟩
      replace A1 := Lib.hid (row_by hW0 A1.out)
      replace D1 := Lib.hid (row_by hW0 D1.out)
      replace Z1 := Lib.hid (row_by hW0 Z1.out)
      have HB0 := Lib.hid (below_by hW0 (B1.out))
      have HW0 := Lib.hid hW0
      clear hW0
      have A1_0 : W0.cell? ⟨w.heap.size, 0, none⟩ = some (.int .i64 s) := cell_of_row _ _ _ _ _ _ A1.out
      have A1_1 : W0.cell? ⟨w.heap.size, 1, none⟩ = some (.int .i64 n) := cell_of_row _ _ _ _ _ _ A1.out
      have zA1 := lt_of_heap A1.out
      have D1_0 : W0.cell? ⟨w.heap.size + 1, 0, none⟩ = some (.int .i64 d) := cell_of_row _ _ _ _ _ _ D1.out
      have D1_1 : W0.cell? ⟨w.heap.size + 1, 1, none⟩ = some (.int .i64 m) := cell_of_row _ _ _ _ _ _ D1.out
      have zD1 := lt_of_heap D1.out
      have Z1_0 : W0.cell? ⟨w.heap.size + 1 + 1, 0, none⟩ = some (.int .i64 0) := cell_of_row _ _ _ _ _ _ Z1.out
      have Z1_1 : W0.cell? ⟨w.heap.size + 1 + 1, 1, none⟩ = some (.int .i64 0) := cell_of_row _ _ _ _ _ _ Z1.out
      have Z1_f0 : W0.frozen? ⟨w.heap.size + 1 + 1, 0, none⟩ = false := (by simp [World.frozen?, Z1.out])
      have Z1_f1 : W0.frozen? ⟨w.heap.size + 1 + 1, 1, none⟩ = false := (by simp [World.frozen?, Z1.out])
      have zZ1 := lt_of_heap Z1.out
      try rw [← HW0.out]
      go_cut [9, 10] (fun s9 s10 wx => ∃ gS1 : Nat, s9 = .pointer (some ⟨gS1, 0, none⟩) ∧ s10 = .bool c1 ∧ wx.heap[gS1]? = some (.cells #[.int .u64 (zh a1), .int .u64 (zl a1)] 46 (0, 0)) ∧ Below W0.heap.size W0 wx)
      case first =>
        go_region_held3 (fun w' => Below W0.heap.size W0 w' ∧ w'.cell? ⟨w.heap.size, 0, none⟩ = some (.int .i64 s) ∧ w'.cell? ⟨w.heap.size, 1, none⟩ = some (.int .i64 n) ∧ w'.cell? ⟨w.heap.size + 1, 0, none⟩ = some (.int .i64 d) ∧ w'.cell? ⟨w.heap.size + 1, 1, none⟩ = some (.int .i64 m))
    (first
      | ((try go_split_ands); refine ⟨(Below.refl _ _).drew, ?_, ?_, ?_, ?_⟩ <;> first | assumption | (rw [World.cell?_drew]; assumption))
      | ((try go_split_ands); refine ⟨keepS (W0 := W0) ?_ hb1, cellS (W0 := W0) ?_ hb1 ?_ ?_, cellS (W0 := W0) ?_ hb1 ?_ ?_, cellS (W0 := W0) ?_ hb1 ?_ ?_, cellS (W0 := W0) ?_ hb1 ?_ ?_⟩ <;> first | assumption | omega)
      | ((try go_split_ands); refine ⟨keepA (W0 := W0) ?_ _, cellA (W0 := W0) ?_ _ ?_ ?_, cellA (W0 := W0) ?_ _ ?_ ?_, cellA (W0 := W0) ?_ _ ?_ ?_, cellA (W0 := W0) ?_ _ ?_ ?_⟩ <;> first | assumption | omega)
      | ((try go_split_ands); refine ⟨keepAd (W0 := W0) ?_ _, cellAd (W0 := W0) ?_ _ ?_ ?_, cellAd (W0 := W0) ?_ _ ?_ ?_, cellAd (W0 := W0) ?_ _ ?_ ?_, cellAd (W0 := W0) ?_ _ ?_ ?_⟩ <;> first | assumption | omega | exact Below.refl _ _)
      | ((try go_split_ands); refine ⟨keep2 (W0 := W0) ?_ ?_ _ _, cell2 (W0 := W0) ?_ _ _ ?_ ?_, cell2 (W0 := W0) ?_ _ _ ?_ ?_, cell2 (W0 := W0) ?_ _ _ ?_ ?_, cell2 (W0 := W0) ?_ _ _ ?_ ?_⟩ <;> first | assumption | omega | exact Nat.le_refl _)
      | ((try go_split_ands); refine ⟨keepZ (W0 := W0) ?_ ?_ _, cellZ (W0 := W0) ?_ _ ?_ ?_, cellZ (W0 := W0) ?_ _ ?_ ?_, cellZ (W0 := W0) ?_ _ ?_ ?_, cellZ (W0 := W0) ?_ _ ?_ ?_⟩ <;> first | assumption | omega | exact Nat.le_refl _ | exact ⟨_, by assumption⟩))
    (first | (go_at_call 30; (with_reducible refine (H4.out _).mono ?_); rintro e w1 ⟨rfl, hb1⟩; (try go_split_ands); have hge : W0.heap.size ≤ w1.heap.size := (by first | (refine (keepS (W0 := W0) ?_ hb1).size; assumption) | exact (hb1.size : W0.heap.size ≤ w1.heap.size)); (try have hrow := row_call hb1 hrow); (try have hrow := row_new hb1); (try have hrow := row_newd hb1); have hl1 := lt_below hb1; obtain ⟨hc1, hf1⟩ := bcell hb1; (try (have hrc := row_cellA hrow; clear hc1 hf1)); (try have hrf := row_frozA hrow)) | (go_at_call 33; (with_reducible refine (H5.out _).mono ?_); rintro e w1 ⟨rfl, hb1⟩; (try go_split_ands); have hge : W0.heap.size ≤ w1.heap.size := (by first | (refine (keepS (W0 := W0) ?_ hb1).size; assumption) | exact (hb1.size : W0.heap.size ≤ w1.heap.size)); (try have hrow := row_call hb1 hrow); (try have hrow := row_new hb1); (try have hrow := row_newd hb1); have hl1 := lt_below hb1; obtain ⟨hc1, hf1⟩ := bcell hb1; (try (have hrc := row_cellA hrow; clear hc1 hf1)); (try have hrf := row_frozA hrow)) | (go_at_call 49; (with_reducible refine (H6.out _).mono ?_); rintro e w1 ⟨rfl, hb1⟩; (try go_split_ands); have hge : W0.heap.size ≤ w1.heap.size := (by first | (refine (keepS (W0 := W0) ?_ hb1).size; assumption) | exact (hb1.size : W0.heap.size ≤ w1.heap.size)); (try have hrow := row_call hb1 hrow); (try have hrow := row_new hb1); (try have hrow := row_newd hb1); have hl1 := lt_below hb1; obtain ⟨hc1, hf1⟩ := bcell hb1; (try (have hrc := row_cellA hrow; clear hc1 hf1)); (try have hrf := row_frozA hrow)))
        all_goals (try go_split_ands)
        all_goals (go_wp2_with fail; go_meet; refine ⟨_, rfl, rfl, ?_, ?_⟩)
        all_goals first | assumption | exact heap_alloc_new _ _ | exact row_set (by assumption) _ _
      case rest =>
        obtain ⟨gS1, rfl, rfl, hS1, hB⟩ := hcut
        obtain ⟨V2, rfl⟩ : ∃ V, V = wc := ⟨_, rfl⟩
        have S1 := Lib.hid hS1
        clear hS1
        clear A1_0 A1_1 zA1 D1_0 D1_1 zD1 Z1_0 Z1_1 Z1_f0 Z1_f1 zZ1
        replace A1 := Lib.hid (row_call hB A1.out)
        replace D1 := Lib.hid (row_call hB D1.out)
        replace Z1 := Lib.hid (row_call hB Z1.out)
        have B2 := Lib.hid (HB0.out.trans (hB.mono HB0.out.size))
        clear hB
        have A1_0 : V2.cell? ⟨w.heap.size, 0, none⟩ = some (.int .i64 s) := cell_of_row _ _ _ _ _ _ A1.out
        have A1_1 : V2.cell? ⟨w.heap.size, 1, none⟩ = some (.int .i64 n) := cell_of_row _ _ _ _ _ _ A1.out
        have zA1 := lt_of_heap A1.out
        have D1_0 : V2.cell? ⟨w.heap.size + 1, 0, none⟩ = some (.int .i64 d) := cell_of_row _ _ _ _ _ _ D1.out
        have D1_1 : V2.cell? ⟨w.heap.size + 1, 1, none⟩ = some (.int .i64 m) := cell_of_row _ _ _ _ _ _ D1.out
        have zD1 := lt_of_heap D1.out
        have Z1_0 : V2.cell? ⟨w.heap.size + 1 + 1, 0, none⟩ = some (.int .i64 0) := cell_of_row _ _ _ _ _ _ Z1.out
        have Z1_1 : V2.cell? ⟨w.heap.size + 1 + 1, 1, none⟩ = some (.int .i64 0) := cell_of_row _ _ _ _ _ _ Z1.out
        have Z1_f0 : V2.frozen? ⟨w.heap.size + 1 + 1, 0, none⟩ = false := (by simp [World.frozen?, Z1.out])
        have Z1_f1 : V2.frozen? ⟨w.heap.size + 1 + 1, 1, none⟩ = false := (by simp [World.frozen?, Z1.out])
        have zZ1 := lt_of_heap Z1.out
        have S1_0 : V2.cell? ⟨gS1, 0, none⟩ = some (.int .u64 (zh a1)) := cell_of_row _ _ _ _ _ _ S1.out
        have S1_1 : V2.cell? ⟨gS1, 1, none⟩ = some (.int .u64 (zl a1)) := cell_of_row _ _ _ _ _ _ S1.out
        have zS1 := lt_of_heap S1.out
        go_wp2_with fail
        clear A1_0 A1_1 zA1 D1_0 D1_1 zD1 Z1_0 Z1_1 Z1_f0 Z1_f1 zZ1 S1_0 S1_1 zS1
        obtain ⟨W0, hW0⟩ : ∃ W0, W0 = V2 := ⟨_, rfl⟩
        replace A1 := Lib.hid (row_by hW0 A1.out)
        replace D1 := Lib.hid (row_by hW0 D1.out)
        replace Z1 := Lib.hid (row_by hW0 Z1.out)
        replace S1 := Lib.hid (row_by hW0 S1.out)
        have HB0 := Lib.hid (below_by hW0 (B2.out))
        have HW0 := Lib.hid hW0
        clear hW0
        have A1_0 : W0.cell? ⟨w.heap.size, 0, none⟩ = some (.int .i64 s) := cell_of_row _ _ _ _ _ _ A1.out
        have A1_1 : W0.cell? ⟨w.heap.size, 1, none⟩ = some (.int .i64 n) := cell_of_row _ _ _ _ _ _ A1.out
        have zA1 := lt_of_heap A1.out
        have D1_0 : W0.cell? ⟨w.heap.size + 1, 0, none⟩ = some (.int .i64 d) := cell_of_row _ _ _ _ _ _ D1.out
        have D1_1 : W0.cell? ⟨w.heap.size + 1, 1, none⟩ = some (.int .i64 m) := cell_of_row _ _ _ _ _ _ D1.out
        have zD1 := lt_of_heap D1.out
        have Z1_0 : W0.cell? ⟨w.heap.size + 1 + 1, 0, none⟩ = some (.int .i64 0) := cell_of_row _ _ _ _ _ _ Z1.out
        have Z1_1 : W0.cell? ⟨w.heap.size + 1 + 1, 1, none⟩ = some (.int .i64 0) := cell_of_row _ _ _ _ _ _ Z1.out
        have Z1_f0 : W0.frozen? ⟨w.heap.size + 1 + 1, 0, none⟩ = false := (by simp [World.frozen?, Z1.out])
        have Z1_f1 : W0.frozen? ⟨w.heap.size + 1 + 1, 1, none⟩ = false := (by simp [World.frozen?, Z1.out])
        have zZ1 := lt_of_heap Z1.out
        have S1_0 : W0.cell? ⟨gS1, 0, none⟩ = some (.int .u64 (zh a1)) := cell_of_row _ _ _ _ _ _ S1.out
        have S1_1 : W0.cell? ⟨gS1, 1, none⟩ = some (.int .u64 (zl a1)) := cell_of_row _ _ _ _ _ _ S1.out
        have zS1 := lt_of_heap S1.out
        try rw [← HW0.out]
        go_cut [11, 12] (fun s11 s12 wx => ∃ gN1 : Nat, s11 = .pointer (some ⟨gN1, 0, none⟩) ∧ s12 = .bool c2 ∧ wx.heap[gN1]? = some (.cells #[.int .u64 (zh a2), .int .u64 (zl a2)] 46 (0, 0)) ∧ Below W0.heap.size W0 wx)
        case first =>
          go_region_held3 (fun w' => Below W0.heap.size W0 w' ∧ w'.cell? ⟨w.heap.size, 0, none⟩ = some (.int .i64 s) ∧ w'.cell? ⟨w.heap.size, 1, none⟩ = some (.int .i64 n) ∧ w'.cell? ⟨w.heap.size + 1, 0, none⟩ = some (.int .i64 d) ∧ w'.cell? ⟨w.heap.size + 1, 1, none⟩ = some (.int .i64 m) ∧ w'.cell? ⟨gS1, 0, none⟩ = some (.int .u64 (zh a1)) ∧ w'.cell? ⟨gS1, 1, none⟩ = some (.int .u64 (zl a1)))
    (first
      | ((try go_split_ands); refine ⟨(Below.refl _ _).drew, ?_, ?_, ?_, ?_, ?_, ?_⟩ <;> first | assumption | (rw [World.cell?_drew]; assumption))
      | ((try go_split_ands); refine ⟨keepS (W0 := W0) ?_ hb1, cellS (W0 := W0) ?_ hb1 ?_ ?_, cellS (W0 := W0) ?_ hb1 ?_ ?_, cellS (W0 := W0) ?_ hb1 ?_ ?_, cellS (W0 := W0) ?_ hb1 ?_ ?_, cellS (W0 := W0) ?_ hb1 ?_ ?_, cellS (W0 := W0) ?_ hb1 ?_ ?_⟩ <;> first | assumption | omega)
      | ((try go_split_ands); refine ⟨keepA (W0 := W0) ?_ _, cellA (W0 := W0) ?_ _ ?_ ?_, cellA (W0 := W0) ?_ _ ?_ ?_, cellA (W0 := W0) ?_ _ ?_ ?_, cellA (W0 := W0) ?_ _ ?_ ?_, cellA (W0 := W0) ?_ _ ?_ ?_, cellA (W0 := W0) ?_ _ ?_ ?_⟩ <;> first | assumption | omega)
      | ((try go_split_ands); refine ⟨keepAd (W0 := W0) ?_ _, cellAd (W0 := W0) ?_ _ ?_ ?_, cellAd (W0 := W0) ?_ _ ?_ ?_, cellAd (W0 := W0) ?_ _ ?_ ?_, cellAd (W0 := W0) ?_ _ ?_ ?_, cellAd (W0 := W0) ?_ _ ?_ ?_, cellAd (W0 := W0) ?_ _ ?_ ?_⟩ <;> first | assumption | omega | exact Below.refl _ _)
      | ((try go_split_ands); refine ⟨keep2 (W0 := W0) ?_ ?_ _ _, cell2 (W0 := W0) ?_ _ _ ?_ ?_, cell2 (W0 := W0) ?_ _ _ ?_ ?_, cell2 (W0 := W0) ?_ _ _ ?_ ?_, cell2 (W0 := W0) ?_ _ _ ?_ ?_, cell2 (W0 := W0) ?_ _ _ ?_ ?_, cell2 (W0 := W0) ?_ _ _ ?_ ?_⟩ <;> first | assumption | omega | exact Nat.le_refl _)
      | ((try go_split_ands); refine ⟨keepZ (W0 := W0) ?_ ?_ _, cellZ (W0 := W0) ?_ _ ?_ ?_, cellZ (W0 := W0) ?_ _ ?_ ?_, cellZ (W0 := W0) ?_ _ ?_ ?_, cellZ (W0 := W0) ?_ _ ?_ ?_, cellZ (W0 := W0) ?_ _ ?_ ?_, cellZ (W0 := W0) ?_ _ ?_ ?_⟩ <;> first | assumption | omega | exact Nat.le_refl _ | exact ⟨_, by assumption⟩))
    (first | (go_at_call 30; (with_reducible refine (H7.out _).mono ?_); rintro e w1 ⟨rfl, hb1⟩; (try go_split_ands); have hge : W0.heap.size ≤ w1.heap.size := (by first | (refine (keepS (W0 := W0) ?_ hb1).size; assumption) | exact (hb1.size : W0.heap.size ≤ w1.heap.size)); (try have hrow := row_call hb1 hrow); (try have hrow := row_new hb1); (try have hrow := row_newd hb1); have hl1 := lt_below hb1; obtain ⟨hc1, hf1⟩ := bcell hb1; (try (have hrc := row_cellA hrow; clear hc1 hf1)); (try have hrf := row_frozA hrow)) | (go_at_call 33; (with_reducible refine (H8.out _).mono ?_); rintro e w1 ⟨rfl, hb1⟩; (try go_split_ands); have hge : W0.heap.size ≤ w1.heap.size := (by first | (refine (keepS (W0 := W0) ?_ hb1).size; assumption) | exact (hb1.size : W0.heap.size ≤ w1.heap.size)); (try have hrow := row_call hb1 hrow); (try have hrow := row_new hb1); (try have hrow := row_newd hb1); have hl1 := lt_below hb1; obtain ⟨hc1, hf1⟩ := bcell hb1; (try (have hrc := row_cellA hrow; clear hc1 hf1)); (try have hrf := row_frozA hrow)) | (go_at_call 49; (with_reducible refine (H9.out _).mono ?_); rintro e w1 ⟨rfl, hb1⟩; (try go_split_ands); have hge : W0.heap.size ≤ w1.heap.size := (by first | (refine (keepS (W0 := W0) ?_ hb1).size; assumption) | exact (hb1.size : W0.heap.size ≤ w1.heap.size)); (try have hrow := row_call hb1 hrow); (try have hrow := row_new hb1); (try have hrow := row_newd hb1); have hl1 := lt_below hb1; obtain ⟨hc1, hf1⟩ := bcell hb1; (try (have hrc := row_cellA hrow; clear hc1 hf1)); (try have hrf := row_frozA hrow)))
          all_goals (try go_split_ands)
          all_goals (go_wp2_with fail; go_meet; refine ⟨_, rfl, rfl, ?_, ?_⟩)
          all_goals first | assumption | exact heap_alloc_new _ _ | exact row_set (by assumption) _ _
        case rest =>
          obtain ⟨gN1, rfl, rfl, hN1, hB⟩ := hcut
          obtain ⟨V3, rfl⟩ : ∃ V, V = wc := ⟨_, rfl⟩
          have N1 := Lib.hid hN1
          clear hN1
          clear A1_0 A1_1 zA1 D1_0 D1_1 zD1 Z1_0 Z1_1 Z1_f0 Z1_f1 zZ1 S1_0 S1_1 zS1
          replace A1 := Lib.hid (row_call hB A1.out)
          replace D1 := Lib.hid (row_call hB D1.out)
          replace Z1 := Lib.hid (row_call hB Z1.out)
          replace S1 := Lib.hid (row_call hB S1.out)
          have B3 := Lib.hid (HB0.out.trans (hB.mono HB0.out.size))
          clear hB
          have A1_0 : V3.cell? ⟨w.heap.size, 0, none⟩ = some (.int .i64 s) := cell_of_row _ _ _ _ _ _ A1.out
          have A1_1 : V3.cell? ⟨w.heap.size, 1, none⟩ = some (.int .i64 n) := cell_of_row _ _ _ _ _ _ A1.out
          have zA1 := lt_of_heap A1.out
          have D1_0 : V3.cell? ⟨w.heap.size + 1, 0, none⟩ = some (.int .i64 d) := cell_of_row _ _ _ _ _ _ D1.out
          have D1_1 : V3.cell? ⟨w.heap.size + 1, 1, none⟩ = some (.int .i64 m) := cell_of_row _ _ _ _ _ _ D1.out
          have zD1 := lt_of_heap D1.out
          have Z1_0 : V3.cell? ⟨w.heap.size + 1 + 1, 0, none⟩ = some (.int .i64 0) := cell_of_row _ _ _ _ _ _ Z1.out
          have Z1_1 : V3.cell? ⟨w.heap.size + 1 + 1, 1, none⟩ = some (.int .i64 0) := cell_of_row _ _ _ _ _ _ Z1.out
          have Z1_f0 : V3.frozen? ⟨w.heap.size + 1 + 1, 0, none⟩ = false := (by simp [World.frozen?, Z1.out])
          have Z1_f1 : V3.frozen? ⟨w.heap.size + 1 + 1, 1, none⟩ = false := (by simp [World.frozen?, Z1.out])
          have zZ1 := lt_of_heap Z1.out
          have S1_0 : V3.cell? ⟨gS1, 0, none⟩ = some (.int .u64 (zh a1)) := cell_of_row _ _ _ _ _ _ S1.out
          have S1_1 : V3.cell? ⟨gS1, 1, none⟩ = some (.int .u64 (zl a1)) := cell_of_row _ _ _ _ _ _ S1.out
          have zS1 := lt_of_heap S1.out
          have N1_0 : V3.cell? ⟨gN1, 0, none⟩ = some (.int .u64 (zh a2)) := cell_of_row _ _ _ _ _ _ N1.out
          have N1_1 : V3.cell? ⟨gN1, 1, none⟩ = some (.int .u64 (zl a2)) := cell_of_row _ _ _ _ _ _ N1.out
          have zN1 := lt_of_heap N1.out
          go_wp2_with fail
          refine (H10.out _).mono ?_
          rintro e V4 ⟨rfl, hb4⟩
          clear A1_0 A1_1 zA1 D1_0 D1_1 zD1 Z1_0 Z1_1 Z1_f0 Z1_f1 zZ1 S1_0 S1_1 zS1 N1_0 N1_1 zN1
          have B4 : Hid (Below w.heap.size w V4) := by first | exact Lib.hid ((B3.out).trans (hb4.mono (by have := B3.out.size; first | assumption | (simp <;> omega) | (simp; done)))) | exact Lib.hid (((B3.out).alloc (B3.out.size) _).trans (hb4.mono (by have := B3.out.size; first | assumption | (simp <;> omega) | (simp; done)))) | exact Lib.hid ((((B3.out).alloc (B3.out.size) _).alloc (by have := B3.out.size; simp <;> omega) _).trans (hb4.mono (by have := B3.out.size; first | assumption | (simp <;> omega) | (simp; done)))) | exact Lib.hid (((((B3.out).alloc (B3.out.size) _).alloc (by have := B3.out.size; simp <;> omega) _).alloc (by have := B3.out.size; simp <;> omega) _).trans (hb4.mono (by have := B3.out.size; first | assumption | (simp <;> omega) | (simp; done))))
          first | replace A1 := Lib.hid (row_call hb4 A1.out) | replace A1 := Lib.hid (row_call hb4 (row_alloc A1.out _)) | replace A1 := Lib.hid (row_call hb4 (row_alloc (row_alloc A1.out _) _)) | replace A1 := Lib.hid (row_call hb4 (row_alloc (row_alloc (row_alloc A1.out _) _) _))
          first | replace D1 := Lib.hid (row_call hb4 D1.out) | replace D1 := Lib.hid (row_call hb4 (row_alloc D1.out _)) | replace D1 := Lib.hid (row_call hb4 (row_alloc (row_alloc D1.out _) _)) | replace D1 := Lib.hid (row_call hb4 (row_alloc (row_alloc (row_alloc D1.out _) _) _))
          first | replace Z1 := Lib.hid (row_call hb4 Z1.out) | replace Z1 := Lib.hid (row_call hb4 (row_alloc Z1.out _)) | replace Z1 := Lib.hid (row_call hb4 (row_alloc (row_alloc Z1.out _) _)) | replace Z1 := Lib.hid (row_call hb4 (row_alloc (row_alloc (row_alloc Z1.out _) _) _))
          first | replace S1 := Lib.hid (row_call hb4 S1.out) | replace S1 := Lib.hid (row_call hb4 (row_alloc S1.out _)) | replace S1 := Lib.hid (row_call hb4 (row_alloc (row_alloc S1.out _) _)) | replace S1 := Lib.hid (row_call hb4 (row_alloc (row_alloc (row_alloc S1.out _) _) _))
          first | replace N1 := Lib.hid (row_call hb4 N1.out) | replace N1 := Lib.hid (row_call hb4 (row_alloc N1.out _)) | replace N1 := Lib.hid (row_call hb4 (row_alloc (row_alloc N1.out _) _)) | replace N1 := Lib.hid (row_call hb4 (row_alloc (row_alloc (row_alloc N1.out _) _) _))
          clear hb4
          have A1_0 : V4.cell? ⟨w.heap.size, 0, none⟩ = some (.int .i64 s) := cell_of_row _ _ _ _ _ _ A1.out
          have A1_1 : V4.cell? ⟨w.heap.size, 1, none⟩ = some (.int .i64 n) := cell_of_row _ _ _ _ _ _ A1.out
          have D1_0 : V4.cell? ⟨w.heap.size + 1, 0, none⟩ = some (.int .i64 d) := cell_of_row _ _ _ _ _ _ D1.out
          have D1_1 : V4.cell? ⟨w.heap.size + 1, 1, none⟩ = some (.int .i64 m) := cell_of_row _ _ _ _ _ _ D1.out
          have Z1_0 : V4.cell? ⟨w.heap.size + 1 + 1, 0, none⟩ = some (.int .i64 0) := cell_of_row _ _ _ _ _ _ Z1.out
          have Z1_1 : V4.cell? ⟨w.heap.size + 1 + 1, 1, none⟩ = some (.int .i64 0) := cell_of_row _ _ _ _ _ _ Z1.out
          have Z1_f0 : V4.frozen? ⟨w.heap.size + 1 + 1, 0, none⟩ = false := by simp [World.frozen?, Z1.out]
          have Z1_f1 : V4.frozen? ⟨w.heap.size + 1 + 1, 1, none⟩ = false := by simp [World.frozen?, Z1.out]
          have S1_0 : V4.cell? ⟨gS1, 0, none⟩ = some (.int .u64 (zh a1)) := cell_of_row _ _ _ _ _ _ S1.out
          have S1_1 : V4.cell? ⟨gS1, 1, none⟩ = some (.int .u64 (zl a1)) := cell_of_row _ _ _ _ _ _ S1.out
          have N1_0 : V4.cell? ⟨gN1, 0, none⟩ = some (.int .u64 (zh a2)) := cell_of_row _ _ _ _ _ _ N1.out
          have N1_1 : V4.cell? ⟨gN1, 1, none⟩ = some (.int .u64 (zl a2)) := cell_of_row _ _ _ _ _ _ N1.out
          have zA1 := lt_of_heap A1.out
          have zD1 := lt_of_heap D1.out
          have zZ1 := lt_of_heap Z1.out
          have zS1 := lt_of_heap S1.out
          have zN1 := lt_of_heap N1.out
          go_simp
          go_wp2
          refine shut_ret (v := .tuple #[.agg #[.int .i64 RS, .int .i64 RN], .int .i64 RE]) (by simp [results, Try.results32, go_sem, zZ1, Z1_0, Z1_1]) rfl ⟨rfl, ?_⟩
          exact keep2 B4.out (by omega) _ _
  · obtain ⟨u1, u2, u3⟩ := pp_no (T := nanos s n + f * nanos d m) hc
    rw [u1, u2, u3]
    have H3 := Lib.hid X3
    clear X3 u1 u2 u3 bf
    generalize fsI (ckD s n) (ckD d m) = E at *
    generalize ckD s n = c1 at *
    generalize ckD d m = c2 at *
    have f1 : (E != 0) = true := by rw [bne_iff_ne]; exact hc
    go_enter Try.func32, Try.ntmps32
    refine wp_shut ?_
    go_wp2_with fail
    
    obtain ⟨W0, hW0⟩ : ∃ W0, W0 = (((w.alloc (Obj.cells #[Value.int .i64 s, Value.int .i64 n] 23)).alloc (Obj.cells #[Value.int .i64 d, Value.int .i64 m] 23)).alloc (Obj.cells #[Value.int .i64 0, Value.int .i64 0] 23)) := ⟨_, rfl⟩
    have A1 := Lib.hid (row_at (k' := w.heap.size) (by simp) (row_by hW0 (row_alloc (row_alloc (heap_alloc_new _ _) _) _)))
    have D1 := Lib.hid (row_at (k' := w.heap.size + 1) (by simp) (row_by hW0 (row_alloc (heap_alloc_new _ _) _)))
    have Z1 := Lib.hid (row_at (k' := w.heap.size + 1 + 1) (by simp) (row_by hW0 (heap_alloc_new _ _)))
    have HB0 := Lib.hid (below_by hW0 ((((Below.refl w.heap.size w).alloc (by simp <;> omega) _).alloc (by simp <;> omega) _).alloc (by simp <;> omega) _))
    have HW0 := Lib.hid hW0
    clear hW0
    have A1_0 : W0.cell? ⟨w.heap.size, 0, none⟩ = some (.int .i64 s) := cell_of_row _ _ _ _ _ _ A1.out
    have A1_1 : W0.cell? ⟨w.heap.size, 1, none⟩ = some (.int .i64 n) := cell_of_row _ _ _ _ _ _ A1.out
    have zA1 := lt_of_heap A1.out
    have D1_0 : W0.cell? ⟨w.heap.size + 1, 0, none⟩ = some (.int .i64 d) := cell_of_row _ _ _ _ _ _ D1.out
    have D1_1 : W0.cell? ⟨w.heap.size + 1, 1, none⟩ = some (.int .i64 m) := cell_of_row _ _ _ _ _ _ D1.out
    have zD1 := lt_of_heap D1.out
    have Z1_0 : W0.cell? ⟨w.heap.size + 1 + 1, 0, none⟩ = some (.int .i64 0) := cell_of_row _ _ _ _ _ _ Z1.out
    have Z1_1 : W0.cell? ⟨w.heap.size + 1 + 1, 1, none⟩ = some (.int .i64 0) := cell_of_row _ _ _ _ _ _ Z1.out
    have Z1_f0 : W0.frozen? ⟨w.heap.size + 1 + 1, 0, none⟩ = false := (by simp [World.frozen?, Z1.out])
    have Z1_f1 : W0.frozen? ⟨w.heap.size + 1 + 1, 1, none⟩ = false := (by simp [World.frozen?, Z1.out])
    have zZ1 := lt_of_heap Z1.out
    try rw [← HW0.out]
    go_cut [8] (fun s8 wx => s8 = .int .i64 E ∧ Below W0.heap.size W0 wx)
    case first =>
      go_region_held3 (fun w' => Below W0.heap.size W0 w' ∧ w'.cell? ⟨w.heap.size, 0, none⟩ = some (.int .i64 s) ∧ w'.cell? ⟨w.heap.size, 1, none⟩ = some (.int .i64 n) ∧ w'.cell? ⟨w.heap.size + 1, 0, none⟩ = some (.int .i64 d) ∧ w'.cell? ⟨w.heap.size + 1, 1, none⟩ = some (.int .i64 m))
    (first
      | ((try go_split_ands); refine ⟨(Below.refl _ _).drew, ?_, ?_, ?_, ?_⟩ <;> first | assumption | (rw [World.cell?_drew]; assumption))
      | ((try go_split_ands); refine ⟨keepS (W0 := W0) ?_ hb1, cellS (W0 := W0) ?_ hb1 ?_ ?_, cellS (W0 := W0) ?_ hb1 ?_ ?_, cellS (W0 := W0) ?_ hb1 ?_ ?_, cellS (W0 := W0) ?_ hb1 ?_ ?_⟩ <;> first | assumption | omega)
      | ((try go_split_ands); refine ⟨keepA (W0 := W0) ?_ _, cellA (W0 := W0) ?_ _ ?_ ?_, cellA (W0 := W0) ?_ _ ?_ ?_, cellA (W0 := W0) ?_ _ ?_ ?_, cellA (W0 := W0) ?_ _ ?_ ?_⟩ <;> first | assumption | omega)
      | ((try go_split_ands); refine ⟨keepAd (W0 := W0) ?_ _, cellAd (W0 := W0) ?_ _ ?_ ?_, cellAd (W0 := W0) ?_ _ ?_ ?_, cellAd (W0 := W0) ?_ _ ?_ ?_, cellAd (W0 := W0) ?_ _ ?_ ?_⟩ <;> first | assumption | omega | exact Below.refl _ _)
      | ((try go_split_ands); refine ⟨keep2 (W0 := W0) ?_ ?_ _ _, cell2 (W0 := W0) ?_ _ _ ?_ ?_, cell2 (W0 := W0) ?_ _ _ ?_ ?_, cell2 (W0 := W0) ?_ _ _ ?_ ?_, cell2 (W0 := W0) ?_ _ _ ?_ ?_⟩ <;> first | assumption | omega | exact Nat.le_refl _)
      | ((try go_split_ands); refine ⟨keepZ (W0 := W0) ?_ ?_ _, cellZ (W0 := W0) ?_ _ ?_ ?_, cellZ (W0 := W0) ?_ _ ?_ ?_, cellZ (W0 := W0) ?_ _ ?_ ?_, cellZ (W0 := W0) ?_ _ ?_ ?_⟩ <;> first | assumption | omega | exact Nat.le_refl _ | exact ⟨_, by assumption⟩))
    (first | (go_at_call 10; (with_reducible refine (H1.out _).mono ?_); rintro e w1 ⟨rfl, hb1⟩; (try go_split_ands); have hge : W0.heap.size ≤ w1.heap.size := (by first | (refine (keepS (W0 := W0) ?_ hb1).size; assumption) | exact (hb1.size : W0.heap.size ≤ w1.heap.size)); (try have hrow := row_call hb1 hrow); (try have hrow := row_new hb1); (try have hrow := row_newd hb1); have hl1 := lt_below hb1; obtain ⟨hc1, hf1⟩ := bcell hb1; (try (have hrc := row_cellA hrow; clear hc1 hf1)); (try have hrf := row_frozA hrow)) | (go_at_call 10; (with_reducible refine (H2.out _).mono ?_); rintro e w1 ⟨rfl, hb1⟩; (try go_split_ands); have hge : W0.heap.size ≤ w1.heap.size := (by first | (refine (keepS (W0 := W0) ?_ hb1).size; assumption) | exact (hb1.size : W0.heap.size ≤ w1.heap.size)); (try have hrow := row_call hb1 hrow); (try have hrow := row_new hb1); (try have hrow := row_newd hb1); have hl1 := lt_below hb1; obtain ⟨hc1, hf1⟩ := bcell hb1; (try (have hrc := row_cellA hrow; clear hc1 hf1)); (try have hrf := row_frozA hrow)) | (go_at_call 53; (with_reducible refine (H3.out _).mono ?_); rintro e w1 ⟨rfl, hb1⟩; (try go_split_ands); have hge : W0.heap.size ≤ w1.heap.size := (by first | (refine (keepS (W0 := W0) ?_ hb1).size; assumption) | exact (hb1.size : W0.heap.size ≤ w1.heap.size)); (try have hrow := row_call hb1 hrow); (try have hrow := row_new hb1); (try have hrow := row_newd hb1); have hl1 := lt_below hb1; obtain ⟨hc1, hf1⟩ := bcell hb1; (try (have hrc := row_cellA hrow; clear hc1 hf1)); (try have hrf := row_frozA hrow)))
      all_goals (try go_split_ands)
      all_goals (go_wp2_with fail; go_meet; refine ⟨rfl, ?_⟩)
      all_goals first | assumption | exact heap_alloc_new _ _ | exact row_set (by assumption) _ _
    case rest =>
      obtain ⟨rfl, hB⟩ := hcut
      obtain ⟨V1, rfl⟩ : ∃ V, V = wc := ⟨_, rfl⟩
      clear A1_0 A1_1 zA1 D1_0 D1_1 zD1 Z1_0 Z1_1 Z1_f0 Z1_f1 zZ1
      replace A1 := Lib.hid (row_call hB A1.out)
      replace D1 := Lib.hid (row_call hB D1.out)
      replace Z1 := Lib.hid (row_call hB Z1.out)
      have B1 := Lib.hid (HB0.out.trans (hB.mono HB0.out.size))
      clear hB
      have A1_0 : V1.cell? ⟨w.heap.size, 0, none⟩ = some (.int .i64 s) := cell_of_row _ _ _ _ _ _ A1.out
      have A1_1 : V1.cell? ⟨w.heap.size, 1, none⟩ = some (.int .i64 n) := cell_of_row _ _ _ _ _ _ A1.out
      have zA1 := lt_of_heap A1.out
      have D1_0 : V1.cell? ⟨w.heap.size + 1, 0, none⟩ = some (.int .i64 d) := cell_of_row _ _ _ _ _ _ D1.out
      have D1_1 : V1.cell? ⟨w.heap.size + 1, 1, none⟩ = some (.int .i64 m) := cell_of_row _ _ _ _ _ _ D1.out
      have zD1 := lt_of_heap D1.out
      have Z1_0 : V1.cell? ⟨w.heap.size + 1 + 1, 0, none⟩ = some (.int .i64 0) := cell_of_row _ _ _ _ _ _ Z1.out
      have Z1_1 : V1.cell? ⟨w.heap.size + 1 + 1, 1, none⟩ = some (.int .i64 0) := cell_of_row _ _ _ _ _ _ Z1.out
      have Z1_f0 : V1.frozen? ⟨w.heap.size + 1 + 1, 0, none⟩ = false := (by simp [World.frozen?, Z1.out])
      have Z1_f1 : V1.frozen? ⟨w.heap.size + 1 + 1, 1, none⟩ = false := (by simp [World.frozen?, Z1.out])
      have zZ1 := lt_of_heap Z1.out
      go_wp2
      refine shut_ret (v := .tuple #[.agg #[.int .i64 0, .int .i64 0], .int .i64 E]) (by simp [results, Try.results32, go_sem, zZ1, Z1_0, Z1_1]) rfl ⟨rfl, ?_⟩
      exact keep2 B1.out (by omega) _ _
end Go.Proofs.Ytjgpjphffjjhdaa
