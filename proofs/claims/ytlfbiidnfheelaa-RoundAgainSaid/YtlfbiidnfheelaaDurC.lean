/- Contracts of package dur: parts joined, sums, nanoseconds. -/
import Derived.Test.YtlfbiidnfheelaaDurB
namespace Go.Proofs.Ytlfbiidnfheelaa
set_option linter.unusedVariables false
set_option linter.unusedSimpArgs false
open Go.ChangeShapes Go.WideShapes Go.ChangeAt Go.RowKit

theorem duE_far {T : Int} (h : ¬ in64 (T / 1000000000)) : ¬ (-1099511627776000000000 ≤ T ∧ T ≤ 1099511627776000000000) := by unfold in64 at h; omega
set_option maxHeartbeats 1600000 in
set_option maxRecDepth 100000 in
theorem join_any (x y : Int) (bx : in128 x) (b : in128 y) (bs : in128 (x + y / 1000000000)) (w : World) :
    Calls Try.prog 59 #[.agg #[.int .u64 (zh x), .int .u64 (zl x)], .agg #[.int .u64 (zh y), .int .u64 (zl y)]] w fun e w' => e = .returned (.tuple #[.agg #[.int .i64 (duS (nanos x y)), .int .i64 (duN (nanos x y))], .int .i64 (duE (nanos x y))]) ∧ Below w.heap.size w w' := by
  have X1 := dFloor_any y 1000000000 b (by unfold U; omega) (by omega)
  rw [show ((1000000000 : Nat) : Int) = 1000000000 from rfl] at X1
  have X2 := zAdd_any x (y / 1000000000)
  have X3 := zInt_any _ bs
  have e1 : nanos x y / 1000000000 = x + y / 1000000000 := by unfold nanos; omega
  have e2 : nanos x y % 1000000000 = y % 1000000000 := by unfold nanos; omega
  have r0 : 0 ≤ y % 1000000000 := by omega
  have r1 : y % 1000000000 < 1000000000 := by omega
  have f1 : wrap64 (y % 1000000000) = y % 1000000000 := by unfold wrap64; omega
  have ck := dd_ck (nanos x y)
  rw [e1, e2] at ck
  have X4 := dCheck_any (x + y / 1000000000) (y % 1000000000)
  rw [ck] at X4
  have H1 := Lib.hid X1
  have H2 := Lib.hid X2
  by_cases hq : in64 (x + y / 1000000000)
  · rw [iV_of hq, iE_of hq] at X3
    have H3 := Lib.hid X3
    by_cases ht : -1099511627776000000000 ≤ nanos x y ∧ nanos x y ≤ 1099511627776000000000
    · obtain ⟨u1, u2, u3⟩ := dd_yes ht
      rw [u1, u2, u3, e1, e2]
      rw [u3] at X4
      have H4 := Lib.hid X4
      clear X1 X2 X3 X4 ck u1 u2 u3 ht hq e1 e2 bx b bs
      generalize cb x (y / 1000000000) = o at *
      generalize x + y / 1000000000 = Q at *
      generalize y / 1000000000 = q at *
      generalize y % 1000000000 = R at *
      go_enter Try.func59, Try.ntmps59
      refine wp_shut ?_
      go_wp2_with fail
      
      refine (H1.out _).mono ?_
      rintro e V1 ⟨rfl, hb1⟩
      have B1 := Lib.hid (((((Below.refl w.heap.size w).alloc (Nat.le_refl _) _).alloc (by simp <;> omega) _).alloc (by simp <;> omega) _).trans (hb1.mono (by first | assumption | (simp <;> omega) | (simp; done))))
      have A1 := Lib.hid (row_call hb1 (row_alloc (row_alloc (heap_alloc_new _ _) _) _))
      have D1 := Lib.hid (row_at (k' := w.heap.size + 1) (by simp) (row_call hb1 (row_alloc (heap_alloc_new _ _) _)))
      have Z1 := Lib.hid (row_at (k' := w.heap.size + 1 + 1) (by simp) (row_call hb1 (heap_alloc_new _ _)))
      clear hb1
      have A1_0 : V1.cell? ⟨w.heap.size, 0, none⟩ = some (.int .u64 (zh x)) := cell_of_row _ _ _ _ _ _ A1.out
      have A1_1 : V1.cell? ⟨w.heap.size, 1, none⟩ = some (.int .u64 (zl x)) := cell_of_row _ _ _ _ _ _ A1.out
      have D1_0 : V1.cell? ⟨w.heap.size + 1, 0, none⟩ = some (.int .u64 (zh y)) := cell_of_row _ _ _ _ _ _ D1.out
      have D1_1 : V1.cell? ⟨w.heap.size + 1, 1, none⟩ = some (.int .u64 (zl y)) := cell_of_row _ _ _ _ _ _ D1.out
      have Z1_0 : V1.cell? ⟨w.heap.size + 1 + 1, 0, none⟩ = some (.int .i64 0) := cell_of_row _ _ _ _ _ _ Z1.out
      have Z1_1 : V1.cell? ⟨w.heap.size + 1 + 1, 1, none⟩ = some (.int .i64 0) := cell_of_row _ _ _ _ _ _ Z1.out
      have Z1_f0 : V1.frozen? ⟨w.heap.size + 1 + 1, 0, none⟩ = false := by simp [World.frozen?, Z1.out]
      have Z1_f1 : V1.frozen? ⟨w.heap.size + 1 + 1, 1, none⟩ = false := by simp [World.frozen?, Z1.out]
      have zA1 := lt_of_heap A1.out
      have zD1 := lt_of_heap D1.out
      have zZ1 := lt_of_heap Z1.out
      go_simp
      go_wp2_with fail
      refine (H2.out _).mono ?_
      rintro e V2 ⟨rfl, hb2⟩
      clear A1_0 A1_1 zA1 D1_0 D1_1 zD1 Z1_0 Z1_1 Z1_f0 Z1_f1 zZ1
      have nA1Q1 := Lib.hid (lt_of_heap A1.out)
      have nD1Q1 := Lib.hid (lt_of_heap D1.out)
      have nZ1Q1 := Lib.hid (lt_of_heap Z1.out)
      have B2 := Lib.hid (((B1.out).alloc (B1.out.size) _).trans (hb2.mono (by have := B1.out.size; first | assumption | (simp <;> omega) | (simp; done))))
      replace A1 := Lib.hid (row_call hb2 (row_alloc A1.out _))
      replace D1 := Lib.hid (row_call hb2 (row_alloc D1.out _))
      replace Z1 := Lib.hid (row_call hb2 (row_alloc Z1.out _))
      have Q1 := Lib.hid (row_call hb2 (heap_alloc_new _ _))
      clear hb2
      have A1_0 : V2.cell? ⟨w.heap.size, 0, none⟩ = some (.int .u64 (zh x)) := cell_of_row _ _ _ _ _ _ A1.out
      have A1_1 : V2.cell? ⟨w.heap.size, 1, none⟩ = some (.int .u64 (zl x)) := cell_of_row _ _ _ _ _ _ A1.out
      have D1_0 : V2.cell? ⟨w.heap.size + 1, 0, none⟩ = some (.int .u64 (zh y)) := cell_of_row _ _ _ _ _ _ D1.out
      have D1_1 : V2.cell? ⟨w.heap.size + 1, 1, none⟩ = some (.int .u64 (zl y)) := cell_of_row _ _ _ _ _ _ D1.out
      have Z1_0 : V2.cell? ⟨w.heap.size + 1 + 1, 0, none⟩ = some (.int .i64 0) := cell_of_row _ _ _ _ _ _ Z1.out
      have Z1_1 : V2.cell? ⟨w.heap.size + 1 + 1, 1, none⟩ = some (.int .i64 0) := cell_of_row _ _ _ _ _ _ Z1.out
      have Z1_f0 : V2.frozen? ⟨w.heap.size + 1 + 1, 0, none⟩ = false := by simp [World.frozen?, Z1.out]
      have Z1_f1 : V2.frozen? ⟨w.heap.size + 1 + 1, 1, none⟩ = false := by simp [World.frozen?, Z1.out]
      have Q1_0 : V2.cell? ⟨V1.heap.size, 0, none⟩ = some (.int .u64 (zh q)) := cell_of_row _ _ _ _ _ _ Q1.out
      have Q1_1 : V2.cell? ⟨V1.heap.size, 1, none⟩ = some (.int .u64 (zl q)) := cell_of_row _ _ _ _ _ _ Q1.out
      have zA1 := lt_of_heap A1.out
      have zD1 := lt_of_heap D1.out
      have zZ1 := lt_of_heap Z1.out
      have zQ1 := lt_of_heap Q1.out
      go_simp
      go_wp2_with fail
      refine (H3.out _).mono ?_
      rintro e V3 ⟨rfl, hb3⟩
      clear A1_0 A1_1 zA1 D1_0 D1_1 zD1 Z1_0 Z1_1 Z1_f0 Z1_f1 zZ1 Q1_0 Q1_1 zQ1
      have nA1S1 := Lib.hid (lt_of_heap A1.out)
      have nD1S1 := Lib.hid (lt_of_heap D1.out)
      have nZ1S1 := Lib.hid (lt_of_heap Z1.out)
      have nQ1S1 := Lib.hid (lt_of_heap Q1.out)
      have B3 := Lib.hid (((B2.out).alloc (B2.out.size) _).trans (hb3.mono (by have := B2.out.size; first | assumption | (simp <;> omega) | (simp; done))))
      replace A1 := Lib.hid (row_call hb3 (row_alloc A1.out _))
      replace D1 := Lib.hid (row_call hb3 (row_alloc D1.out _))
      replace Z1 := Lib.hid (row_call hb3 (row_alloc Z1.out _))
      replace Q1 := Lib.hid (row_call hb3 (row_alloc Q1.out _))
      have S1 := Lib.hid (row_call hb3 (heap_alloc_new _ _))
      clear hb3
      have A1_0 : V3.cell? ⟨w.heap.size, 0, none⟩ = some (.int .u64 (zh x)) := cell_of_row _ _ _ _ _ _ A1.out
      have A1_1 : V3.cell? ⟨w.heap.size, 1, none⟩ = some (.int .u64 (zl x)) := cell_of_row _ _ _ _ _ _ A1.out
      have D1_0 : V3.cell? ⟨w.heap.size + 1, 0, none⟩ = some (.int .u64 (zh y)) := cell_of_row _ _ _ _ _ _ D1.out
      have D1_1 : V3.cell? ⟨w.heap.size + 1, 1, none⟩ = some (.int .u64 (zl y)) := cell_of_row _ _ _ _ _ _ D1.out
      have Z1_0 : V3.cell? ⟨w.heap.size + 1 + 1, 0, none⟩ = some (.int .i64 0) := cell_of_row _ _ _ _ _ _ Z1.out
      have Z1_1 : V3.cell? ⟨w.heap.size + 1 + 1, 1, none⟩ = some (.int .i64 0) := cell_of_row _ _ _ _ _ _ Z1.out
      have Z1_f0 : V3.frozen? ⟨w.heap.size + 1 + 1, 0, none⟩ = false := by simp [World.frozen?, Z1.out]
      have Z1_f1 : V3.frozen? ⟨w.heap.size + 1 + 1, 1, none⟩ = false := by simp [World.frozen?, Z1.out]
      have Q1_0 : V3.cell? ⟨V1.heap.size, 0, none⟩ = some (.int .u64 (zh q)) := cell_of_row _ _ _ _ _ _ Q1.out
      have Q1_1 : V3.cell? ⟨V1.heap.size, 1, none⟩ = some (.int .u64 (zl q)) := cell_of_row _ _ _ _ _ _ Q1.out
      have S1_0 : V3.cell? ⟨V2.heap.size, 0, none⟩ = some (.int .u64 (zh Q)) := cell_of_row _ _ _ _ _ _ S1.out
      have S1_1 : V3.cell? ⟨V2.heap.size, 1, none⟩ = some (.int .u64 (zl Q)) := cell_of_row _ _ _ _ _ _ S1.out
      have zA1 := lt_of_heap A1.out
      have zD1 := lt_of_heap D1.out
      have zZ1 := lt_of_heap Z1.out
      have zQ1 := lt_of_heap Q1.out
      have zS1 := lt_of_heap S1.out
      go_simp
      go_wp2_with fail
      refine (H4.out _).mono ?_
      rintro e V4 ⟨rfl, hb4⟩
      clear A1_0 A1_1 zA1 D1_0 D1_1 zD1 Z1_0 Z1_1 Z1_f0 Z1_f1 zZ1 Q1_0 Q1_1 zQ1 S1_0 S1_1 zS1
      have nA1I1 := Lib.hid (lt_of_heap A1.out)
      have nD1I1 := Lib.hid (lt_of_heap D1.out)
      have nZ1I1 := Lib.hid (lt_of_heap Z1.out)
      have nQ1I1 := Lib.hid (lt_of_heap Q1.out)
      have nS1I1 := Lib.hid (lt_of_heap S1.out)
      have B4 := Lib.hid (((B3.out).alloc (B3.out.size) _).trans (hb4.mono (by have := B3.out.size; first | assumption | (simp <;> omega) | (simp; done))))
      replace A1 := Lib.hid (row_call hb4 (row_alloc A1.out _))
      replace D1 := Lib.hid (row_call hb4 (row_alloc D1.out _))
      replace Z1 := Lib.hid (row_call hb4 (row_alloc Z1.out _))
      replace Q1 := Lib.hid (row_call hb4 (row_alloc Q1.out _))
      replace S1 := Lib.hid (row_call hb4 (row_alloc S1.out _))
      have I1 := Lib.hid (row_call hb4 (heap_alloc_new _ _))
      clear hb4
      have A1_0 : V4.cell? ⟨w.heap.size, 0, none⟩ = some (.int .u64 (zh x)) := cell_of_row _ _ _ _ _ _ A1.out
      have A1_1 : V4.cell? ⟨w.heap.size, 1, none⟩ = some (.int .u64 (zl x)) := cell_of_row _ _ _ _ _ _ A1.out
      have D1_0 : V4.cell? ⟨w.heap.size + 1, 0, none⟩ = some (.int .u64 (zh y)) := cell_of_row _ _ _ _ _ _ D1.out
      have D1_1 : V4.cell? ⟨w.heap.size + 1, 1, none⟩ = some (.int .u64 (zl y)) := cell_of_row _ _ _ _ _ _ D1.out
      have Z1_0 : V4.cell? ⟨w.heap.size + 1 + 1, 0, none⟩ = some (.int .i64 0) := cell_of_row _ _ _ _ _ _ Z1.out
      have Z1_1 : V4.cell? ⟨w.heap.size + 1 + 1, 1, none⟩ = some (.int .i64 0) := cell_of_row _ _ _ _ _ _ Z1.out
      have Z1_f0 : V4.frozen? ⟨w.heap.size + 1 + 1, 0, none⟩ = false := by simp [World.frozen?, Z1.out]
      have Z1_f1 : V4.frozen? ⟨w.heap.size + 1 + 1, 1, none⟩ = false := by simp [World.frozen?, Z1.out]
      have Q1_0 : V4.cell? ⟨V1.heap.size, 0, none⟩ = some (.int .u64 (zh q)) := cell_of_row _ _ _ _ _ _ Q1.out
      have Q1_1 : V4.cell? ⟨V1.heap.size, 1, none⟩ = some (.int .u64 (zl q)) := cell_of_row _ _ _ _ _ _ Q1.out
      have S1_0 : V4.cell? ⟨V2.heap.size, 0, none⟩ = some (.int .u64 (zh Q)) := cell_of_row _ _ _ _ _ _ S1.out
      have S1_1 : V4.cell? ⟨V2.heap.size, 1, none⟩ = some (.int .u64 (zl Q)) := cell_of_row _ _ _ _ _ _ S1.out
      have I1_0 : V4.cell? ⟨V3.heap.size, 0, none⟩ = some (.int .i64 Q) := cell_of_row _ _ _ _ _ _ I1.out
      have I1_1 : V4.cell? ⟨V3.heap.size, 1, none⟩ = some (.int .i64 R) := cell_of_row _ _ _ _ _ _ I1.out
      have zA1 := lt_of_heap A1.out
      have zD1 := lt_of_heap D1.out
      have zZ1 := lt_of_heap Z1.out
      have zQ1 := lt_of_heap Q1.out
      have zS1 := lt_of_heap S1.out
      have zI1 := lt_of_heap I1.out
      go_simp
      go_wp2
      refine shut_ret (v := .tuple #[.agg #[.int .i64 Q, .int .i64 R], .int .i64 0]) (by simp [results, Try.results59, go_sem, zZ1, Z1_0, Z1_1]) rfl ⟨rfl, ?_⟩
      exact keep2 B4.out (by omega) _ _
    · obtain ⟨u1, u2, u3⟩ := dd_no ht
      rw [u1, u2, u3]
      rw [u3] at X4
      have H4 := Lib.hid X4
      clear X1 X2 X3 X4 ck u1 u2 u3 ht hq e1 e2 bx b bs
      generalize cb x (y / 1000000000) = o at *
      generalize x + y / 1000000000 = Q at *
      generalize y / 1000000000 = q at *
      generalize y % 1000000000 = R at *
      go_enter Try.func59, Try.ntmps59
      refine wp_shut ?_
      go_wp2_with fail
      
      refine (H1.out _).mono ?_
      rintro e V1 ⟨rfl, hb1⟩
      have B1 := Lib.hid (((((Below.refl w.heap.size w).alloc (Nat.le_refl _) _).alloc (by simp <;> omega) _).alloc (by simp <;> omega) _).trans (hb1.mono (by first | assumption | (simp <;> omega) | (simp; done))))
      have A1 := Lib.hid (row_call hb1 (row_alloc (row_alloc (heap_alloc_new _ _) _) _))
      have D1 := Lib.hid (row_at (k' := w.heap.size + 1) (by simp) (row_call hb1 (row_alloc (heap_alloc_new _ _) _)))
      have Z1 := Lib.hid (row_at (k' := w.heap.size + 1 + 1) (by simp) (row_call hb1 (heap_alloc_new _ _)))
      clear hb1
      have A1_0 : V1.cell? ⟨w.heap.size, 0, none⟩ = some (.int .u64 (zh x)) := cell_of_row _ _ _ _ _ _ A1.out
      have A1_1 : V1.cell? ⟨w.heap.size, 1, none⟩ = some (.int .u64 (zl x)) := cell_of_row _ _ _ _ _ _ A1.out
      have D1_0 : V1.cell? ⟨w.heap.size + 1, 0, none⟩ = some (.int .u64 (zh y)) := cell_of_row _ _ _ _ _ _ D1.out
      have D1_1 : V1.cell? ⟨w.heap.size + 1, 1, none⟩ = some (.int .u64 (zl y)) := cell_of_row _ _ _ _ _ _ D1.out
      have Z1_0 : V1.cell? ⟨w.heap.size + 1 + 1, 0, none⟩ = some (.int .i64 0) := cell_of_row _ _ _ _ _ _ Z1.out
      have Z1_1 : V1.cell? ⟨w.heap.size + 1 + 1, 1, none⟩ = some (.int .i64 0) := cell_of_row _ _ _ _ _ _ Z1.out
      have Z1_f0 : V1.frozen? ⟨w.heap.size + 1 + 1, 0, none⟩ = false := by simp [World.frozen?, Z1.out]
      have Z1_f1 : V1.frozen? ⟨w.heap.size + 1 + 1, 1, none⟩ = false := by simp [World.frozen?, Z1.out]
      have zA1 := lt_of_heap A1.out
      have zD1 := lt_of_heap D1.out
      have zZ1 := lt_of_heap Z1.out
      go_simp
      go_wp2_with fail
      refine (H2.out _).mono ?_
      rintro e V2 ⟨rfl, hb2⟩
      clear A1_0 A1_1 zA1 D1_0 D1_1 zD1 Z1_0 Z1_1 Z1_f0 Z1_f1 zZ1
      have nA1Q1 := Lib.hid (lt_of_heap A1.out)
      have nD1Q1 := Lib.hid (lt_of_heap D1.out)
      have nZ1Q1 := Lib.hid (lt_of_heap Z1.out)
      have B2 := Lib.hid (((B1.out).alloc (B1.out.size) _).trans (hb2.mono (by have := B1.out.size; first | assumption | (simp <;> omega) | (simp; done))))
      replace A1 := Lib.hid (row_call hb2 (row_alloc A1.out _))
      replace D1 := Lib.hid (row_call hb2 (row_alloc D1.out _))
      replace Z1 := Lib.hid (row_call hb2 (row_alloc Z1.out _))
      have Q1 := Lib.hid (row_call hb2 (heap_alloc_new _ _))
      clear hb2
      have A1_0 : V2.cell? ⟨w.heap.size, 0, none⟩ = some (.int .u64 (zh x)) := cell_of_row _ _ _ _ _ _ A1.out
      have A1_1 : V2.cell? ⟨w.heap.size, 1, none⟩ = some (.int .u64 (zl x)) := cell_of_row _ _ _ _ _ _ A1.out
      have D1_0 : V2.cell? ⟨w.heap.size + 1, 0, none⟩ = some (.int .u64 (zh y)) := cell_of_row _ _ _ _ _ _ D1.out
      have D1_1 : V2.cell? ⟨w.heap.size + 1, 1, none⟩ = some (.int .u64 (zl y)) := cell_of_row _ _ _ _ _ _ D1.out
      have Z1_0 : V2.cell? ⟨w.heap.size + 1 + 1, 0, none⟩ = some (.int .i64 0) := cell_of_row _ _ _ _ _ _ Z1.out
      have Z1_1 : V2.cell? ⟨w.heap.size + 1 + 1, 1, none⟩ = some (.int .i64 0) := cell_of_row _ _ _ _ _ _ Z1.out
      have Z1_f0 : V2.frozen? ⟨w.heap.size + 1 + 1, 0, none⟩ = false := by simp [World.frozen?, Z1.out]
      have Z1_f1 : V2.frozen? ⟨w.heap.size + 1 + 1, 1, none⟩ = false := by simp [World.frozen?, Z1.out]
      have Q1_0 : V2.cell? ⟨V1.heap.size, 0, none⟩ = some (.int .u64 (zh q)) := cell_of_row _ _ _ _ _ _ Q1.out
      have Q1_1 : V2.cell? ⟨V1.heap.size, 1, none⟩ = some (.int .u64 (zl q)) := cell_of_row _ _ _ _ _ _ Q1.out
      have zA1 := lt_of_heap A1.out
      have zD1 := lt_of_heap D1.out
      have zZ1 := lt_of_heap Z1.out
      have zQ1 := lt_of_heap Q1.out
      go_simp
      go_wp2_with fail
      refine (H3.out _).mono ?_
      rintro e V3 ⟨rfl, hb3⟩
      clear A1_0 A1_1 zA1 D1_0 D1_1 zD1 Z1_0 Z1_1 Z1_f0 Z1_f1 zZ1 Q1_0 Q1_1 zQ1
      have nA1S1 := Lib.hid (lt_of_heap A1.out)
      have nD1S1 := Lib.hid (lt_of_heap D1.out)
      have nZ1S1 := Lib.hid (lt_of_heap Z1.out)
      have nQ1S1 := Lib.hid (lt_of_heap Q1.out)
      have B3 := Lib.hid (((B2.out).alloc (B2.out.size) _).trans (hb3.mono (by have := B2.out.size; first | assumption | (simp <;> omega) | (simp; done))))
      replace A1 := Lib.hid (row_call hb3 (row_alloc A1.out _))
      replace D1 := Lib.hid (row_call hb3 (row_alloc D1.out _))
      replace Z1 := Lib.hid (row_call hb3 (row_alloc Z1.out _))
      replace Q1 := Lib.hid (row_call hb3 (row_alloc Q1.out _))
      have S1 := Lib.hid (row_call hb3 (heap_alloc_new _ _))
      clear hb3
      have A1_0 : V3.cell? ⟨w.heap.size, 0, none⟩ = some (.int .u64 (zh x)) := cell_of_row _ _ _ _ _ _ A1.out
      have A1_1 : V3.cell? ⟨w.heap.size, 1, none⟩ = some (.int .u64 (zl x)) := cell_of_row _ _ _ _ _ _ A1.out
      have D1_0 : V3.cell? ⟨w.heap.size + 1, 0, none⟩ = some (.int .u64 (zh y)) := cell_of_row _ _ _ _ _ _ D1.out
      have D1_1 : V3.cell? ⟨w.heap.size + 1, 1, none⟩ = some (.int .u64 (zl y)) := cell_of_row _ _ _ _ _ _ D1.out
      have Z1_0 : V3.cell? ⟨w.heap.size + 1 + 1, 0, none⟩ = some (.int .i64 0) := cell_of_row _ _ _ _ _ _ Z1.out
      have Z1_1 : V3.cell? ⟨w.heap.size + 1 + 1, 1, none⟩ = some (.int .i64 0) := cell_of_row _ _ _ _ _ _ Z1.out
      have Z1_f0 : V3.frozen? ⟨w.heap.size + 1 + 1, 0, none⟩ = false := by simp [World.frozen?, Z1.out]
      have Z1_f1 : V3.frozen? ⟨w.heap.size + 1 + 1, 1, none⟩ = false := by simp [World.frozen?, Z1.out]
      have Q1_0 : V3.cell? ⟨V1.heap.size, 0, none⟩ = some (.int .u64 (zh q)) := cell_of_row _ _ _ _ _ _ Q1.out
      have Q1_1 : V3.cell? ⟨V1.heap.size, 1, none⟩ = some (.int .u64 (zl q)) := cell_of_row _ _ _ _ _ _ Q1.out
      have S1_0 : V3.cell? ⟨V2.heap.size, 0, none⟩ = some (.int .u64 (zh Q)) := cell_of_row _ _ _ _ _ _ S1.out
      have S1_1 : V3.cell? ⟨V2.heap.size, 1, none⟩ = some (.int .u64 (zl Q)) := cell_of_row _ _ _ _ _ _ S1.out
      have zA1 := lt_of_heap A1.out
      have zD1 := lt_of_heap D1.out
      have zZ1 := lt_of_heap Z1.out
      have zQ1 := lt_of_heap Q1.out
      have zS1 := lt_of_heap S1.out
      go_simp
      go_wp2_with fail
      refine (H4.out _).mono ?_
      rintro e V4 ⟨rfl, hb4⟩
      clear A1_0 A1_1 zA1 D1_0 D1_1 zD1 Z1_0 Z1_1 Z1_f0 Z1_f1 zZ1 Q1_0 Q1_1 zQ1 S1_0 S1_1 zS1
      have nA1I1 := Lib.hid (lt_of_heap A1.out)
      have nD1I1 := Lib.hid (lt_of_heap D1.out)
      have nZ1I1 := Lib.hid (lt_of_heap Z1.out)
      have nQ1I1 := Lib.hid (lt_of_heap Q1.out)
      have nS1I1 := Lib.hid (lt_of_heap S1.out)
      have B4 := Lib.hid (((B3.out).alloc (B3.out.size) _).trans (hb4.mono (by have := B3.out.size; first | assumption | (simp <;> omega) | (simp; done))))
      replace A1 := Lib.hid (row_call hb4 (row_alloc A1.out _))
      replace D1 := Lib.hid (row_call hb4 (row_alloc D1.out _))
      replace Z1 := Lib.hid (row_call hb4 (row_alloc Z1.out _))
      replace Q1 := Lib.hid (row_call hb4 (row_alloc Q1.out _))
      replace S1 := Lib.hid (row_call hb4 (row_alloc S1.out _))
      have I1 := Lib.hid (row_call hb4 (heap_alloc_new _ _))
      clear hb4
      have A1_0 : V4.cell? ⟨w.heap.size, 0, none⟩ = some (.int .u64 (zh x)) := cell_of_row _ _ _ _ _ _ A1.out
      have A1_1 : V4.cell? ⟨w.heap.size, 1, none⟩ = some (.int .u64 (zl x)) := cell_of_row _ _ _ _ _ _ A1.out
      have D1_0 : V4.cell? ⟨w.heap.size + 1, 0, none⟩ = some (.int .u64 (zh y)) := cell_of_row _ _ _ _ _ _ D1.out
      have D1_1 : V4.cell? ⟨w.heap.size + 1, 1, none⟩ = some (.int .u64 (zl y)) := cell_of_row _ _ _ _ _ _ D1.out
      have Z1_0 : V4.cell? ⟨w.heap.size + 1 + 1, 0, none⟩ = some (.int .i64 0) := cell_of_row _ _ _ _ _ _ Z1.out
      have Z1_1 : V4.cell? ⟨w.heap.size + 1 + 1, 1, none⟩ = some (.int .i64 0) := cell_of_row _ _ _ _ _ _ Z1.out
      have Z1_f0 : V4.frozen? ⟨w.heap.size + 1 + 1, 0, none⟩ = false := by simp [World.frozen?, Z1.out]
      have Z1_f1 : V4.frozen? ⟨w.heap.size + 1 + 1, 1, none⟩ = false := by simp [World.frozen?, Z1.out]
      have Q1_0 : V4.cell? ⟨V1.heap.size, 0, none⟩ = some (.int .u64 (zh q)) := cell_of_row _ _ _ _ _ _ Q1.out
      have Q1_1 : V4.cell? ⟨V1.heap.size, 1, none⟩ = some (.int .u64 (zl q)) := cell_of_row _ _ _ _ _ _ Q1.out
      have S1_0 : V4.cell? ⟨V2.heap.size, 0, none⟩ = some (.int .u64 (zh Q)) := cell_of_row _ _ _ _ _ _ S1.out
      have S1_1 : V4.cell? ⟨V2.heap.size, 1, none⟩ = some (.int .u64 (zl Q)) := cell_of_row _ _ _ _ _ _ S1.out
      have I1_0 : V4.cell? ⟨V3.heap.size, 0, none⟩ = some (.int .i64 Q) := cell_of_row _ _ _ _ _ _ I1.out
      have I1_1 : V4.cell? ⟨V3.heap.size, 1, none⟩ = some (.int .i64 R) := cell_of_row _ _ _ _ _ _ I1.out
      have zA1 := lt_of_heap A1.out
      have zD1 := lt_of_heap D1.out
      have zZ1 := lt_of_heap Z1.out
      have zQ1 := lt_of_heap Q1.out
      have zS1 := lt_of_heap S1.out
      have zI1 := lt_of_heap I1.out
      go_simp
      go_wp2
      refine shut_ret (v := .tuple #[.agg #[.int .i64 0, .int .i64 0], .int .i64 8]) (by simp [results, Try.results59, go_sem, zZ1, Z1_0, Z1_1]) rfl ⟨rfl, ?_⟩
      exact keep2 B4.out (by omega) _ _
  · rw [iV_not hq, iE_not hq] at X3
    rw [← e1] at hq
    obtain ⟨u1, u2, u3⟩ := dd_no (duE_far hq)
    rw [u1, u2, u3]
    have H3 := Lib.hid X3
    clear X1 X2 X3 X4 ck u1 u2 u3 hq e1 e2 bx b bs
    generalize cb x (y / 1000000000) = o at *
    generalize x + y / 1000000000 = Q at *
    generalize y / 1000000000 = q at *
    generalize y % 1000000000 = R at *
    go_enter Try.func59, Try.ntmps59
    refine wp_shut ?_
    go_wp2_with fail
    
    refine (H1.out _).mono ?_
    rintro e V1 ⟨rfl, hb1⟩
    have B1 := Lib.hid (((((Below.refl w.heap.size w).alloc (Nat.le_refl _) _).alloc (by simp <;> omega) _).alloc (by simp <;> omega) _).trans (hb1.mono (by first | assumption | (simp <;> omega) | (simp; done))))
    have A1 := Lib.hid (row_call hb1 (row_alloc (row_alloc (heap_alloc_new _ _) _) _))
    have D1 := Lib.hid (row_at (k' := w.heap.size + 1) (by simp) (row_call hb1 (row_alloc (heap_alloc_new _ _) _)))
    have Z1 := Lib.hid (row_at (k' := w.heap.size + 1 + 1) (by simp) (row_call hb1 (heap_alloc_new _ _)))
    clear hb1
    have A1_0 : V1.cell? ⟨w.heap.size, 0, none⟩ = some (.int .u64 (zh x)) := cell_of_row _ _ _ _ _ _ A1.out
    have A1_1 : V1.cell? ⟨w.heap.size, 1, none⟩ = some (.int .u64 (zl x)) := cell_of_row _ _ _ _ _ _ A1.out
    have D1_0 : V1.cell? ⟨w.heap.size + 1, 0, none⟩ = some (.int .u64 (zh y)) := cell_of_row _ _ _ _ _ _ D1.out
    have D1_1 : V1.cell? ⟨w.heap.size + 1, 1, none⟩ = some (.int .u64 (zl y)) := cell_of_row _ _ _ _ _ _ D1.out
    have Z1_0 : V1.cell? ⟨w.heap.size + 1 + 1, 0, none⟩ = some (.int .i64 0) := cell_of_row _ _ _ _ _ _ Z1.out
    have Z1_1 : V1.cell? ⟨w.heap.size + 1 + 1, 1, none⟩ = some (.int .i64 0) := cell_of_row _ _ _ _ _ _ Z1.out
    have Z1_f0 : V1.frozen? ⟨w.heap.size + 1 + 1, 0, none⟩ = false := by simp [World.frozen?, Z1.out]
    have Z1_f1 : V1.frozen? ⟨w.heap.size + 1 + 1, 1, none⟩ = false := by simp [World.frozen?, Z1.out]
    have zA1 := lt_of_heap A1.out
    have zD1 := lt_of_heap D1.out
    have zZ1 := lt_of_heap Z1.out
    go_simp
    go_wp2_with fail
    refine (H2.out _).mono ?_
    rintro e V2 ⟨rfl, hb2⟩
    clear A1_0 A1_1 zA1 D1_0 D1_1 zD1 Z1_0 Z1_1 Z1_f0 Z1_f1 zZ1
    have nA1Q1 := Lib.hid (lt_of_heap A1.out)
    have nD1Q1 := Lib.hid (lt_of_heap D1.out)
    have nZ1Q1 := Lib.hid (lt_of_heap Z1.out)
    have B2 := Lib.hid (((B1.out).alloc (B1.out.size) _).trans (hb2.mono (by have := B1.out.size; first | assumption | (simp <;> omega) | (simp; done))))
    replace A1 := Lib.hid (row_call hb2 (row_alloc A1.out _))
    replace D1 := Lib.hid (row_call hb2 (row_alloc D1.out _))
    replace Z1 := Lib.hid (row_call hb2 (row_alloc Z1.out _))
    have Q1 := Lib.hid (row_call hb2 (heap_alloc_new _ _))
    clear hb2
    have A1_0 : V2.cell? ⟨w.heap.size, 0, none⟩ = some (.int .u64 (zh x)) := cell_of_row _ _ _ _ _ _ A1.out
    have A1_1 : V2.cell? ⟨w.heap.size, 1, none⟩ = some (.int .u64 (zl x)) := cell_of_row _ _ _ _ _ _ A1.out
    have D1_0 : V2.cell? ⟨w.heap.size + 1, 0, none⟩ = some (.int .u64 (zh y)) := cell_of_row _ _ _ _ _ _ D1.out
    have D1_1 : V2.cell? ⟨w.heap.size + 1, 1, none⟩ = some (.int .u64 (zl y)) := cell_of_row _ _ _ _ _ _ D1.out
    have Z1_0 : V2.cell? ⟨w.heap.size + 1 + 1, 0, none⟩ = some (.int .i64 0) := cell_of_row _ _ _ _ _ _ Z1.out
    have Z1_1 : V2.cell? ⟨w.heap.size + 1 + 1, 1, none⟩ = some (.int .i64 0) := cell_of_row _ _ _ _ _ _ Z1.out
    have Z1_f0 : V2.frozen? ⟨w.heap.size + 1 + 1, 0, none⟩ = false := by simp [World.frozen?, Z1.out]
    have Z1_f1 : V2.frozen? ⟨w.heap.size + 1 + 1, 1, none⟩ = false := by simp [World.frozen?, Z1.out]
    have Q1_0 : V2.cell? ⟨V1.heap.size, 0, none⟩ = some (.int .u64 (zh q)) := cell_of_row _ _ _ _ _ _ Q1.out
    have Q1_1 : V2.cell? ⟨V1.heap.size, 1, none⟩ = some (.int .u64 (zl q)) := cell_of_row _ _ _ _ _ _ Q1.out
    have zA1 := lt_of_heap A1.out
    have zD1 := lt_of_heap D1.out
    have zZ1 := lt_of_heap Z1.out
    have zQ1 := lt_of_heap Q1.out
    go_simp
    go_wp2_with fail
    refine (H3.out _).mono ?_
    rintro e V3 ⟨rfl, hb3⟩
    clear A1_0 A1_1 zA1 D1_0 D1_1 zD1 Z1_0 Z1_1 Z1_f0 Z1_f1 zZ1 Q1_0 Q1_1 zQ1
    have nA1S1 := Lib.hid (lt_of_heap A1.out)
    have nD1S1 := Lib.hid (lt_of_heap D1.out)
    have nZ1S1 := Lib.hid (lt_of_heap Z1.out)
    have nQ1S1 := Lib.hid (lt_of_heap Q1.out)
    have B3 := Lib.hid (((B2.out).alloc (B2.out.size) _).trans (hb3.mono (by have := B2.out.size; first | assumption | (simp <;> omega) | (simp; done))))
    replace A1 := Lib.hid (row_call hb3 (row_alloc A1.out _))
    replace D1 := Lib.hid (row_call hb3 (row_alloc D1.out _))
    replace Z1 := Lib.hid (row_call hb3 (row_alloc Z1.out _))
    replace Q1 := Lib.hid (row_call hb3 (row_alloc Q1.out _))
    have S1 := Lib.hid (row_call hb3 (heap_alloc_new _ _))
    clear hb3
    have A1_0 : V3.cell? ⟨w.heap.size, 0, none⟩ = some (.int .u64 (zh x)) := cell_of_row _ _ _ _ _ _ A1.out
    have A1_1 : V3.cell? ⟨w.heap.size, 1, none⟩ = some (.int .u64 (zl x)) := cell_of_row _ _ _ _ _ _ A1.out
    have D1_0 : V3.cell? ⟨w.heap.size + 1, 0, none⟩ = some (.int .u64 (zh y)) := cell_of_row _ _ _ _ _ _ D1.out
    have D1_1 : V3.cell? ⟨w.heap.size + 1, 1, none⟩ = some (.int .u64 (zl y)) := cell_of_row _ _ _ _ _ _ D1.out
    have Z1_0 : V3.cell? ⟨w.heap.size + 1 + 1, 0, none⟩ = some (.int .i64 0) := cell_of_row _ _ _ _ _ _ Z1.out
    have Z1_1 : V3.cell? ⟨w.heap.size + 1 + 1, 1, none⟩ = some (.int .i64 0) := cell_of_row _ _ _ _ _ _ Z1.out
    have Z1_f0 : V3.frozen? ⟨w.heap.size + 1 + 1, 0, none⟩ = false := by simp [World.frozen?, Z1.out]
    have Z1_f1 : V3.frozen? ⟨w.heap.size + 1 + 1, 1, none⟩ = false := by simp [World.frozen?, Z1.out]
    have Q1_0 : V3.cell? ⟨V1.heap.size, 0, none⟩ = some (.int .u64 (zh q)) := cell_of_row _ _ _ _ _ _ Q1.out
    have Q1_1 : V3.cell? ⟨V1.heap.size, 1, none⟩ = some (.int .u64 (zl q)) := cell_of_row _ _ _ _ _ _ Q1.out
    have S1_0 : V3.cell? ⟨V2.heap.size, 0, none⟩ = some (.int .u64 (zh Q)) := cell_of_row _ _ _ _ _ _ S1.out
    have S1_1 : V3.cell? ⟨V2.heap.size, 1, none⟩ = some (.int .u64 (zl Q)) := cell_of_row _ _ _ _ _ _ S1.out
    have zA1 := lt_of_heap A1.out
    have zD1 := lt_of_heap D1.out
    have zZ1 := lt_of_heap Z1.out
    have zQ1 := lt_of_heap Q1.out
    have zS1 := lt_of_heap S1.out
    go_simp
    go_wp2
    refine shut_ret (v := .tuple #[.agg #[.int .i64 0, .int .i64 0], .int .i64 8]) (by simp [results, Try.results59, go_sem, zZ1, Z1_0, Z1_1]) rfl ⟨rfl, ?_⟩
    exact keep2 B3.out (by omega) _ _
theorem mul_bd {f d : Int} (hf : in64 f) (hd : -1099511627776 ≤ d ∧ d ≤ 1099511627776) : -10141204801825835211973625643008 ≤ f * d ∧ f * d ≤ 10141204801825835211973625643008 := by
  have h1 : f.natAbs * d.natAbs ≤ 9223372036854775808 * 1099511627776 := by
    unfold in64 at hf
    exact Nat.mul_le_mul (by omega) (by omega)
  have h2 : (f * d).natAbs = f.natAbs * d.natAbs := Int.natAbs_mul f d
  omega
theorem plus_nanos (s n d m f : Int) : nanos (s + f * d) (n + f * m) = nanos s n + f * nanos d m := by
  unfold nanos
  rw [Int.mul_add, ← Int.mul_assoc, Int.add_mul]
  omega
end Go.Proofs.Ytlfbiidnfheelaa
