/- Package period: three things gone over, way by way. -/
import Derived.Test.YthlbmeemdhofpaaPerE
namespace Go.Proofs.Ythlbmeemdhofpaa
set_option linter.unusedVariables false
set_option linter.unusedSimpArgs false
open Go.ChangeShapes Go.WideShapes Go.ChangeAt Go.RowKit

set_option maxHeartbeats 3200000 in
set_option maxRecDepth 100000 in
theorem eachm_1err (x : Nat) (a b c : Int) (v1 e1 : Int) (f1 : (e1 != 0) = true) (w : World)
    (H1 : Hid (∀ w', KP w w' → Calls Try.prog 30 #[.int .i64 a, .pointer (some ⟨x, 0, none⟩)] w' fun e w'' => e = .returned (.tuple #[.int .i64 v1, .int .i64 e1]) ∧ Below w'.heap.size w' w'')) :
    Calls Try.prog 24 #[.agg #[.int .i64 a, .int .i64 b, .int .i64 c], .func (.func 30) #[] #[.pointer (some ⟨x, 0, none⟩)]] w fun e w' => e = .returned (.tuple #[.agg #[.int .i64 0, .int .i64 0, .int .i64 0], .int .i64 e1]) ∧ Below w.heap.size w w' := by
  have hM : Hid (KP w w) := Lib.hid (Below.refl _ _)
  have i0 : ∀ w, (Instr.index 48 (.agg #[.int .i64 a, .int .i64 b, .int .i64 c]) (.int .i64 0)).run Try.prog w = .ok (.int .i64 a) w := fun _ => by kernel_rfl
  go_enter Try.func24, Try.ntmps24
  refine wp_shut ?_
  go_wp2_with fail
  refine wp_loop_rounds 4 ?_
  
  rw [rounds_succ]
  go_wp2_with fail
  refine (H1.out _ (by first | exact kp_keep hM ((((Below.refl w.heap.size w).alloc (Nat.le_refl _) _).alloc (by simp <;> omega) _).alloc (by simp <;> omega) _))).mono ?_
  rintro e V1 ⟨rfl, hb1⟩
  have B1 := Lib.hid (((((Below.refl w.heap.size w).alloc (Nat.le_refl _) _).alloc (by simp <;> omega) _).alloc (by simp <;> omega) _).trans (hb1.mono (by first | assumption | (simp <;> omega) | (simp; done))))
  have A1 := Lib.hid (row_call hb1 (row_alloc (row_alloc (heap_alloc_new _ _) _) _))
  have Z1 := Lib.hid (row_at (k' := w.heap.size + 1) (by simp) (row_call hb1 (row_alloc (heap_alloc_new _ _) _)))
  have M1 := Lib.hid (row_at (k' := w.heap.size + 1 + 1) (by simp) (row_call hb1 (heap_alloc_new _ _)))
  clear hb1
  have A1_0 : V1.cell? ⟨w.heap.size, 0, none⟩ = some (.int .i64 a) := cell_of_row _ _ _ _ _ _ A1.out
  have A1_1 : V1.cell? ⟨w.heap.size, 1, none⟩ = some (.int .i64 b) := cell_of_row _ _ _ _ _ _ A1.out
  have A1_2 : V1.cell? ⟨w.heap.size, 2, none⟩ = some (.int .i64 c) := cell_of_row _ _ _ _ _ _ A1.out
  have Z1_0 : V1.cell? ⟨w.heap.size + 1, 0, none⟩ = some (.int .i64 0) := cell_of_row _ _ _ _ _ _ Z1.out
  have Z1_1 : V1.cell? ⟨w.heap.size + 1, 1, none⟩ = some (.int .i64 0) := cell_of_row _ _ _ _ _ _ Z1.out
  have Z1_2 : V1.cell? ⟨w.heap.size + 1, 2, none⟩ = some (.int .i64 0) := cell_of_row _ _ _ _ _ _ Z1.out
  have Z1_f0 : V1.frozen? ⟨w.heap.size + 1, 0, none⟩ = false := by simp [World.frozen?, Z1.out]
  have Z1_f1 : V1.frozen? ⟨w.heap.size + 1, 1, none⟩ = false := by simp [World.frozen?, Z1.out]
  have Z1_f2 : V1.frozen? ⟨w.heap.size + 1, 2, none⟩ = false := by simp [World.frozen?, Z1.out]
  have M1_0 : V1.cell? ⟨w.heap.size + 1 + 1, 0, none⟩ = some (.int .i64 0) := cell_of_row _ _ _ _ _ _ M1.out
  have M1_1 : V1.cell? ⟨w.heap.size + 1 + 1, 1, none⟩ = some (.int .i64 0) := cell_of_row _ _ _ _ _ _ M1.out
  have M1_2 : V1.cell? ⟨w.heap.size + 1 + 1, 2, none⟩ = some (.int .i64 0) := cell_of_row _ _ _ _ _ _ M1.out
  have M1_f0 : V1.frozen? ⟨w.heap.size + 1 + 1, 0, none⟩ = false := by simp [World.frozen?, M1.out]
  have M1_f1 : V1.frozen? ⟨w.heap.size + 1 + 1, 1, none⟩ = false := by simp [World.frozen?, M1.out]
  have M1_f2 : V1.frozen? ⟨w.heap.size + 1 + 1, 2, none⟩ = false := by simp [World.frozen?, M1.out]
  have zA1 := lt_of_heap A1.out
  have zZ1 := lt_of_heap Z1.out
  have zM1 := lt_of_heap M1.out
  go_simp
  go_wp2
  refine shut_ret (v := .tuple #[.agg #[.int .i64 0, .int .i64 0, .int .i64 0], .int .i64 e1]) (by simp [results, Try.results24, go_sem, zZ1, Z1_0, Z1_1, Z1_2]) rfl ⟨rfl, ?_⟩
  exact keep3 B1.out (by omega) _ _ _
set_option maxHeartbeats 3200000 in
set_option maxRecDepth 100000 in
theorem eachm_1lo (x : Nat) (a b c : Int) (v1 : Int) (l1 : decide (v1 < -1000000) = true) (w : World)
    (H1 : Hid (∀ w', KP w w' → Calls Try.prog 30 #[.int .i64 a, .pointer (some ⟨x, 0, none⟩)] w' fun e w'' => e = .returned (.tuple #[.int .i64 v1, .int .i64 0]) ∧ Below w'.heap.size w' w'')) :
    Calls Try.prog 24 #[.agg #[.int .i64 a, .int .i64 b, .int .i64 c], .func (.func 30) #[] #[.pointer (some ⟨x, 0, none⟩)]] w fun e w' => e = .returned (.tuple #[.agg #[.int .i64 0, .int .i64 0, .int .i64 0], .int .i64 8]) ∧ Below w.heap.size w w' := by
  have hM : Hid (KP w w) := Lib.hid (Below.refl _ _)
  have i0 : ∀ w, (Instr.index 48 (.agg #[.int .i64 a, .int .i64 b, .int .i64 c]) (.int .i64 0)).run Try.prog w = .ok (.int .i64 a) w := fun _ => by kernel_rfl
  go_enter Try.func24, Try.ntmps24
  refine wp_shut ?_
  go_wp2_with fail
  refine wp_loop_rounds 4 ?_
  
  rw [rounds_succ]
  go_wp2_with fail
  refine (H1.out _ (by first | exact kp_keep hM ((((Below.refl w.heap.size w).alloc (Nat.le_refl _) _).alloc (by simp <;> omega) _).alloc (by simp <;> omega) _))).mono ?_
  rintro e V1 ⟨rfl, hb1⟩
  have B1 := Lib.hid (((((Below.refl w.heap.size w).alloc (Nat.le_refl _) _).alloc (by simp <;> omega) _).alloc (by simp <;> omega) _).trans (hb1.mono (by first | assumption | (simp <;> omega) | (simp; done))))
  have A1 := Lib.hid (row_call hb1 (row_alloc (row_alloc (heap_alloc_new _ _) _) _))
  have Z1 := Lib.hid (row_at (k' := w.heap.size + 1) (by simp) (row_call hb1 (row_alloc (heap_alloc_new _ _) _)))
  have M1 := Lib.hid (row_at (k' := w.heap.size + 1 + 1) (by simp) (row_call hb1 (heap_alloc_new _ _)))
  clear hb1
  have A1_0 : V1.cell? ⟨w.heap.size, 0, none⟩ = some (.int .i64 a) := cell_of_row _ _ _ _ _ _ A1.out
  have A1_1 : V1.cell? ⟨w.heap.size, 1, none⟩ = some (.int .i64 b) := cell_of_row _ _ _ _ _ _ A1.out
  have A1_2 : V1.cell? ⟨w.heap.size, 2, none⟩ = some (.int .i64 c) := cell_of_row _ _ _ _ _ _ A1.out
  have Z1_0 : V1.cell? ⟨w.heap.size + 1, 0, none⟩ = some (.int .i64 0) := cell_of_row _ _ _ _ _ _ Z1.out
  have Z1_1 : V1.cell? ⟨w.heap.size + 1, 1, none⟩ = some (.int .i64 0) := cell_of_row _ _ _ _ _ _ Z1.out
  have Z1_2 : V1.cell? ⟨w.heap.size + 1, 2, none⟩ = some (.int .i64 0) := cell_of_row _ _ _ _ _ _ Z1.out
  have Z1_f0 : V1.frozen? ⟨w.heap.size + 1, 0, none⟩ = false := by simp [World.frozen?, Z1.out]
  have Z1_f1 : V1.frozen? ⟨w.heap.size + 1, 1, none⟩ = false := by simp [World.frozen?, Z1.out]
  have Z1_f2 : V1.frozen? ⟨w.heap.size + 1, 2, none⟩ = false := by simp [World.frozen?, Z1.out]
  have M1_0 : V1.cell? ⟨w.heap.size + 1 + 1, 0, none⟩ = some (.int .i64 0) := cell_of_row _ _ _ _ _ _ M1.out
  have M1_1 : V1.cell? ⟨w.heap.size + 1 + 1, 1, none⟩ = some (.int .i64 0) := cell_of_row _ _ _ _ _ _ M1.out
  have M1_2 : V1.cell? ⟨w.heap.size + 1 + 1, 2, none⟩ = some (.int .i64 0) := cell_of_row _ _ _ _ _ _ M1.out
  have M1_f0 : V1.frozen? ⟨w.heap.size + 1 + 1, 0, none⟩ = false := by simp [World.frozen?, M1.out]
  have M1_f1 : V1.frozen? ⟨w.heap.size + 1 + 1, 1, none⟩ = false := by simp [World.frozen?, M1.out]
  have M1_f2 : V1.frozen? ⟨w.heap.size + 1 + 1, 2, none⟩ = false := by simp [World.frozen?, M1.out]
  have zA1 := lt_of_heap A1.out
  have zZ1 := lt_of_heap Z1.out
  have zM1 := lt_of_heap M1.out
  go_simp
  go_wp2
  refine shut_ret (v := .tuple #[.agg #[.int .i64 0, .int .i64 0, .int .i64 0], .int .i64 8]) (by simp [results, Try.results24, go_sem, zZ1, Z1_0, Z1_1, Z1_2]) rfl ⟨rfl, ?_⟩
  exact keep3 B1.out (by omega) _ _ _
set_option maxHeartbeats 3200000 in
set_option maxRecDepth 100000 in
theorem eachm_1hi (x : Nat) (a b c : Int) (v1 : Int) (l1 : decide (v1 < -1000000) = false) (u1 : decide (1000000 < v1) = true) (w : World)
    (H1 : Hid (∀ w', KP w w' → Calls Try.prog 30 #[.int .i64 a, .pointer (some ⟨x, 0, none⟩)] w' fun e w'' => e = .returned (.tuple #[.int .i64 v1, .int .i64 0]) ∧ Below w'.heap.size w' w'')) :
    Calls Try.prog 24 #[.agg #[.int .i64 a, .int .i64 b, .int .i64 c], .func (.func 30) #[] #[.pointer (some ⟨x, 0, none⟩)]] w fun e w' => e = .returned (.tuple #[.agg #[.int .i64 0, .int .i64 0, .int .i64 0], .int .i64 8]) ∧ Below w.heap.size w w' := by
  have hM : Hid (KP w w) := Lib.hid (Below.refl _ _)
  have i0 : ∀ w, (Instr.index 48 (.agg #[.int .i64 a, .int .i64 b, .int .i64 c]) (.int .i64 0)).run Try.prog w = .ok (.int .i64 a) w := fun _ => by kernel_rfl
  go_enter Try.func24, Try.ntmps24
  refine wp_shut ?_
  go_wp2_with fail
  refine wp_loop_rounds 4 ?_
  
  rw [rounds_succ]
  go_wp2_with fail
  refine (H1.out _ (by first | exact kp_keep hM ((((Below.refl w.heap.size w).alloc (Nat.le_refl _) _).alloc (by simp <;> omega) _).alloc (by simp <;> omega) _))).mono ?_
  rintro e V1 ⟨rfl, hb1⟩
  have B1 := Lib.hid (((((Below.refl w.heap.size w).alloc (Nat.le_refl _) _).alloc (by simp <;> omega) _).alloc (by simp <;> omega) _).trans (hb1.mono (by first | assumption | (simp <;> omega) | (simp; done))))
  have A1 := Lib.hid (row_call hb1 (row_alloc (row_alloc (heap_alloc_new _ _) _) _))
  have Z1 := Lib.hid (row_at (k' := w.heap.size + 1) (by simp) (row_call hb1 (row_alloc (heap_alloc_new _ _) _)))
  have M1 := Lib.hid (row_at (k' := w.heap.size + 1 + 1) (by simp) (row_call hb1 (heap_alloc_new _ _)))
  clear hb1
  have A1_0 : V1.cell? ⟨w.heap.size, 0, none⟩ = some (.int .i64 a) := cell_of_row _ _ _ _ _ _ A1.out
  have A1_1 : V1.cell? ⟨w.heap.size, 1, none⟩ = some (.int .i64 b) := cell_of_row _ _ _ _ _ _ A1.out
  have A1_2 : V1.cell? ⟨w.heap.size, 2, none⟩ = some (.int .i64 c) := cell_of_row _ _ _ _ _ _ A1.out
  have Z1_0 : V1.cell? ⟨w.heap.size + 1, 0, none⟩ = some (.int .i64 0) := cell_of_row _ _ _ _ _ _ Z1.out
  have Z1_1 : V1.cell? ⟨w.heap.size + 1, 1, none⟩ = some (.int .i64 0) := cell_of_row _ _ _ _ _ _ Z1.out
  have Z1_2 : V1.cell? ⟨w.heap.size + 1, 2, none⟩ = some (.int .i64 0) := cell_of_row _ _ _ _ _ _ Z1.out
  have Z1_f0 : V1.frozen? ⟨w.heap.size + 1, 0, none⟩ = false := by simp [World.frozen?, Z1.out]
  have Z1_f1 : V1.frozen? ⟨w.heap.size + 1, 1, none⟩ = false := by simp [World.frozen?, Z1.out]
  have Z1_f2 : V1.frozen? ⟨w.heap.size + 1, 2, none⟩ = false := by simp [World.frozen?, Z1.out]
  have M1_0 : V1.cell? ⟨w.heap.size + 1 + 1, 0, none⟩ = some (.int .i64 0) := cell_of_row _ _ _ _ _ _ M1.out
  have M1_1 : V1.cell? ⟨w.heap.size + 1 + 1, 1, none⟩ = some (.int .i64 0) := cell_of_row _ _ _ _ _ _ M1.out
  have M1_2 : V1.cell? ⟨w.heap.size + 1 + 1, 2, none⟩ = some (.int .i64 0) := cell_of_row _ _ _ _ _ _ M1.out
  have M1_f0 : V1.frozen? ⟨w.heap.size + 1 + 1, 0, none⟩ = false := by simp [World.frozen?, M1.out]
  have M1_f1 : V1.frozen? ⟨w.heap.size + 1 + 1, 1, none⟩ = false := by simp [World.frozen?, M1.out]
  have M1_f2 : V1.frozen? ⟨w.heap.size + 1 + 1, 2, none⟩ = false := by simp [World.frozen?, M1.out]
  have zA1 := lt_of_heap A1.out
  have zZ1 := lt_of_heap Z1.out
  have zM1 := lt_of_heap M1.out
  go_simp
  go_wp2
  refine shut_ret (v := .tuple #[.agg #[.int .i64 0, .int .i64 0, .int .i64 0], .int .i64 8]) (by simp [results, Try.results24, go_sem, zZ1, Z1_0, Z1_1, Z1_2]) rfl ⟨rfl, ?_⟩
  exact keep3 B1.out (by omega) _ _ _
set_option maxHeartbeats 3200000 in
set_option maxRecDepth 100000 in
theorem eachm_2err (x : Nat) (a b c : Int) (v1 v2 e2 : Int) (l1 : decide (v1 < -1000000) = false) (u1 : decide (1000000 < v1) = false) (f2 : (e2 != 0) = true) (w : World)
    (H1 : Hid (∀ w', KP w w' → Calls Try.prog 30 #[.int .i64 a, .pointer (some ⟨x, 0, none⟩)] w' fun e w'' => e = .returned (.tuple #[.int .i64 v1, .int .i64 0]) ∧ Below w'.heap.size w' w''))
    (H2 : Hid (∀ w', KP w w' → Calls Try.prog 30 #[.int .i64 b, .pointer (some ⟨x, 0, none⟩)] w' fun e w'' => e = .returned (.tuple #[.int .i64 v2, .int .i64 e2]) ∧ Below w'.heap.size w' w'')) :
    Calls Try.prog 24 #[.agg #[.int .i64 a, .int .i64 b, .int .i64 c], .func (.func 30) #[] #[.pointer (some ⟨x, 0, none⟩)]] w fun e w' => e = .returned (.tuple #[.agg #[.int .i64 0, .int .i64 0, .int .i64 0], .int .i64 e2]) ∧ Below w.heap.size w w' := by
  have hM : Hid (KP w w) := Lib.hid (Below.refl _ _)
  have i0 : ∀ w, (Instr.index 48 (.agg #[.int .i64 a, .int .i64 b, .int .i64 c]) (.int .i64 0)).run Try.prog w = .ok (.int .i64 a) w := fun _ => by kernel_rfl
  have i1 : ∀ w, (Instr.index 48 (.agg #[.int .i64 a, .int .i64 b, .int .i64 c]) (.int .i64 1)).run Try.prog w = .ok (.int .i64 b) w := fun _ => by kernel_rfl
  go_enter Try.func24, Try.ntmps24
  refine wp_shut ?_
  go_wp2_with fail
  refine wp_loop_rounds 4 ?_
  
  rw [rounds_succ]
  go_wp2_with fail
  refine (H1.out _ (by first | exact kp_keep hM ((((Below.refl w.heap.size w).alloc (Nat.le_refl _) _).alloc (by simp <;> omega) _).alloc (by simp <;> omega) _))).mono ?_
  rintro e V1 ⟨rfl, hb1⟩
  have B1 := Lib.hid (((((Below.refl w.heap.size w).alloc (Nat.le_refl _) _).alloc (by simp <;> omega) _).alloc (by simp <;> omega) _).trans (hb1.mono (by first | assumption | (simp <;> omega) | (simp; done))))
  have A1 := Lib.hid (row_call hb1 (row_alloc (row_alloc (heap_alloc_new _ _) _) _))
  have Z1 := Lib.hid (row_at (k' := w.heap.size + 1) (by simp) (row_call hb1 (row_alloc (heap_alloc_new _ _) _)))
  have M1 := Lib.hid (row_at (k' := w.heap.size + 1 + 1) (by simp) (row_call hb1 (heap_alloc_new _ _)))
  clear hb1
  have A1_0 : V1.cell? ⟨w.heap.size, 0, none⟩ = some (.int .i64 a) := cell_of_row _ _ _ _ _ _ A1.out
  have A1_1 : V1.cell? ⟨w.heap.size, 1, none⟩ = some (.int .i64 b) := cell_of_row _ _ _ _ _ _ A1.out
  have A1_2 : V1.cell? ⟨w.heap.size, 2, none⟩ = some (.int .i64 c) := cell_of_row _ _ _ _ _ _ A1.out
  have Z1_0 : V1.cell? ⟨w.heap.size + 1, 0, none⟩ = some (.int .i64 0) := cell_of_row _ _ _ _ _ _ Z1.out
  have Z1_1 : V1.cell? ⟨w.heap.size + 1, 1, none⟩ = some (.int .i64 0) := cell_of_row _ _ _ _ _ _ Z1.out
  have Z1_2 : V1.cell? ⟨w.heap.size + 1, 2, none⟩ = some (.int .i64 0) := cell_of_row _ _ _ _ _ _ Z1.out
  have Z1_f0 : V1.frozen? ⟨w.heap.size + 1, 0, none⟩ = false := by simp [World.frozen?, Z1.out]
  have Z1_f1 : V1.frozen? ⟨w.heap.size + 1, 1, none⟩ = false := by simp [World.frozen?, Z1.out]
  have Z1_f2 : V1.frozen? ⟨w.heap.size + 1, 2, none⟩ = false := by simp [World.frozen?, Z1.out]
  have M1_0 : V1.cell? ⟨w.heap.size + 1 + 1, 0, none⟩ = some (.int .i64 0) := cell_of_row _ _ _ _ _ _ M1.out
  have M1_1 : V1.cell? ⟨w.heap.size + 1 + 1, 1, none⟩ = some (.int .i64 0) := cell_of_row _ _ _ _ _ _ M1.out
  have M1_2 : V1.cell? ⟨w.heap.size + 1 + 1, 2, none⟩ = some (.int .i64 0) := cell_of_row _ _ _ _ _ _ M1.out
  have M1_f0 : V1.frozen? ⟨w.heap.size + 1 + 1, 0, none⟩ = false := by simp [World.frozen?, M1.out]
  have M1_f1 : V1.frozen? ⟨w.heap.size + 1 + 1, 1, none⟩ = false := by simp [World.frozen?, M1.out]
  have M1_f2 : V1.frozen? ⟨w.heap.size + 1 + 1, 2, none⟩ = false := by simp [World.frozen?, M1.out]
  have zA1 := lt_of_heap A1.out
  have zZ1 := lt_of_heap Z1.out
  have zM1 := lt_of_heap M1.out
  go_simp
  go_wp2_with fail
  rw [rounds_succ]
  go_wp2_with fail
  refine (H2.out _ (by first | exact kp_keep hM (keep1 (B1.out) (by omega) 0 _) | exact kp_keep hM ((keep1 (B1.out) (by omega) 0 _).alloc (by have := B1.out.size; simp <;> omega) _) | exact kp_keep hM (((keep1 (B1.out) (by omega) 0 _).alloc (by have := B1.out.size; simp <;> omega) _).alloc (by have := B1.out.size; simp <;> omega) _) | exact kp_keep hM ((((keep1 (B1.out) (by omega) 0 _).alloc (by have := B1.out.size; simp <;> omega) _).alloc (by have := B1.out.size; simp <;> omega) _).alloc (by have := B1.out.size; simp <;> omega) _))).mono ?_
  rintro e V2 ⟨rfl, hb2⟩
  clear A1_0 A1_1 A1_2 zA1 Z1_0 Z1_1 Z1_2 Z1_f0 Z1_f1 Z1_f2 zZ1 M1_0 M1_1 M1_2 M1_f0 M1_f1 M1_f2 zM1
  have B2 : Hid (Below w.heap.size w V2) := by first | exact Lib.hid ((keep1 (B1.out) (by omega) 0 _).trans (hb2.mono (by have := B1.out.size; first | assumption | (simp <;> omega) | (simp; done)))) | exact Lib.hid (((keep1 (B1.out) (by omega) 0 _).alloc (by have := B1.out.size; simp <;> omega) _).trans (hb2.mono (by have := B1.out.size; first | assumption | (simp <;> omega) | (simp; done)))) | exact Lib.hid ((((keep1 (B1.out) (by omega) 0 _).alloc (by have := B1.out.size; simp <;> omega) _).alloc (by have := B1.out.size; simp <;> omega) _).trans (hb2.mono (by have := B1.out.size; first | assumption | (simp <;> omega) | (simp; done)))) | exact Lib.hid (((((keep1 (B1.out) (by omega) 0 _).alloc (by have := B1.out.size; simp <;> omega) _).alloc (by have := B1.out.size; simp <;> omega) _).alloc (by have := B1.out.size; simp <;> omega) _).trans (hb2.mono (by have := B1.out.size; first | assumption | (simp <;> omega) | (simp; done))))
  first | replace A1 := Lib.hid (row_call hb2 (row_other1 (by omega) A1.out 0 _)) | replace A1 := Lib.hid (row_call hb2 (row_alloc (row_other1 (by omega) A1.out 0 _) _)) | replace A1 := Lib.hid (row_call hb2 (row_alloc (row_alloc (row_other1 (by omega) A1.out 0 _) _) _)) | replace A1 := Lib.hid (row_call hb2 (row_alloc (row_alloc (row_alloc (row_other1 (by omega) A1.out 0 _) _) _) _))
  first | replace Z1 := Lib.hid (row_call hb2 (row_other1 (by omega) Z1.out 0 _)) | replace Z1 := Lib.hid (row_call hb2 (row_alloc (row_other1 (by omega) Z1.out 0 _) _)) | replace Z1 := Lib.hid (row_call hb2 (row_alloc (row_alloc (row_other1 (by omega) Z1.out 0 _) _) _)) | replace Z1 := Lib.hid (row_call hb2 (row_alloc (row_alloc (row_alloc (row_other1 (by omega) Z1.out 0 _) _) _) _))
  first | replace M1 : Hid (V2.heap[w.heap.size + 1 + 1]? = some (.cells #[.int .i64 v1, .int .i64 0, .int .i64 0] _ (0, 0))) := Lib.hid (row_call hb2 (row_set1 M1.out 0 _)) | replace M1 : Hid (V2.heap[w.heap.size + 1 + 1]? = some (.cells #[.int .i64 v1, .int .i64 0, .int .i64 0] _ (0, 0))) := Lib.hid (row_call hb2 (row_alloc (row_set1 M1.out 0 _) _)) | replace M1 : Hid (V2.heap[w.heap.size + 1 + 1]? = some (.cells #[.int .i64 v1, .int .i64 0, .int .i64 0] _ (0, 0))) := Lib.hid (row_call hb2 (row_alloc (row_alloc (row_set1 M1.out 0 _) _) _)) | replace M1 : Hid (V2.heap[w.heap.size + 1 + 1]? = some (.cells #[.int .i64 v1, .int .i64 0, .int .i64 0] _ (0, 0))) := Lib.hid (row_call hb2 (row_alloc (row_alloc (row_alloc (row_set1 M1.out 0 _) _) _) _))
  clear hb2
  have A1_0 : V2.cell? ⟨w.heap.size, 0, none⟩ = some (.int .i64 a) := cell_of_row _ _ _ _ _ _ A1.out
  have A1_1 : V2.cell? ⟨w.heap.size, 1, none⟩ = some (.int .i64 b) := cell_of_row _ _ _ _ _ _ A1.out
  have A1_2 : V2.cell? ⟨w.heap.size, 2, none⟩ = some (.int .i64 c) := cell_of_row _ _ _ _ _ _ A1.out
  have Z1_0 : V2.cell? ⟨w.heap.size + 1, 0, none⟩ = some (.int .i64 0) := cell_of_row _ _ _ _ _ _ Z1.out
  have Z1_1 : V2.cell? ⟨w.heap.size + 1, 1, none⟩ = some (.int .i64 0) := cell_of_row _ _ _ _ _ _ Z1.out
  have Z1_2 : V2.cell? ⟨w.heap.size + 1, 2, none⟩ = some (.int .i64 0) := cell_of_row _ _ _ _ _ _ Z1.out
  have Z1_f0 : V2.frozen? ⟨w.heap.size + 1, 0, none⟩ = false := by simp [World.frozen?, Z1.out]
  have Z1_f1 : V2.frozen? ⟨w.heap.size + 1, 1, none⟩ = false := by simp [World.frozen?, Z1.out]
  have Z1_f2 : V2.frozen? ⟨w.heap.size + 1, 2, none⟩ = false := by simp [World.frozen?, Z1.out]
  have M1_0 : V2.cell? ⟨w.heap.size + 1 + 1, 0, none⟩ = some (.int .i64 v1) := cell_of_row _ _ _ _ _ _ M1.out
  have M1_1 : V2.cell? ⟨w.heap.size + 1 + 1, 1, none⟩ = some (.int .i64 0) := cell_of_row _ _ _ _ _ _ M1.out
  have M1_2 : V2.cell? ⟨w.heap.size + 1 + 1, 2, none⟩ = some (.int .i64 0) := cell_of_row _ _ _ _ _ _ M1.out
  have M1_f0 : V2.frozen? ⟨w.heap.size + 1 + 1, 0, none⟩ = false := by simp [World.frozen?, M1.out]
  have M1_f1 : V2.frozen? ⟨w.heap.size + 1 + 1, 1, none⟩ = false := by simp [World.frozen?, M1.out]
  have M1_f2 : V2.frozen? ⟨w.heap.size + 1 + 1, 2, none⟩ = false := by simp [World.frozen?, M1.out]
  have zA1 := lt_of_heap A1.out
  have zZ1 := lt_of_heap Z1.out
  have zM1 := lt_of_heap M1.out
  go_simp
  go_wp2
  refine shut_ret (v := .tuple #[.agg #[.int .i64 0, .int .i64 0, .int .i64 0], .int .i64 e2]) (by simp [results, Try.results24, go_sem, zZ1, Z1_0, Z1_1, Z1_2]) rfl ⟨rfl, ?_⟩
  exact keep3 B2.out (by omega) _ _ _
set_option maxHeartbeats 3200000 in
set_option maxRecDepth 100000 in
theorem eachm_2lo (x : Nat) (a b c : Int) (v1 v2 : Int) (l1 : decide (v1 < -1000000) = false) (u1 : decide (1000000 < v1) = false) (l2 : decide (v2 < -1000000) = true) (w : World)
    (H1 : Hid (∀ w', KP w w' → Calls Try.prog 30 #[.int .i64 a, .pointer (some ⟨x, 0, none⟩)] w' fun e w'' => e = .returned (.tuple #[.int .i64 v1, .int .i64 0]) ∧ Below w'.heap.size w' w''))
    (H2 : Hid (∀ w', KP w w' → Calls Try.prog 30 #[.int .i64 b, .pointer (some ⟨x, 0, none⟩)] w' fun e w'' => e = .returned (.tuple #[.int .i64 v2, .int .i64 0]) ∧ Below w'.heap.size w' w'')) :
    Calls Try.prog 24 #[.agg #[.int .i64 a, .int .i64 b, .int .i64 c], .func (.func 30) #[] #[.pointer (some ⟨x, 0, none⟩)]] w fun e w' => e = .returned (.tuple #[.agg #[.int .i64 0, .int .i64 0, .int .i64 0], .int .i64 8]) ∧ Below w.heap.size w w' := by
  have hM : Hid (KP w w) := Lib.hid (Below.refl _ _)
  have i0 : ∀ w, (Instr.index 48 (.agg #[.int .i64 a, .int .i64 b, .int .i64 c]) (.int .i64 0)).run Try.prog w = .ok (.int .i64 a) w := fun _ => by kernel_rfl
  have i1 : ∀ w, (Instr.index 48 (.agg #[.int .i64 a, .int .i64 b, .int .i64 c]) (.int .i64 1)).run Try.prog w = .ok (.int .i64 b) w := fun _ => by kernel_rfl
  go_enter Try.func24, Try.ntmps24
  refine wp_shut ?_
  go_wp2_with fail
  refine wp_loop_rounds 4 ?_
  
  rw [rounds_succ]
  go_wp2_with fail
  refine (H1.out _ (by first | exact kp_keep hM ((((Below.refl w.heap.size w).alloc (Nat.le_refl _) _).alloc (by simp <;> omega) _).alloc (by simp <;> omega) _))).mono ?_
  rintro e V1 ⟨rfl, hb1⟩
  have B1 := Lib.hid (((((Below.refl w.heap.size w).alloc (Nat.le_refl _) _).alloc (by simp <;> omega) _).alloc (by simp <;> omega) _).trans (hb1.mono (by first | assumption | (simp <;> omega) | (simp; done))))
  have A1 := Lib.hid (row_call hb1 (row_alloc (row_alloc (heap_alloc_new _ _) _) _))
  have Z1 := Lib.hid (row_at (k' := w.heap.size + 1) (by simp) (row_call hb1 (row_alloc (heap_alloc_new _ _) _)))
  have M1 := Lib.hid (row_at (k' := w.heap.size + 1 + 1) (by simp) (row_call hb1 (heap_alloc_new _ _)))
  clear hb1
  have A1_0 : V1.cell? ⟨w.heap.size, 0, none⟩ = some (.int .i64 a) := cell_of_row _ _ _ _ _ _ A1.out
  have A1_1 : V1.cell? ⟨w.heap.size, 1, none⟩ = some (.int .i64 b) := cell_of_row _ _ _ _ _ _ A1.out
  have A1_2 : V1.cell? ⟨w.heap.size, 2, none⟩ = some (.int .i64 c) := cell_of_row _ _ _ _ _ _ A1.out
  have Z1_0 : V1.cell? ⟨w.heap.size + 1, 0, none⟩ = some (.int .i64 0) := cell_of_row _ _ _ _ _ _ Z1.out
  have Z1_1 : V1.cell? ⟨w.heap.size + 1, 1, none⟩ = some (.int .i64 0) := cell_of_row _ _ _ _ _ _ Z1.out
  have Z1_2 : V1.cell? ⟨w.heap.size + 1, 2, none⟩ = some (.int .i64 0) := cell_of_row _ _ _ _ _ _ Z1.out
  have Z1_f0 : V1.frozen? ⟨w.heap.size + 1, 0, none⟩ = false := by simp [World.frozen?, Z1.out]
  have Z1_f1 : V1.frozen? ⟨w.heap.size + 1, 1, none⟩ = false := by simp [World.frozen?, Z1.out]
  have Z1_f2 : V1.frozen? ⟨w.heap.size + 1, 2, none⟩ = false := by simp [World.frozen?, Z1.out]
  have M1_0 : V1.cell? ⟨w.heap.size + 1 + 1, 0, none⟩ = some (.int .i64 0) := cell_of_row _ _ _ _ _ _ M1.out
  have M1_1 : V1.cell? ⟨w.heap.size + 1 + 1, 1, none⟩ = some (.int .i64 0) := cell_of_row _ _ _ _ _ _ M1.out
  have M1_2 : V1.cell? ⟨w.heap.size + 1 + 1, 2, none⟩ = some (.int .i64 0) := cell_of_row _ _ _ _ _ _ M1.out
  have M1_f0 : V1.frozen? ⟨w.heap.size + 1 + 1, 0, none⟩ = false := by simp [World.frozen?, M1.out]
  have M1_f1 : V1.frozen? ⟨w.heap.size + 1 + 1, 1, none⟩ = false := by simp [World.frozen?, M1.out]
  have M1_f2 : V1.frozen? ⟨w.heap.size + 1 + 1, 2, none⟩ = false := by simp [World.frozen?, M1.out]
  have zA1 := lt_of_heap A1.out
  have zZ1 := lt_of_heap Z1.out
  have zM1 := lt_of_heap M1.out
  go_simp
  go_wp2_with fail
  rw [rounds_succ]
  go_wp2_with fail
  refine (H2.out _ (by first | exact kp_keep hM (keep1 (B1.out) (by omega) 0 _) | exact kp_keep hM ((keep1 (B1.out) (by omega) 0 _).alloc (by have := B1.out.size; simp <;> omega) _) | exact kp_keep hM (((keep1 (B1.out) (by omega) 0 _).alloc (by have := B1.out.size; simp <;> omega) _).alloc (by have := B1.out.size; simp <;> omega) _) | exact kp_keep hM ((((keep1 (B1.out) (by omega) 0 _).alloc (by have := B1.out.size; simp <;> omega) _).alloc (by have := B1.out.size; simp <;> omega) _).alloc (by have := B1.out.size; simp <;> omega) _))).mono ?_
  rintro e V2 ⟨rfl, hb2⟩
  clear A1_0 A1_1 A1_2 zA1 Z1_0 Z1_1 Z1_2 Z1_f0 Z1_f1 Z1_f2 zZ1 M1_0 M1_1 M1_2 M1_f0 M1_f1 M1_f2 zM1
  have B2 : Hid (Below w.heap.size w V2) := by first | exact Lib.hid ((keep1 (B1.out) (by omega) 0 _).trans (hb2.mono (by have := B1.out.size; first | assumption | (simp <;> omega) | (simp; done)))) | exact Lib.hid (((keep1 (B1.out) (by omega) 0 _).alloc (by have := B1.out.size; simp <;> omega) _).trans (hb2.mono (by have := B1.out.size; first | assumption | (simp <;> omega) | (simp; done)))) | exact Lib.hid ((((keep1 (B1.out) (by omega) 0 _).alloc (by have := B1.out.size; simp <;> omega) _).alloc (by have := B1.out.size; simp <;> omega) _).trans (hb2.mono (by have := B1.out.size; first | assumption | (simp <;> omega) | (simp; done)))) | exact Lib.hid (((((keep1 (B1.out) (by omega) 0 _).alloc (by have := B1.out.size; simp <;> omega) _).alloc (by have := B1.out.size; simp <;> omega) _).alloc (by have := B1.out.size; simp <;> omega) _).trans (hb2.mono (by have := B1.out.size; first | assumption | (simp <;> omega) | (simp; done))))
  first | replace A1 := Lib.hid (row_call hb2 (row_other1 (by omega) A1.out 0 _)) | replace A1 := Lib.hid (row_call hb2 (row_alloc (row_other1 (by omega) A1.out 0 _) _)) | replace A1 := Lib.hid (row_call hb2 (row_alloc (row_alloc (row_other1 (by omega) A1.out 0 _) _) _)) | replace A1 := Lib.hid (row_call hb2 (row_alloc (row_alloc (row_alloc (row_other1 (by omega) A1.out 0 _) _) _) _))
  first | replace Z1 := Lib.hid (row_call hb2 (row_other1 (by omega) Z1.out 0 _)) | replace Z1 := Lib.hid (row_call hb2 (row_alloc (row_other1 (by omega) Z1.out 0 _) _)) | replace Z1 := Lib.hid (row_call hb2 (row_alloc (row_alloc (row_other1 (by omega) Z1.out 0 _) _) _)) | replace Z1 := Lib.hid (row_call hb2 (row_alloc (row_alloc (row_alloc (row_other1 (by omega) Z1.out 0 _) _) _) _))
  first | replace M1 : Hid (V2.heap[w.heap.size + 1 + 1]? = some (.cells #[.int .i64 v1, .int .i64 0, .int .i64 0] _ (0, 0))) := Lib.hid (row_call hb2 (row_set1 M1.out 0 _)) | replace M1 : Hid (V2.heap[w.heap.size + 1 + 1]? = some (.cells #[.int .i64 v1, .int .i64 0, .int .i64 0] _ (0, 0))) := Lib.hid (row_call hb2 (row_alloc (row_set1 M1.out 0 _) _)) | replace M1 : Hid (V2.heap[w.heap.size + 1 + 1]? = some (.cells #[.int .i64 v1, .int .i64 0, .int .i64 0] _ (0, 0))) := Lib.hid (row_call hb2 (row_alloc (row_alloc (row_set1 M1.out 0 _) _) _)) | replace M1 : Hid (V2.heap[w.heap.size + 1 + 1]? = some (.cells #[.int .i64 v1, .int .i64 0, .int .i64 0] _ (0, 0))) := Lib.hid (row_call hb2 (row_alloc (row_alloc (row_alloc (row_set1 M1.out 0 _) _) _) _))
  clear hb2
  have A1_0 : V2.cell? ⟨w.heap.size, 0, none⟩ = some (.int .i64 a) := cell_of_row _ _ _ _ _ _ A1.out
  have A1_1 : V2.cell? ⟨w.heap.size, 1, none⟩ = some (.int .i64 b) := cell_of_row _ _ _ _ _ _ A1.out
  have A1_2 : V2.cell? ⟨w.heap.size, 2, none⟩ = some (.int .i64 c) := cell_of_row _ _ _ _ _ _ A1.out
  have Z1_0 : V2.cell? ⟨w.heap.size + 1, 0, none⟩ = some (.int .i64 0) := cell_of_row _ _ _ _ _ _ Z1.out
  have Z1_1 : V2.cell? ⟨w.heap.size + 1, 1, none⟩ = some (.int .i64 0) := cell_of_row _ _ _ _ _ _ Z1.out
  have Z1_2 : V2.cell? ⟨w.heap.size + 1, 2, none⟩ = some (.int .i64 0) := cell_of_row _ _ _ _ _ _ Z1.out
  have Z1_f0 : V2.frozen? ⟨w.heap.size + 1, 0, none⟩ = false := by simp [World.frozen?, Z1.out]
  have Z1_f1 : V2.frozen? ⟨w.heap.size + 1, 1, none⟩ = false := by simp [World.frozen?, Z1.out]
  have Z1_f2 : V2.frozen? ⟨w.heap.size + 1, 2, none⟩ = false := by simp [World.frozen?, Z1.out]
  have M1_0 : V2.cell? ⟨w.heap.size + 1 + 1, 0, none⟩ = some (.int .i64 v1) := cell_of_row _ _ _ _ _ _ M1.out
  have M1_1 : V2.cell? ⟨w.heap.size + 1 + 1, 1, none⟩ = some (.int .i64 0) := cell_of_row _ _ _ _ _ _ M1.out
  have M1_2 : V2.cell? ⟨w.heap.size + 1 + 1, 2, none⟩ = some (.int .i64 0) := cell_of_row _ _ _ _ _ _ M1.out
  have M1_f0 : V2.frozen? ⟨w.heap.size + 1 + 1, 0, none⟩ = false := by simp [World.frozen?, M1.out]
  have M1_f1 : V2.frozen? ⟨w.heap.size + 1 + 1, 1, none⟩ = false := by simp [World.frozen?, M1.out]
  have M1_f2 : V2.frozen? ⟨w.heap.size + 1 + 1, 2, none⟩ = false := by simp [World.frozen?, M1.out]
  have zA1 := lt_of_heap A1.out
  have zZ1 := lt_of_heap Z1.out
  have zM1 := lt_of_heap M1.out
  go_simp
  go_wp2
  refine shut_ret (v := .tuple #[.agg #[.int .i64 0, .int .i64 0, .int .i64 0], .int .i64 8]) (by simp [results, Try.results24, go_sem, zZ1, Z1_0, Z1_1, Z1_2]) rfl ⟨rfl, ?_⟩
  exact keep3 B2.out (by omega) _ _ _
set_option maxHeartbeats 3200000 in
set_option maxRecDepth 100000 in
theorem eachm_2hi (x : Nat) (a b c : Int) (v1 v2 : Int) (l1 : decide (v1 < -1000000) = false) (u1 : decide (1000000 < v1) = false) (l2 : decide (v2 < -1000000) = false) (u2 : decide (1000000 < v2) = true) (w : World)
    (H1 : Hid (∀ w', KP w w' → Calls Try.prog 30 #[.int .i64 a, .pointer (some ⟨x, 0, none⟩)] w' fun e w'' => e = .returned (.tuple #[.int .i64 v1, .int .i64 0]) ∧ Below w'.heap.size w' w''))
    (H2 : Hid (∀ w', KP w w' → Calls Try.prog 30 #[.int .i64 b, .pointer (some ⟨x, 0, none⟩)] w' fun e w'' => e = .returned (.tuple #[.int .i64 v2, .int .i64 0]) ∧ Below w'.heap.size w' w'')) :
    Calls Try.prog 24 #[.agg #[.int .i64 a, .int .i64 b, .int .i64 c], .func (.func 30) #[] #[.pointer (some ⟨x, 0, none⟩)]] w fun e w' => e = .returned (.tuple #[.agg #[.int .i64 0, .int .i64 0, .int .i64 0], .int .i64 8]) ∧ Below w.heap.size w w' := by
  have hM : Hid (KP w w) := Lib.hid (Below.refl _ _)
  have i0 : ∀ w, (Instr.index 48 (.agg #[.int .i64 a, .int .i64 b, .int .i64 c]) (.int .i64 0)).run Try.prog w = .ok (.int .i64 a) w := fun _ => by kernel_rfl
  have i1 : ∀ w, (Instr.index 48 (.agg #[.int .i64 a, .int .i64 b, .int .i64 c]) (.int .i64 1)).run Try.prog w = .ok (.int .i64 b) w := fun _ => by kernel_rfl
  go_enter Try.func24, Try.ntmps24
  refine wp_shut ?_
  go_wp2_with fail
  refine wp_loop_rounds 4 ?_
  
  rw [rounds_succ]
  go_wp2_with fail
  refine (H1.out _ (by first | exact kp_keep hM ((((Below.refl w.heap.size w).alloc (Nat.le_refl _) _).alloc (by simp <;> omega) _).alloc (by simp <;> omega) _))).mono ?_
  rintro e V1 ⟨rfl, hb1⟩
  have B1 := Lib.hid (((((Below.refl w.heap.size w).alloc (Nat.le_refl _) _).alloc (by simp <;> omega) _).alloc (by simp <;> omega) _).trans (hb1.mono (by first | assumption | (simp <;> omega) | (simp; done))))
  have A1 := Lib.hid (row_call hb1 (row_alloc (row_alloc (heap_alloc_new _ _) _) _))
  have Z1 := Lib.hid (row_at (k' := w.heap.size + 1) (by simp) (row_call hb1 (row_alloc (heap_alloc_new _ _) _)))
  have M1 := Lib.hid (row_at (k' := w.heap.size + 1 + 1) (by simp) (row_call hb1 (heap_alloc_new _ _)))
  clear hb1
  have A1_0 : V1.cell? ⟨w.heap.size, 0, none⟩ = some (.int .i64 a) := cell_of_row _ _ _ _ _ _ A1.out
  have A1_1 : V1.cell? ⟨w.heap.size, 1, none⟩ = some (.int .i64 b) := cell_of_row _ _ _ _ _ _ A1.out
  have A1_2 : V1.cell? ⟨w.heap.size, 2, none⟩ = some (.int .i64 c) := cell_of_row _ _ _ _ _ _ A1.out
  have Z1_0 : V1.cell? ⟨w.heap.size + 1, 0, none⟩ = some (.int .i64 0) := cell_of_row _ _ _ _ _ _ Z1.out
  have Z1_1 : V1.cell? ⟨w.heap.size + 1, 1, none⟩ = some (.int .i64 0) := cell_of_row _ _ _ _ _ _ Z1.out
  have Z1_2 : V1.cell? ⟨w.heap.size + 1, 2, none⟩ = some (.int .i64 0) := cell_of_row _ _ _ _ _ _ Z1.out
  have Z1_f0 : V1.frozen? ⟨w.heap.size + 1, 0, none⟩ = false := by simp [World.frozen?, Z1.out]
  have Z1_f1 : V1.frozen? ⟨w.heap.size + 1, 1, none⟩ = false := by simp [World.frozen?, Z1.out]
  have Z1_f2 : V1.frozen? ⟨w.heap.size + 1, 2, none⟩ = false := by simp [World.frozen?, Z1.out]
  have M1_0 : V1.cell? ⟨w.heap.size + 1 + 1, 0, none⟩ = some (.int .i64 0) := cell_of_row _ _ _ _ _ _ M1.out
  have M1_1 : V1.cell? ⟨w.heap.size + 1 + 1, 1, none⟩ = some (.int .i64 0) := cell_of_row _ _ _ _ _ _ M1.out
  have M1_2 : V1.cell? ⟨w.heap.size + 1 + 1, 2, none⟩ = some (.int .i64 0) := cell_of_row _ _ _ _ _ _ M1.out
  have M1_f0 : V1.frozen? ⟨w.heap.size + 1 + 1, 0, none⟩ = false := by simp [World.frozen?, M1.out]
  have M1_f1 : V1.frozen? ⟨w.heap.size + 1 + 1, 1, none⟩ = false := by simp [World.frozen?, M1.out]
  have M1_f2 : V1.frozen? ⟨w.heap.size + 1 + 1, 2, none⟩ = false := by simp [World.frozen?, M1.out]
  have zA1 := lt_of_heap A1.out
  have zZ1 := lt_of_heap Z1.out
  have zM1 := lt_of_heap M1.out
  go_simp
  go_wp2_with fail
  rw [rounds_succ]
  go_wp2_with fail
  refine (H2.out _ (by first | exact kp_keep hM (keep1 (B1.out) (by omega) 0 _) | exact kp_keep hM ((keep1 (B1.out) (by omega) 0 _).alloc (by have := B1.out.size; simp <;> omega) _) | exact kp_keep hM (((keep1 (B1.out) (by omega) 0 _).alloc (by have := B1.out.size; simp <;> omega) _).alloc (by have := B1.out.size; simp <;> omega) _) | exact kp_keep hM ((((keep1 (B1.out) (by omega) 0 _).alloc (by have := B1.out.size; simp <;> omega) _).alloc (by have := B1.out.size; simp <;> omega) _).alloc (by have := B1.out.size; simp <;> omega) _))).mono ?_
  rintro e V2 ⟨rfl, hb2⟩
  clear A1_0 A1_1 A1_2 zA1 Z1_0 Z1_1 Z1_2 Z1_f0 Z1_f1 Z1_f2 zZ1 M1_0 M1_1 M1_2 M1_f0 M1_f1 M1_f2 zM1
  have B2 : Hid (Below w.heap.size w V2) := by first | exact Lib.hid ((keep1 (B1.out) (by omega) 0 _).trans (hb2.mono (by have := B1.out.size; first | assumption | (simp <;> omega) | (simp; done)))) | exact Lib.hid (((keep1 (B1.out) (by omega) 0 _).alloc (by have := B1.out.size; simp <;> omega) _).trans (hb2.mono (by have := B1.out.size; first | assumption | (simp <;> omega) | (simp; done)))) | exact Lib.hid ((((keep1 (B1.out) (by omega) 0 _).alloc (by have := B1.out.size; simp <;> omega) _).alloc (by have := B1.out.size; simp <;> omega) _).trans (hb2.mono (by have := B1.out.size; first | assumption | (simp <;> omega) | (simp; done)))) | exact Lib.hid (((((keep1 (B1.out) (by omega) 0 _).alloc (by have := B1.out.size; simp <;> omega) _).alloc (by have := B1.out.size; simp <;> omega) _).alloc (by have := B1.out.size; simp <;> omega) _).trans (hb2.mono (by have := B1.out.size; first | assumption | (simp <;> omega) | (simp; done))))
  first | replace A1 := Lib.hid (row_call hb2 (row_other1 (by omega) A1.out 0 _)) | replace A1 := Lib.hid (row_call hb2 (row_alloc (row_other1 (by omega) A1.out 0 _) _)) | replace A1 := Lib.hid (row_call hb2 (row_alloc (row_alloc (row_other1 (by omega) A1.out 0 _) _) _)) | replace A1 := Lib.hid (row_call hb2 (row_alloc (row_alloc (row_alloc (row_other1 (by omega) A1.out 0 _) _) _) _))
  first | replace Z1 := Lib.hid (row_call hb2 (row_other1 (by omega) Z1.out 0 _)) | replace Z1 := Lib.hid (row_call hb2 (row_alloc (row_other1 (by omega) Z1.out 0 _) _)) | replace Z1 := Lib.hid (row_call hb2 (row_alloc (row_alloc (row_other1 (by omega) Z1.out 0 _) _) _)) | replace Z1 := Lib.hid (row_call hb2 (row_alloc (row_alloc (row_alloc (row_other1 (by omega) Z1.out 0 _) _) _) _))
  first | replace M1 : Hid (V2.heap[w.heap.size + 1 + 1]? = some (.cells #[.int .i64 v1, .int .i64 0, .int .i64 0] _ (0, 0))) := Lib.hid (row_call hb2 (row_set1 M1.out 0 _)) | replace M1 : Hid (V2.heap[w.heap.size + 1 + 1]? = some (.cells #[.int .i64 v1, .int .i64 0, .int .i64 0] _ (0, 0))) := Lib.hid (row_call hb2 (row_alloc (row_set1 M1.out 0 _) _)) | replace M1 : Hid (V2.heap[w.heap.size + 1 + 1]? = some (.cells #[.int .i64 v1, .int .i64 0, .int .i64 0] _ (0, 0))) := Lib.hid (row_call hb2 (row_alloc (row_alloc (row_set1 M1.out 0 _) _) _)) | replace M1 : Hid (V2.heap[w.heap.size + 1 + 1]? = some (.cells #[.int .i64 v1, .int .i64 0, .int .i64 0] _ (0, 0))) := Lib.hid (row_call hb2 (row_alloc (row_alloc (row_alloc (row_set1 M1.out 0 _) _) _) _))
  clear hb2
  have A1_0 : V2.cell? ⟨w.heap.size, 0, none⟩ = some (.int .i64 a) := cell_of_row _ _ _ _ _ _ A1.out
  have A1_1 : V2.cell? ⟨w.heap.size, 1, none⟩ = some (.int .i64 b) := cell_of_row _ _ _ _ _ _ A1.out
  have A1_2 : V2.cell? ⟨w.heap.size, 2, none⟩ = some (.int .i64 c) := cell_of_row _ _ _ _ _ _ A1.out
  have Z1_0 : V2.cell? ⟨w.heap.size + 1, 0, none⟩ = some (.int .i64 0) := cell_of_row _ _ _ _ _ _ Z1.out
  have Z1_1 : V2.cell? ⟨w.heap.size + 1, 1, none⟩ = some (.int .i64 0) := cell_of_row _ _ _ _ _ _ Z1.out
  have Z1_2 : V2.cell? ⟨w.heap.size + 1, 2, none⟩ = some (.int .i64 0) := cell_of_row _ _ _ _ _ _ Z1.out
  have Z1_f0 : V2.frozen? ⟨w.heap.size + 1, 0, none⟩ = false := by simp [World.frozen?, Z1.out]
  have Z1_f1 : V2.frozen? ⟨w.heap.size + 1, 1, none⟩ = false := by simp [World.frozen?, Z1.out]
  have Z1_f2 : V2.frozen? ⟨w.heap.size + 1, 2, none⟩ = false := by simp [World.frozen?, Z1.out]
  have M1_0 : V2.cell? ⟨w.heap.size + 1 + 1, 0, none⟩ = some (.int .i64 v1) := cell_of_row _ _ _ _ _ _ M1.out
  have M1_1 : V2.cell? ⟨w.heap.size + 1 + 1, 1, none⟩ = some (.int .i64 0) := cell_of_row _ _ _ _ _ _ M1.out
  have M1_2 : V2.cell? ⟨w.heap.size + 1 + 1, 2, none⟩ = some (.int .i64 0) := cell_of_row _ _ _ _ _ _ M1.out
  have M1_f0 : V2.frozen? ⟨w.heap.size + 1 + 1, 0, none⟩ = false := by simp [World.frozen?, M1.out]
  have M1_f1 : V2.frozen? ⟨w.heap.size + 1 + 1, 1, none⟩ = false := by simp [World.frozen?, M1.out]
  have M1_f2 : V2.frozen? ⟨w.heap.size + 1 + 1, 2, none⟩ = false := by simp [World.frozen?, M1.out]
  have zA1 := lt_of_heap A1.out
  have zZ1 := lt_of_heap Z1.out
  have zM1 := lt_of_heap M1.out
  go_simp
  go_wp2
  refine shut_ret (v := .tuple #[.agg #[.int .i64 0, .int .i64 0, .int .i64 0], .int .i64 8]) (by simp [results, Try.results24, go_sem, zZ1, Z1_0, Z1_1, Z1_2]) rfl ⟨rfl, ?_⟩
  exact keep3 B2.out (by omega) _ _ _
set_option maxHeartbeats 3200000 in
set_option maxRecDepth 100000 in
theorem eachm_3err (x : Nat) (a b c : Int) (v1 v2 v3 e3 : Int) (l1 : decide (v1 < -1000000) = false) (u1 : decide (1000000 < v1) = false) (l2 : decide (v2 < -1000000) = false) (u2 : decide (1000000 < v2) = false) (f3 : (e3 != 0) = true) (w : World)
    (H1 : Hid (∀ w', KP w w' → Calls Try.prog 30 #[.int .i64 a, .pointer (some ⟨x, 0, none⟩)] w' fun e w'' => e = .returned (.tuple #[.int .i64 v1, .int .i64 0]) ∧ Below w'.heap.size w' w''))
    (H2 : Hid (∀ w', KP w w' → Calls Try.prog 30 #[.int .i64 b, .pointer (some ⟨x, 0, none⟩)] w' fun e w'' => e = .returned (.tuple #[.int .i64 v2, .int .i64 0]) ∧ Below w'.heap.size w' w''))
    (H3 : Hid (∀ w', KP w w' → Calls Try.prog 30 #[.int .i64 c, .pointer (some ⟨x, 0, none⟩)] w' fun e w'' => e = .returned (.tuple #[.int .i64 v3, .int .i64 e3]) ∧ Below w'.heap.size w' w'')) :
    Calls Try.prog 24 #[.agg #[.int .i64 a, .int .i64 b, .int .i64 c], .func (.func 30) #[] #[.pointer (some ⟨x, 0, none⟩)]] w fun e w' => e = .returned (.tuple #[.agg #[.int .i64 0, .int .i64 0, .int .i64 0], .int .i64 e3]) ∧ Below w.heap.size w w' := by
  have hM : Hid (KP w w) := Lib.hid (Below.refl _ _)
  have i0 : ∀ w, (Instr.index 48 (.agg #[.int .i64 a, .int .i64 b, .int .i64 c]) (.int .i64 0)).run Try.prog w = .ok (.int .i64 a) w := fun _ => by kernel_rfl
  have i1 : ∀ w, (Instr.index 48 (.agg #[.int .i64 a, .int .i64 b, .int .i64 c]) (.int .i64 1)).run Try.prog w = .ok (.int .i64 b) w := fun _ => by kernel_rfl
  have i2 : ∀ w, (Instr.index 48 (.agg #[.int .i64 a, .int .i64 b, .int .i64 c]) (.int .i64 2)).run Try.prog w = .ok (.int .i64 c) w := fun _ => by kernel_rfl
  go_enter Try.func24, Try.ntmps24
  refine wp_shut ?_
  go_wp2_with fail
  refine wp_loop_rounds 4 ?_
  
  rw [rounds_succ]
  go_wp2_with fail
  refine (H1.out _ (by first | exact kp_keep hM ((((Below.refl w.heap.size w).alloc (Nat.le_refl _) _).alloc (by simp <;> omega) _).alloc (by simp <;> omega) _))).mono ?_
  rintro e V1 ⟨rfl, hb1⟩
  have B1 := Lib.hid (((((Below.refl w.heap.size w).alloc (Nat.le_refl _) _).alloc (by simp <;> omega) _).alloc (by simp <;> omega) _).trans (hb1.mono (by first | assumption | (simp <;> omega) | (simp; done))))
  have A1 := Lib.hid (row_call hb1 (row_alloc (row_alloc (heap_alloc_new _ _) _) _))
  have Z1 := Lib.hid (row_at (k' := w.heap.size + 1) (by simp) (row_call hb1 (row_alloc (heap_alloc_new _ _) _)))
  have M1 := Lib.hid (row_at (k' := w.heap.size + 1 + 1) (by simp) (row_call hb1 (heap_alloc_new _ _)))
  clear hb1
  have A1_0 : V1.cell? ⟨w.heap.size, 0, none⟩ = some (.int .i64 a) := cell_of_row _ _ _ _ _ _ A1.out
  have A1_1 : V1.cell? ⟨w.heap.size, 1, none⟩ = some (.int .i64 b) := cell_of_row _ _ _ _ _ _ A1.out
  have A1_2 : V1.cell? ⟨w.heap.size, 2, none⟩ = some (.int .i64 c) := cell_of_row _ _ _ _ _ _ A1.out
  have Z1_0 : V1.cell? ⟨w.heap.size + 1, 0, none⟩ = some (.int .i64 0) := cell_of_row _ _ _ _ _ _ Z1.out
  have Z1_1 : V1.cell? ⟨w.heap.size + 1, 1, none⟩ = some (.int .i64 0) := cell_of_row _ _ _ _ _ _ Z1.out
  have Z1_2 : V1.cell? ⟨w.heap.size + 1, 2, none⟩ = some (.int .i64 0) := cell_of_row _ _ _ _ _ _ Z1.out
  have Z1_f0 : V1.frozen? ⟨w.heap.size + 1, 0, none⟩ = false := by simp [World.frozen?, Z1.out]
  have Z1_f1 : V1.frozen? ⟨w.heap.size + 1, 1, none⟩ = false := by simp [World.frozen?, Z1.out]
  have Z1_f2 : V1.frozen? ⟨w.heap.size + 1, 2, none⟩ = false := by simp [World.frozen?, Z1.out]
  have M1_0 : V1.cell? ⟨w.heap.size + 1 + 1, 0, none⟩ = some (.int .i64 0) := cell_of_row _ _ _ _ _ _ M1.out
  have M1_1 : V1.cell? ⟨w.heap.size + 1 + 1, 1, none⟩ = some (.int .i64 0) := cell_of_row _ _ _ _ _ _ M1.out
  have M1_2 : V1.cell? ⟨w.heap.size + 1 + 1, 2, none⟩ = some (.int .i64 0) := cell_of_row _ _ _ _ _ _ M1.out
  have M1_f0 : V1.frozen? ⟨w.heap.size + 1 + 1, 0, none⟩ = false := by simp [World.frozen?, M1.out]
  have M1_f1 : V1.frozen? ⟨w.heap.size + 1 + 1, 1, none⟩ = false := by simp [World.frozen?, M1.out]
  have M1_f2 : V1.frozen? ⟨w.heap.size + 1 + 1, 2, none⟩ = false := by simp [World.frozen?, M1.out]
  have zA1 := lt_of_heap A1.out
  have zZ1 := lt_of_heap Z1.out
  have zM1 := lt_of_heap M1.out
  go_simp
  go_wp2_with fail
  rw [rounds_succ]
  go_wp2_with fail
  refine (H2.out _ (by first | exact kp_keep hM (keep1 (B1.out) (by omega) 0 _) | exact kp_keep hM ((keep1 (B1.out) (by omega) 0 _).alloc (by have := B1.out.size; simp <;> omega) _) | exact kp_keep hM (((keep1 (B1.out) (by omega) 0 _).alloc (by have := B1.out.size; simp <;> omega) _).alloc (by have := B1.out.size; simp <;> omega) _) | exact kp_keep hM ((((keep1 (B1.out) (by omega) 0 _).alloc (by have := B1.out.size; simp <;> omega) _).alloc (by have := B1.out.size; simp <;> omega) _).alloc (by have := B1.out.size; simp <;> omega) _))).mono ?_
  rintro e V2 ⟨rfl, hb2⟩
  clear A1_0 A1_1 A1_2 zA1 Z1_0 Z1_1 Z1_2 Z1_f0 Z1_f1 Z1_f2 zZ1 M1_0 M1_1 M1_2 M1_f0 M1_f1 M1_f2 zM1
  have B2 : Hid (Below w.heap.size w V2) := by first | exact Lib.hid ((keep1 (B1.out) (by omega) 0 _).trans (hb2.mono (by have := B1.out.size; first | assumption | (simp <;> omega) | (simp; done)))) | exact Lib.hid (((keep1 (B1.out) (by omega) 0 _).alloc (by have := B1.out.size; simp <;> omega) _).trans (hb2.mono (by have := B1.out.size; first | assumption | (simp <;> omega) | (simp; done)))) | exact Lib.hid ((((keep1 (B1.out) (by omega) 0 _).alloc (by have := B1.out.size; simp <;> omega) _).alloc (by have := B1.out.size; simp <;> omega) _).trans (hb2.mono (by have := B1.out.size; first | assumption | (simp <;> omega) | (simp; done)))) | exact Lib.hid (((((keep1 (B1.out) (by omega) 0 _).alloc (by have := B1.out.size; simp <;> omega) _).alloc (by have := B1.out.size; simp <;> omega) _).alloc (by have := B1.out.size; simp <;> omega) _).trans (hb2.mono (by have := B1.out.size; first | assumption | (simp <;> omega) | (simp; done))))
  first | replace A1 := Lib.hid (row_call hb2 (row_other1 (by omega) A1.out 0 _)) | replace A1 := Lib.hid (row_call hb2 (row_alloc (row_other1 (by omega) A1.out 0 _) _)) | replace A1 := Lib.hid (row_call hb2 (row_alloc (row_alloc (row_other1 (by omega) A1.out 0 _) _) _)) | replace A1 := Lib.hid (row_call hb2 (row_alloc (row_alloc (row_alloc (row_other1 (by omega) A1.out 0 _) _) _) _))
  first | replace Z1 := Lib.hid (row_call hb2 (row_other1 (by omega) Z1.out 0 _)) | replace Z1 := Lib.hid (row_call hb2 (row_alloc (row_other1 (by omega) Z1.out 0 _) _)) | replace Z1 := Lib.hid (row_call hb2 (row_alloc (row_alloc (row_other1 (by omega) Z1.out 0 _) _) _)) | replace Z1 := Lib.hid (row_call hb2 (row_alloc (row_alloc (row_alloc (row_other1 (by omega) Z1.out 0 _) _) _) _))
  first | replace M1 : Hid (V2.heap[w.heap.size + 1 + 1]? = some (.cells #[.int .i64 v1, .int .i64 0, .int .i64 0] _ (0, 0))) := Lib.hid (row_call hb2 (row_set1 M1.out 0 _)) | replace M1 : Hid (V2.heap[w.heap.size + 1 + 1]? = some (.cells #[.int .i64 v1, .int .i64 0, .int .i64 0] _ (0, 0))) := Lib.hid (row_call hb2 (row_alloc (row_set1 M1.out 0 _) _)) | replace M1 : Hid (V2.heap[w.heap.size + 1 + 1]? = some (.cells #[.int .i64 v1, .int .i64 0, .int .i64 0] _ (0, 0))) := Lib.hid (row_call hb2 (row_alloc (row_alloc (row_set1 M1.out 0 _) _) _)) | replace M1 : Hid (V2.heap[w.heap.size + 1 + 1]? = some (.cells #[.int .i64 v1, .int .i64 0, .int .i64 0] _ (0, 0))) := Lib.hid (row_call hb2 (row_alloc (row_alloc (row_alloc (row_set1 M1.out 0 _) _) _) _))
  clear hb2
  have A1_0 : V2.cell? ⟨w.heap.size, 0, none⟩ = some (.int .i64 a) := cell_of_row _ _ _ _ _ _ A1.out
  have A1_1 : V2.cell? ⟨w.heap.size, 1, none⟩ = some (.int .i64 b) := cell_of_row _ _ _ _ _ _ A1.out
  have A1_2 : V2.cell? ⟨w.heap.size, 2, none⟩ = some (.int .i64 c) := cell_of_row _ _ _ _ _ _ A1.out
  have Z1_0 : V2.cell? ⟨w.heap.size + 1, 0, none⟩ = some (.int .i64 0) := cell_of_row _ _ _ _ _ _ Z1.out
  have Z1_1 : V2.cell? ⟨w.heap.size + 1, 1, none⟩ = some (.int .i64 0) := cell_of_row _ _ _ _ _ _ Z1.out
  have Z1_2 : V2.cell? ⟨w.heap.size + 1, 2, none⟩ = some (.int .i64 0) := cell_of_row _ _ _ _ _ _ Z1.out
  have Z1_f0 : V2.frozen? ⟨w.heap.size + 1, 0, none⟩ = false := by simp [World.frozen?, Z1.out]
  have Z1_f1 : V2.frozen? ⟨w.heap.size + 1, 1, none⟩ = false := by simp [World.frozen?, Z1.out]
  have Z1_f2 : V2.frozen? ⟨w.heap.size + 1, 2, none⟩ = false := by simp [World.frozen?, Z1.out]
  have M1_0 : V2.cell? ⟨w.heap.size + 1 + 1, 0, none⟩ = some (.int .i64 v1) := cell_of_row _ _ _ _ _ _ M1.out
  have M1_1 : V2.cell? ⟨w.heap.size + 1 + 1, 1, none⟩ = some (.int .i64 0) := cell_of_row _ _ _ _ _ _ M1.out
  have M1_2 : V2.cell? ⟨w.heap.size + 1 + 1, 2, none⟩ = some (.int .i64 0) := cell_of_row _ _ _ _ _ _ M1.out
  have M1_f0 : V2.frozen? ⟨w.heap.size + 1 + 1, 0, none⟩ = false := by simp [World.frozen?, M1.out]
  have M1_f1 : V2.frozen? ⟨w.heap.size + 1 + 1, 1, none⟩ = false := by simp [World.frozen?, M1.out]
  have M1_f2 : V2.frozen? ⟨w.heap.size + 1 + 1, 2, none⟩ = false := by simp [World.frozen?, M1.out]
  have zA1 := lt_of_heap A1.out
  have zZ1 := lt_of_heap Z1.out
  have zM1 := lt_of_heap M1.out
  go_simp
  go_wp2_with fail
  rw [rounds_succ]
  go_wp2_with fail
  refine (H3.out _ (by first | exact kp_keep hM (keep1 (B2.out) (by omega) 1 _) | exact kp_keep hM ((keep1 (B2.out) (by omega) 1 _).alloc (by have := B2.out.size; simp <;> omega) _) | exact kp_keep hM (((keep1 (B2.out) (by omega) 1 _).alloc (by have := B2.out.size; simp <;> omega) _).alloc (by have := B2.out.size; simp <;> omega) _) | exact kp_keep hM ((((keep1 (B2.out) (by omega) 1 _).alloc (by have := B2.out.size; simp <;> omega) _).alloc (by have := B2.out.size; simp <;> omega) _).alloc (by have := B2.out.size; simp <;> omega) _))).mono ?_
  rintro e V3 ⟨rfl, hb3⟩
  clear A1_0 A1_1 A1_2 zA1 Z1_0 Z1_1 Z1_2 Z1_f0 Z1_f1 Z1_f2 zZ1 M1_0 M1_1 M1_2 M1_f0 M1_f1 M1_f2 zM1
  have B3 : Hid (Below w.heap.size w V3) := by first | exact Lib.hid ((keep1 (B2.out) (by omega) 1 _).trans (hb3.mono (by have := B2.out.size; first | assumption | (simp <;> omega) | (simp; done)))) | exact Lib.hid (((keep1 (B2.out) (by omega) 1 _).alloc (by have := B2.out.size; simp <;> omega) _).trans (hb3.mono (by have := B2.out.size; first | assumption | (simp <;> omega) | (simp; done)))) | exact Lib.hid ((((keep1 (B2.out) (by omega) 1 _).alloc (by have := B2.out.size; simp <;> omega) _).alloc (by have := B2.out.size; simp <;> omega) _).trans (hb3.mono (by have := B2.out.size; first | assumption | (simp <;> omega) | (simp; done)))) | exact Lib.hid (((((keep1 (B2.out) (by omega) 1 _).alloc (by have := B2.out.size; simp <;> omega) _).alloc (by have := B2.out.size; simp <;> omega) _).alloc (by have := B2.out.size; simp <;> omega) _).trans (hb3.mono (by have := B2.out.size; first | assumption | (simp <;> omega) | (simp; done))))
  first | replace A1 := Lib.hid (row_call hb3 (row_other1 (by omega) A1.out 1 _)) | replace A1 := Lib.hid (row_call hb3 (row_alloc (row_other1 (by omega) A1.out 1 _) _)) | replace A1 := Lib.hid (row_call hb3 (row_alloc (row_alloc (row_other1 (by omega) A1.out 1 _) _) _)) | replace A1 := Lib.hid (row_call hb3 (row_alloc (row_alloc (row_alloc (row_other1 (by omega) A1.out 1 _) _) _) _))
  first | replace Z1 := Lib.hid (row_call hb3 (row_other1 (by omega) Z1.out 1 _)) | replace Z1 := Lib.hid (row_call hb3 (row_alloc (row_other1 (by omega) Z1.out 1 _) _)) | replace Z1 := Lib.hid (row_call hb3 (row_alloc (row_alloc (row_other1 (by omega) Z1.out 1 _) _) _)) | replace Z1 := Lib.hid (row_call hb3 (row_alloc (row_alloc (row_alloc (row_other1 (by omega) Z1.out 1 _) _) _) _))
  first | replace M1 : Hid (V3.heap[w.heap.size + 1 + 1]? = some (.cells #[.int .i64 v1, .int .i64 v2, .int .i64 0] _ (0, 0))) := Lib.hid (row_call hb3 (row_set1 M1.out 1 _)) | replace M1 : Hid (V3.heap[w.heap.size + 1 + 1]? = some (.cells #[.int .i64 v1, .int .i64 v2, .int .i64 0] _ (0, 0))) := Lib.hid (row_call hb3 (row_alloc (row_set1 M1.out 1 _) _)) | replace M1 : Hid (V3.heap[w.heap.size + 1 + 1]? = some (.cells #[.int .i64 v1, .int .i64 v2, .int .i64 0] _ (0, 0))) := Lib.hid (row_call hb3 (row_alloc (row_alloc (row_set1 M1.out 1 _) _) _)) | replace M1 : Hid (V3.heap[w.heap.size + 1 + 1]? = some (.cells #[.int .i64 v1, .int .i64 v2, .int .i64 0] _ (0, 0))) := Lib.hid (row_call hb3 (row_alloc (row_alloc (row_alloc (row_set1 M1.out 1 _) _) _) _))
  clear hb3
  have A1_0 : V3.cell? ⟨w.heap.size, 0, none⟩ = some (.int .i64 a) := cell_of_row _ _ _ _ _ _ A1.out
  have A1_1 : V3.cell? ⟨w.heap.size, 1, none⟩ = some (.int .i64 b) := cell_of_row _ _ _ _ _ _ A1.out
  have A1_2 : V3.cell? ⟨w.heap.size, 2, none⟩ = some (.int .i64 c) := cell_of_row _ _ _ _ _ _ A1.out
  have Z1_0 : V3.cell? ⟨w.heap.size + 1, 0, none⟩ = some (.int .i64 0) := cell_of_row _ _ _ _ _ _ Z1.out
  have Z1_1 : V3.cell? ⟨w.heap.size + 1, 1, none⟩ = some (.int .i64 0) := cell_of_row _ _ _ _ _ _ Z1.out
  have Z1_2 : V3.cell? ⟨w.heap.size + 1, 2, none⟩ = some (.int .i64 0) := cell_of_row _ _ _ _ _ _ Z1.out
  have Z1_f0 : V3.frozen? ⟨w.heap.size + 1, 0, none⟩ = false := by simp [World.frozen?, Z1.out]
  have Z1_f1 : V3.frozen? ⟨w.heap.size + 1, 1, none⟩ = false := by simp [World.frozen?, Z1.out]
  have Z1_f2 : V3.frozen? ⟨w.heap.size + 1, 2, none⟩ = false := by simp [World.frozen?, Z1.out]
  have M1_0 : V3.cell? ⟨w.heap.size + 1 + 1, 0, none⟩ = some (.int .i64 v1) := cell_of_row _ _ _ _ _ _ M1.out
  have M1_1 : V3.cell? ⟨w.heap.size + 1 + 1, 1, none⟩ = some (.int .i64 v2) := cell_of_row _ _ _ _ _ _ M1.out
  have M1_2 : V3.cell? ⟨w.heap.size + 1 + 1, 2, none⟩ = some (.int .i64 0) := cell_of_row _ _ _ _ _ _ M1.out
  have M1_f0 : V3.frozen? ⟨w.heap.size + 1 + 1, 0, none⟩ = false := by simp [World.frozen?, M1.out]
  have M1_f1 : V3.frozen? ⟨w.heap.size + 1 + 1, 1, none⟩ = false := by simp [World.frozen?, M1.out]
  have M1_f2 : V3.frozen? ⟨w.heap.size + 1 + 1, 2, none⟩ = false := by simp [World.frozen?, M1.out]
  have zA1 := lt_of_heap A1.out
  have zZ1 := lt_of_heap Z1.out
  have zM1 := lt_of_heap M1.out
  go_simp
  go_wp2
  refine shut_ret (v := .tuple #[.agg #[.int .i64 0, .int .i64 0, .int .i64 0], .int .i64 e3]) (by simp [results, Try.results24, go_sem, zZ1, Z1_0, Z1_1, Z1_2]) rfl ⟨rfl, ?_⟩
  exact keep3 B3.out (by omega) _ _ _
set_option maxHeartbeats 3200000 in
set_option maxRecDepth 100000 in
theorem eachm_3lo (x : Nat) (a b c : Int) (v1 v2 v3 : Int) (l1 : decide (v1 < -1000000) = false) (u1 : decide (1000000 < v1) = false) (l2 : decide (v2 < -1000000) = false) (u2 : decide (1000000 < v2) = false) (l3 : decide (v3 < -1000000) = true) (w : World)
    (H1 : Hid (∀ w', KP w w' → Calls Try.prog 30 #[.int .i64 a, .pointer (some ⟨x, 0, none⟩)] w' fun e w'' => e = .returned (.tuple #[.int .i64 v1, .int .i64 0]) ∧ Below w'.heap.size w' w''))
    (H2 : Hid (∀ w', KP w w' → Calls Try.prog 30 #[.int .i64 b, .pointer (some ⟨x, 0, none⟩)] w' fun e w'' => e = .returned (.tuple #[.int .i64 v2, .int .i64 0]) ∧ Below w'.heap.size w' w''))
    (H3 : Hid (∀ w', KP w w' → Calls Try.prog 30 #[.int .i64 c, .pointer (some ⟨x, 0, none⟩)] w' fun e w'' => e = .returned (.tuple #[.int .i64 v3, .int .i64 0]) ∧ Below w'.heap.size w' w'')) :
    Calls Try.prog 24 #[.agg #[.int .i64 a, .int .i64 b, .int .i64 c], .func (.func 30) #[] #[.pointer (some ⟨x, 0, none⟩)]] w fun e w' => e = .returned (.tuple #[.agg #[.int .i64 0, .int .i64 0, .int .i64 0], .int .i64 8]) ∧ Below w.heap.size w w' := by
  have hM : Hid (KP w w) := Lib.hid (Below.refl _ _)
  have i0 : ∀ w, (Instr.index 48 (.agg #[.int .i64 a, .int .i64 b, .int .i64 c]) (.int .i64 0)).run Try.prog w = .ok (.int .i64 a) w := fun _ => by kernel_rfl
  have i1 : ∀ w, (Instr.index 48 (.agg #[.int .i64 a, .int .i64 b, .int .i64 c]) (.int .i64 1)).run Try.prog w = .ok (.int .i64 b) w := fun _ => by kernel_rfl
  have i2 : ∀ w, (Instr.index 48 (.agg #[.int .i64 a, .int .i64 b, .int .i64 c]) (.int .i64 2)).run Try.prog w = .ok (.int .i64 c) w := fun _ => by kernel_rfl
  go_enter Try.func24, Try.ntmps24
  refine wp_shut ?_
  go_wp2_with fail
  refine wp_loop_rounds 4 ?_
  
  rw [rounds_succ]
  go_wp2_with fail
  refine (H1.out _ (by first | exact kp_keep hM ((((Below.refl w.heap.size w).alloc (Nat.le_refl _) _).alloc (by simp <;> omega) _).alloc (by simp <;> omega) _))).mono ?_
  rintro e V1 ⟨rfl, hb1⟩
  have B1 := Lib.hid (((((Below.refl w.heap.size w).alloc (Nat.le_refl _) _).alloc (by simp <;> omega) _).alloc (by simp <;> omega) _).trans (hb1.mono (by first | assumption | (simp <;> omega) | (simp; done))))
  have A1 := Lib.hid (row_call hb1 (row_alloc (row_alloc (heap_alloc_new _ _) _) _))
  have Z1 := Lib.hid (row_at (k' := w.heap.size + 1) (by simp) (row_call hb1 (row_alloc (heap_alloc_new _ _) _)))
  have M1 := Lib.hid (row_at (k' := w.heap.size + 1 + 1) (by simp) (row_call hb1 (heap_alloc_new _ _)))
  clear hb1
  have A1_0 : V1.cell? ⟨w.heap.size, 0, none⟩ = some (.int .i64 a) := cell_of_row _ _ _ _ _ _ A1.out
  have A1_1 : V1.cell? ⟨w.heap.size, 1, none⟩ = some (.int .i64 b) := cell_of_row _ _ _ _ _ _ A1.out
  have A1_2 : V1.cell? ⟨w.heap.size, 2, none⟩ = some (.int .i64 c) := cell_of_row _ _ _ _ _ _ A1.out
  have Z1_0 : V1.cell? ⟨w.heap.size + 1, 0, none⟩ = some (.int .i64 0) := cell_of_row _ _ _ _ _ _ Z1.out
  have Z1_1 : V1.cell? ⟨w.heap.size + 1, 1, none⟩ = some (.int .i64 0) := cell_of_row _ _ _ _ _ _ Z1.out
  have Z1_2 : V1.cell? ⟨w.heap.size + 1, 2, none⟩ = some (.int .i64 0) := cell_of_row _ _ _ _ _ _ Z1.out
  have Z1_f0 : V1.frozen? ⟨w.heap.size + 1, 0, none⟩ = false := by simp [World.frozen?, Z1.out]
  have Z1_f1 : V1.frozen? ⟨w.heap.size + 1, 1, none⟩ = false := by simp [World.frozen?, Z1.out]
  have Z1_f2 : V1.frozen? ⟨w.heap.size + 1, 2, none⟩ = false := by simp [World.frozen?, Z1.out]
  have M1_0 : V1.cell? ⟨w.heap.size + 1 + 1, 0, none⟩ = some (.int .i64 0) := cell_of_row _ _ _ _ _ _ M1.out
  have M1_1 : V1.cell? ⟨w.heap.size + 1 + 1, 1, none⟩ = some (.int .i64 0) := cell_of_row _ _ _ _ _ _ M1.out
  have M1_2 : V1.cell? ⟨w.heap.size + 1 + 1, 2, none⟩ = some (.int .i64 0) := cell_of_row _ _ _ _ _ _ M1.out
  have M1_f0 : V1.frozen? ⟨w.heap.size + 1 + 1, 0, none⟩ = false := by simp [World.frozen?, M1.out]
  have M1_f1 : V1.frozen? ⟨w.heap.size + 1 + 1, 1, none⟩ = false := by simp [World.frozen?, M1.out]
  have M1_f2 : V1.frozen? ⟨w.heap.size + 1 + 1, 2, none⟩ = false := by simp [World.frozen?, M1.out]
  have zA1 := lt_of_heap A1.out
  have zZ1 := lt_of_heap Z1.out
  have zM1 := lt_of_heap M1.out
  go_simp
  go_wp2_with fail
  rw [rounds_succ]
  go_wp2_with fail
  refine (H2.out _ (by first | exact kp_keep hM (keep1 (B1.out) (by omega) 0 _) | exact kp_keep hM ((keep1 (B1.out) (by omega) 0 _).alloc (by have := B1.out.size; simp <;> omega) _) | exact kp_keep hM (((keep1 (B1.out) (by omega) 0 _).alloc (by have := B1.out.size; simp <;> omega) _).alloc (by have := B1.out.size; simp <;> omega) _) | exact kp_keep hM ((((keep1 (B1.out) (by omega) 0 _).alloc (by have := B1.out.size; simp <;> omega) _).alloc (by have := B1.out.size; simp <;> omega) _).alloc (by have := B1.out.size; simp <;> omega) _))).mono ?_
  rintro e V2 ⟨rfl, hb2⟩
  clear A1_0 A1_1 A1_2 zA1 Z1_0 Z1_1 Z1_2 Z1_f0 Z1_f1 Z1_f2 zZ1 M1_0 M1_1 M1_2 M1_f0 M1_f1 M1_f2 zM1
  have B2 : Hid (Below w.heap.size w V2) := by first | exact Lib.hid ((keep1 (B1.out) (by omega) 0 _).trans (hb2.mono (by have := B1.out.size; first | assumption | (simp <;> omega) | (simp; done)))) | exact Lib.hid (((keep1 (B1.out) (by omega) 0 _).alloc (by have := B1.out.size; simp <;> omega) _).trans (hb2.mono (by have := B1.out.size; first | assumption | (simp <;> omega) | (simp; done)))) | exact Lib.hid ((((keep1 (B1.out) (by omega) 0 _).alloc (by have := B1.out.size; simp <;> omega) _).alloc (by have := B1.out.size; simp <;> omega) _).trans (hb2.mono (by have := B1.out.size; first | assumption | (simp <;> omega) | (simp; done)))) | exact Lib.hid (((((keep1 (B1.out) (by omega) 0 _).alloc (by have := B1.out.size; simp <;> omega) _).alloc (by have := B1.out.size; simp <;> omega) _).alloc (by have := B1.out.size; simp <;> omega) _).trans (hb2.mono (by have := B1.out.size; first | assumption | (simp <;> omega) | (simp; done))))
  first | replace A1 := Lib.hid (row_call hb2 (row_other1 (by omega) A1.out 0 _)) | replace A1 := Lib.hid (row_call hb2 (row_alloc (row_other1 (by omega) A1.out 0 _) _)) | replace A1 := Lib.hid (row_call hb2 (row_alloc (row_alloc (row_other1 (by omega) A1.out 0 _) _) _)) | replace A1 := Lib.hid (row_call hb2 (row_alloc (row_alloc (row_alloc (row_other1 (by omega) A1.out 0 _) _) _) _))
  first | replace Z1 := Lib.hid (row_call hb2 (row_other1 (by omega) Z1.out 0 _)) | replace Z1 := Lib.hid (row_call hb2 (row_alloc (row_other1 (by omega) Z1.out 0 _) _)) | replace Z1 := Lib.hid (row_call hb2 (row_alloc (row_alloc (row_other1 (by omega) Z1.out 0 _) _) _)) | replace Z1 := Lib.hid (row_call hb2 (row_alloc (row_alloc (row_alloc (row_other1 (by omega) Z1.out 0 _) _) _) _))
  first | replace M1 : Hid (V2.heap[w.heap.size + 1 + 1]? = some (.cells #[.int .i64 v1, .int .i64 0, .int .i64 0] _ (0, 0))) := Lib.hid (row_call hb2 (row_set1 M1.out 0 _)) | replace M1 : Hid (V2.heap[w.heap.size + 1 + 1]? = some (.cells #[.int .i64 v1, .int .i64 0, .int .i64 0] _ (0, 0))) := Lib.hid (row_call hb2 (row_alloc (row_set1 M1.out 0 _) _)) | replace M1 : Hid (V2.heap[w.heap.size + 1 + 1]? = some (.cells #[.int .i64 v1, .int .i64 0, .int .i64 0] _ (0, 0))) := Lib.hid (row_call hb2 (row_alloc (row_alloc (row_set1 M1.out 0 _) _) _)) | replace M1 : Hid (V2.heap[w.heap.size + 1 + 1]? = some (.cells #[.int .i64 v1, .int .i64 0, .int .i64 0] _ (0, 0))) := Lib.hid (row_call hb2 (row_alloc (row_alloc (row_alloc (row_set1 M1.out 0 _) _) _) _))
  clear hb2
  have A1_0 : V2.cell? ⟨w.heap.size, 0, none⟩ = some (.int .i64 a) := cell_of_row _ _ _ _ _ _ A1.out
  have A1_1 : V2.cell? ⟨w.heap.size, 1, none⟩ = some (.int .i64 b) := cell_of_row _ _ _ _ _ _ A1.out
  have A1_2 : V2.cell? ⟨w.heap.size, 2, none⟩ = some (.int .i64 c) := cell_of_row _ _ _ _ _ _ A1.out
  have Z1_0 : V2.cell? ⟨w.heap.size + 1, 0, none⟩ = some (.int .i64 0) := cell_of_row _ _ _ _ _ _ Z1.out
  have Z1_1 : V2.cell? ⟨w.heap.size + 1, 1, none⟩ = some (.int .i64 0) := cell_of_row _ _ _ _ _ _ Z1.out
  have Z1_2 : V2.cell? ⟨w.heap.size + 1, 2, none⟩ = some (.int .i64 0) := cell_of_row _ _ _ _ _ _ Z1.out
  have Z1_f0 : V2.frozen? ⟨w.heap.size + 1, 0, none⟩ = false := by simp [World.frozen?, Z1.out]
  have Z1_f1 : V2.frozen? ⟨w.heap.size + 1, 1, none⟩ = false := by simp [World.frozen?, Z1.out]
  have Z1_f2 : V2.frozen? ⟨w.heap.size + 1, 2, none⟩ = false := by simp [World.frozen?, Z1.out]
  have M1_0 : V2.cell? ⟨w.heap.size + 1 + 1, 0, none⟩ = some (.int .i64 v1) := cell_of_row _ _ _ _ _ _ M1.out
  have M1_1 : V2.cell? ⟨w.heap.size + 1 + 1, 1, none⟩ = some (.int .i64 0) := cell_of_row _ _ _ _ _ _ M1.out
  have M1_2 : V2.cell? ⟨w.heap.size + 1 + 1, 2, none⟩ = some (.int .i64 0) := cell_of_row _ _ _ _ _ _ M1.out
  have M1_f0 : V2.frozen? ⟨w.heap.size + 1 + 1, 0, none⟩ = false := by simp [World.frozen?, M1.out]
  have M1_f1 : V2.frozen? ⟨w.heap.size + 1 + 1, 1, none⟩ = false := by simp [World.frozen?, M1.out]
  have M1_f2 : V2.frozen? ⟨w.heap.size + 1 + 1, 2, none⟩ = false := by simp [World.frozen?, M1.out]
  have zA1 := lt_of_heap A1.out
  have zZ1 := lt_of_heap Z1.out
  have zM1 := lt_of_heap M1.out
  go_simp
  go_wp2_with fail
  rw [rounds_succ]
  go_wp2_with fail
  refine (H3.out _ (by first | exact kp_keep hM (keep1 (B2.out) (by omega) 1 _) | exact kp_keep hM ((keep1 (B2.out) (by omega) 1 _).alloc (by have := B2.out.size; simp <;> omega) _) | exact kp_keep hM (((keep1 (B2.out) (by omega) 1 _).alloc (by have := B2.out.size; simp <;> omega) _).alloc (by have := B2.out.size; simp <;> omega) _) | exact kp_keep hM ((((keep1 (B2.out) (by omega) 1 _).alloc (by have := B2.out.size; simp <;> omega) _).alloc (by have := B2.out.size; simp <;> omega) _).alloc (by have := B2.out.size; simp <;> omega) _))).mono ?_
  rintro e V3 ⟨rfl, hb3⟩
  clear A1_0 A1_1 A1_2 zA1 Z1_0 Z1_1 Z1_2 Z1_f0 Z1_f1 Z1_f2 zZ1 M1_0 M1_1 M1_2 M1_f0 M1_f1 M1_f2 zM1
  have B3 : Hid (Below w.heap.size w V3) := by first | exact Lib.hid ((keep1 (B2.out) (by omega) 1 _).trans (hb3.mono (by have := B2.out.size; first | assumption | (simp <;> omega) | (simp; done)))) | exact Lib.hid (((keep1 (B2.out) (by omega) 1 _).alloc (by have := B2.out.size; simp <;> omega) _).trans (hb3.mono (by have := B2.out.size; first | assumption | (simp <;> omega) | (simp; done)))) | exact Lib.hid ((((keep1 (B2.out) (by omega) 1 _).alloc (by have := B2.out.size; simp <;> omega) _).alloc (by have := B2.out.size; simp <;> omega) _).trans (hb3.mono (by have := B2.out.size; first | assumption | (simp <;> omega) | (simp; done)))) | exact Lib.hid (((((keep1 (B2.out) (by omega) 1 _).alloc (by have := B2.out.size; simp <;> omega) _).alloc (by have := B2.out.size; simp <;> omega) _).alloc (by have := B2.out.size; simp <;> omega) _).trans (hb3.mono (by have := B2.out.size; first | assumption | (simp <;> omega) | (simp; done))))
  first | replace A1 := Lib.hid (row_call hb3 (row_other1 (by omega) A1.out 1 _)) | replace A1 := Lib.hid (row_call hb3 (row_alloc (row_other1 (by omega) A1.out 1 _) _)) | replace A1 := Lib.hid (row_call hb3 (row_alloc (row_alloc (row_other1 (by omega) A1.out 1 _) _) _)) | replace A1 := Lib.hid (row_call hb3 (row_alloc (row_alloc (row_alloc (row_other1 (by omega) A1.out 1 _) _) _) _))
  first | replace Z1 := Lib.hid (row_call hb3 (row_other1 (by omega) Z1.out 1 _)) | replace Z1 := Lib.hid (row_call hb3 (row_alloc (row_other1 (by omega) Z1.out 1 _) _)) | replace Z1 := Lib.hid (row_call hb3 (row_alloc (row_alloc (row_other1 (by omega) Z1.out 1 _) _) _)) | replace Z1 := Lib.hid (row_call hb3 (row_alloc (row_alloc (row_alloc (row_other1 (by omega) Z1.out 1 _) _) _) _))
  first | replace M1 : Hid (V3.heap[w.heap.size + 1 + 1]? = some (.cells #[.int .i64 v1, .int .i64 v2, .int .i64 0] _ (0, 0))) := Lib.hid (row_call hb3 (row_set1 M1.out 1 _)) | replace M1 : Hid (V3.heap[w.heap.size + 1 + 1]? = some (.cells #[.int .i64 v1, .int .i64 v2, .int .i64 0] _ (0, 0))) := Lib.hid (row_call hb3 (row_alloc (row_set1 M1.out 1 _) _)) | replace M1 : Hid (V3.heap[w.heap.size + 1 + 1]? = some (.cells #[.int .i64 v1, .int .i64 v2, .int .i64 0] _ (0, 0))) := Lib.hid (row_call hb3 (row_alloc (row_alloc (row_set1 M1.out 1 _) _) _)) | replace M1 : Hid (V3.heap[w.heap.size + 1 + 1]? = some (.cells #[.int .i64 v1, .int .i64 v2, .int .i64 0] _ (0, 0))) := Lib.hid (row_call hb3 (row_alloc (row_alloc (row_alloc (row_set1 M1.out 1 _) _) _) _))
  clear hb3
  have A1_0 : V3.cell? ⟨w.heap.size, 0, none⟩ = some (.int .i64 a) := cell_of_row _ _ _ _ _ _ A1.out
  have A1_1 : V3.cell? ⟨w.heap.size, 1, none⟩ = some (.int .i64 b) := cell_of_row _ _ _ _ _ _ A1.out
  have A1_2 : V3.cell? ⟨w.heap.size, 2, none⟩ = some (.int .i64 c) := cell_of_row _ _ _ _ _ _ A1.out
  have Z1_0 : V3.cell? ⟨w.heap.size + 1, 0, none⟩ = some (.int .i64 0) := cell_of_row _ _ _ _ _ _ Z1.out
  have Z1_1 : V3.cell? ⟨w.heap.size + 1, 1, none⟩ = some (.int .i64 0) := cell_of_row _ _ _ _ _ _ Z1.out
  have Z1_2 : V3.cell? ⟨w.heap.size + 1, 2, none⟩ = some (.int .i64 0) := cell_of_row _ _ _ _ _ _ Z1.out
  have Z1_f0 : V3.frozen? ⟨w.heap.size + 1, 0, none⟩ = false := by simp [World.frozen?, Z1.out]
  have Z1_f1 : V3.frozen? ⟨w.heap.size + 1, 1, none⟩ = false := by simp [World.frozen?, Z1.out]
  have Z1_f2 : V3.frozen? ⟨w.heap.size + 1, 2, none⟩ = false := by simp [World.frozen?, Z1.out]
  have M1_0 : V3.cell? ⟨w.heap.size + 1 + 1, 0, none⟩ = some (.int .i64 v1) := cell_of_row _ _ _ _ _ _ M1.out
  have M1_1 : V3.cell? ⟨w.heap.size + 1 + 1, 1, none⟩ = some (.int .i64 v2) := cell_of_row _ _ _ _ _ _ M1.out
  have M1_2 : V3.cell? ⟨w.heap.size + 1 + 1, 2, none⟩ = some (.int .i64 0) := cell_of_row _ _ _ _ _ _ M1.out
  have M1_f0 : V3.frozen? ⟨w.heap.size + 1 + 1, 0, none⟩ = false := by simp [World.frozen?, M1.out]
  have M1_f1 : V3.frozen? ⟨w.heap.size + 1 + 1, 1, none⟩ = false := by simp [World.frozen?, M1.out]
  have M1_f2 : V3.frozen? ⟨w.heap.size + 1 + 1, 2, none⟩ = false := by simp [World.frozen?, M1.out]
  have zA1 := lt_of_heap A1.out
  have zZ1 := lt_of_heap Z1.out
  have zM1 := lt_of_heap M1.out
  go_simp
  go_wp2
  refine shut_ret (v := .tuple #[.agg #[.int .i64 0, .int .i64 0, .int .i64 0], .int .i64 8]) (by simp [results, Try.results24, go_sem, zZ1, Z1_0, Z1_1, Z1_2]) rfl ⟨rfl, ?_⟩
  exact keep3 B3.out (by omega) _ _ _
set_option maxHeartbeats 3200000 in
set_option maxRecDepth 100000 in
theorem eachm_3hi (x : Nat) (a b c : Int) (v1 v2 v3 : Int) (l1 : decide (v1 < -1000000) = false) (u1 : decide (1000000 < v1) = false) (l2 : decide (v2 < -1000000) = false) (u2 : decide (1000000 < v2) = false) (l3 : decide (v3 < -1000000) = false) (u3 : decide (1000000 < v3) = true) (w : World)
    (H1 : Hid (∀ w', KP w w' → Calls Try.prog 30 #[.int .i64 a, .pointer (some ⟨x, 0, none⟩)] w' fun e w'' => e = .returned (.tuple #[.int .i64 v1, .int .i64 0]) ∧ Below w'.heap.size w' w''))
    (H2 : Hid (∀ w', KP w w' → Calls Try.prog 30 #[.int .i64 b, .pointer (some ⟨x, 0, none⟩)] w' fun e w'' => e = .returned (.tuple #[.int .i64 v2, .int .i64 0]) ∧ Below w'.heap.size w' w''))
    (H3 : Hid (∀ w', KP w w' → Calls Try.prog 30 #[.int .i64 c, .pointer (some ⟨x, 0, none⟩)] w' fun e w'' => e = .returned (.tuple #[.int .i64 v3, .int .i64 0]) ∧ Below w'.heap.size w' w'')) :
    Calls Try.prog 24 #[.agg #[.int .i64 a, .int .i64 b, .int .i64 c], .func (.func 30) #[] #[.pointer (some ⟨x, 0, none⟩)]] w fun e w' => e = .returned (.tuple #[.agg #[.int .i64 0, .int .i64 0, .int .i64 0], .int .i64 8]) ∧ Below w.heap.size w w' := by
  have hM : Hid (KP w w) := Lib.hid (Below.refl _ _)
  have i0 : ∀ w, (Instr.index 48 (.agg #[.int .i64 a, .int .i64 b, .int .i64 c]) (.int .i64 0)).run Try.prog w = .ok (.int .i64 a) w := fun _ => by kernel_rfl
  have i1 : ∀ w, (Instr.index 48 (.agg #[.int .i64 a, .int .i64 b, .int .i64 c]) (.int .i64 1)).run Try.prog w = .ok (.int .i64 b) w := fun _ => by kernel_rfl
  have i2 : ∀ w, (Instr.index 48 (.agg #[.int .i64 a, .int .i64 b, .int .i64 c]) (.int .i64 2)).run Try.prog w = .ok (.int .i64 c) w := fun _ => by kernel_rfl
  go_enter Try.func24, Try.ntmps24
  refine wp_shut ?_
  go_wp2_with fail
  refine wp_loop_rounds 4 ?_
  
  rw [rounds_succ]
  go_wp2_with fail
  refine (H1.out _ (by first | exact kp_keep hM ((((Below.refl w.heap.size w).alloc (Nat.le_refl _) _).alloc (by simp <;> omega) _).alloc (by simp <;> omega) _))).mono ?_
  rintro e V1 ⟨rfl, hb1⟩
  have B1 := Lib.hid (((((Below.refl w.heap.size w).alloc (Nat.le_refl _) _).alloc (by simp <;> omega) _).alloc (by simp <;> omega) _).trans (hb1.mono (by first | assumption | (simp <;> omega) | (simp; done))))
  have A1 := Lib.hid (row_call hb1 (row_alloc (row_alloc (heap_alloc_new _ _) _) _))
  have Z1 := Lib.hid (row_at (k' := w.heap.size + 1) (by simp) (row_call hb1 (row_alloc (heap_alloc_new _ _) _)))
  have M1 := Lib.hid (row_at (k' := w.heap.size + 1 + 1) (by simp) (row_call hb1 (heap_alloc_new _ _)))
  clear hb1
  have A1_0 : V1.cell? ⟨w.heap.size, 0, none⟩ = some (.int .i64 a) := cell_of_row _ _ _ _ _ _ A1.out
  have A1_1 : V1.cell? ⟨w.heap.size, 1, none⟩ = some (.int .i64 b) := cell_of_row _ _ _ _ _ _ A1.out
  have A1_2 : V1.cell? ⟨w.heap.size, 2, none⟩ = some (.int .i64 c) := cell_of_row _ _ _ _ _ _ A1.out
  have Z1_0 : V1.cell? ⟨w.heap.size + 1, 0, none⟩ = some (.int .i64 0) := cell_of_row _ _ _ _ _ _ Z1.out
  have Z1_1 : V1.cell? ⟨w.heap.size + 1, 1, none⟩ = some (.int .i64 0) := cell_of_row _ _ _ _ _ _ Z1.out
  have Z1_2 : V1.cell? ⟨w.heap.size + 1, 2, none⟩ = some (.int .i64 0) := cell_of_row _ _ _ _ _ _ Z1.out
  have Z1_f0 : V1.frozen? ⟨w.heap.size + 1, 0, none⟩ = false := by simp [World.frozen?, Z1.out]
  have Z1_f1 : V1.frozen? ⟨w.heap.size + 1, 1, none⟩ = false := by simp [World.frozen?, Z1.out]
  have Z1_f2 : V1.frozen? ⟨w.heap.size + 1, 2, none⟩ = false := by simp [World.frozen?, Z1.out]
  have M1_0 : V1.cell? ⟨w.heap.size + 1 + 1, 0, none⟩ = some (.int .i64 0) := cell_of_row _ _ _ _ _ _ M1.out
  have M1_1 : V1.cell? ⟨w.heap.size + 1 + 1, 1, none⟩ = some (.int .i64 0) := cell_of_row _ _ _ _ _ _ M1.out
  have M1_2 : V1.cell? ⟨w.heap.size + 1 + 1, 2, none⟩ = some (.int .i64 0) := cell_of_row _ _ _ _ _ _ M1.out
  have M1_f0 : V1.frozen? ⟨w.heap.size + 1 + 1, 0, none⟩ = false := by simp [World.frozen?, M1.out]
  have M1_f1 : V1.frozen? ⟨w.heap.size + 1 + 1, 1, none⟩ = false := by simp [World.frozen?, M1.out]
  have M1_f2 : V1.frozen? ⟨w.heap.size + 1 + 1, 2, none⟩ = false := by simp [World.frozen?, M1.out]
  have zA1 := lt_of_heap A1.out
  have zZ1 := lt_of_heap Z1.out
  have zM1 := lt_of_heap M1.out
  go_simp
  go_wp2_with fail
  rw [rounds_succ]
  go_wp2_with fail
  refine (H2.out _ (by first | exact kp_keep hM (keep1 (B1.out) (by omega) 0 _) | exact kp_keep hM ((keep1 (B1.out) (by omega) 0 _).alloc (by have := B1.out.size; simp <;> omega) _) | exact kp_keep hM (((keep1 (B1.out) (by omega) 0 _).alloc (by have := B1.out.size; simp <;> omega) _).alloc (by have := B1.out.size; simp <;> omega) _) | exact kp_keep hM ((((keep1 (B1.out) (by omega) 0 _).alloc (by have := B1.out.size; simp <;> omega) _).alloc (by have := B1.out.size; simp <;> omega) _).alloc (by have := B1.out.size; simp <;> omega) _))).mono ?_
  rintro e V2 ⟨rfl, hb2⟩
  clear A1_0 A1_1 A1_2 zA1 Z1_0 Z1_1 Z1_2 Z1_f0 Z1_f1 Z1_f2 zZ1 M1_0 M1_1 M1_2 M1_f0 M1_f1 M1_f2 zM1
  have B2 : Hid (Below w.heap.size w V2) := by first | exact Lib.hid ((keep1 (B1.out) (by omega) 0 _).trans (hb2.mono (by have := B1.out.size; first | assumption | (simp <;> omega) | (simp; done)))) | exact Lib.hid (((keep1 (B1.out) (by omega) 0 _).alloc (by have := B1.out.size; simp <;> omega) _).trans (hb2.mono (by have := B1.out.size; first | assumption | (simp <;> omega) | (simp; done)))) | exact Lib.hid ((((keep1 (B1.out) (by omega) 0 _).alloc (by have := B1.out.size; simp <;> omega) _).alloc (by have := B1.out.size; simp <;> omega) _).trans (hb2.mono (by have := B1.out.size; first | assumption | (simp <;> omega) | (simp; done)))) | exact Lib.hid (((((keep1 (B1.out) (by omega) 0 _).alloc (by have := B1.out.size; simp <;> omega) _).alloc (by have := B1.out.size; simp <;> omega) _).alloc (by have := B1.out.size; simp <;> omega) _).trans (hb2.mono (by have := B1.out.size; first | assumption | (simp <;> omega) | (simp; done))))
  first | replace A1 := Lib.hid (row_call hb2 (row_other1 (by omega) A1.out 0 _)) | replace A1 := Lib.hid (row_call hb2 (row_alloc (row_other1 (by omega) A1.out 0 _) _)) | replace A1 := Lib.hid (row_call hb2 (row_alloc (row_alloc (row_other1 (by omega) A1.out 0 _) _) _)) | replace A1 := Lib.hid (row_call hb2 (row_alloc (row_alloc (row_alloc (row_other1 (by omega) A1.out 0 _) _) _) _))
  first | replace Z1 := Lib.hid (row_call hb2 (row_other1 (by omega) Z1.out 0 _)) | replace Z1 := Lib.hid (row_call hb2 (row_alloc (row_other1 (by omega) Z1.out 0 _) _)) | replace Z1 := Lib.hid (row_call hb2 (row_alloc (row_alloc (row_other1 (by omega) Z1.out 0 _) _) _)) | replace Z1 := Lib.hid (row_call hb2 (row_alloc (row_alloc (row_alloc (row_other1 (by omega) Z1.out 0 _) _) _) _))
  first | replace M1 : Hid (V2.heap[w.heap.size + 1 + 1]? = some (.cells #[.int .i64 v1, .int .i64 0, .int .i64 0] _ (0, 0))) := Lib.hid (row_call hb2 (row_set1 M1.out 0 _)) | replace M1 : Hid (V2.heap[w.heap.size + 1 + 1]? = some (.cells #[.int .i64 v1, .int .i64 0, .int .i64 0] _ (0, 0))) := Lib.hid (row_call hb2 (row_alloc (row_set1 M1.out 0 _) _)) | replace M1 : Hid (V2.heap[w.heap.size + 1 + 1]? = some (.cells #[.int .i64 v1, .int .i64 0, .int .i64 0] _ (0, 0))) := Lib.hid (row_call hb2 (row_alloc (row_alloc (row_set1 M1.out 0 _) _) _)) | replace M1 : Hid (V2.heap[w.heap.size + 1 + 1]? = some (.cells #[.int .i64 v1, .int .i64 0, .int .i64 0] _ (0, 0))) := Lib.hid (row_call hb2 (row_alloc (row_alloc (row_alloc (row_set1 M1.out 0 _) _) _) _))
  clear hb2
  have A1_0 : V2.cell? ⟨w.heap.size, 0, none⟩ = some (.int .i64 a) := cell_of_row _ _ _ _ _ _ A1.out
  have A1_1 : V2.cell? ⟨w.heap.size, 1, none⟩ = some (.int .i64 b) := cell_of_row _ _ _ _ _ _ A1.out
  have A1_2 : V2.cell? ⟨w.heap.size, 2, none⟩ = some (.int .i64 c) := cell_of_row _ _ _ _ _ _ A1.out
  have Z1_0 : V2.cell? ⟨w.heap.size + 1, 0, none⟩ = some (.int .i64 0) := cell_of_row _ _ _ _ _ _ Z1.out
  have Z1_1 : V2.cell? ⟨w.heap.size + 1, 1, none⟩ = some (.int .i64 0) := cell_of_row _ _ _ _ _ _ Z1.out
  have Z1_2 : V2.cell? ⟨w.heap.size + 1, 2, none⟩ = some (.int .i64 0) := cell_of_row _ _ _ _ _ _ Z1.out
  have Z1_f0 : V2.frozen? ⟨w.heap.size + 1, 0, none⟩ = false := by simp [World.frozen?, Z1.out]
  have Z1_f1 : V2.frozen? ⟨w.heap.size + 1, 1, none⟩ = false := by simp [World.frozen?, Z1.out]
  have Z1_f2 : V2.frozen? ⟨w.heap.size + 1, 2, none⟩ = false := by simp [World.frozen?, Z1.out]
  have M1_0 : V2.cell? ⟨w.heap.size + 1 + 1, 0, none⟩ = some (.int .i64 v1) := cell_of_row _ _ _ _ _ _ M1.out
  have M1_1 : V2.cell? ⟨w.heap.size + 1 + 1, 1, none⟩ = some (.int .i64 0) := cell_of_row _ _ _ _ _ _ M1.out
  have M1_2 : V2.cell? ⟨w.heap.size + 1 + 1, 2, none⟩ = some (.int .i64 0) := cell_of_row _ _ _ _ _ _ M1.out
  have M1_f0 : V2.frozen? ⟨w.heap.size + 1 + 1, 0, none⟩ = false := by simp [World.frozen?, M1.out]
  have M1_f1 : V2.frozen? ⟨w.heap.size + 1 + 1, 1, none⟩ = false := by simp [World.frozen?, M1.out]
  have M1_f2 : V2.frozen? ⟨w.heap.size + 1 + 1, 2, none⟩ = false := by simp [World.frozen?, M1.out]
  have zA1 := lt_of_heap A1.out
  have zZ1 := lt_of_heap Z1.out
  have zM1 := lt_of_heap M1.out
  go_simp
  go_wp2_with fail
  rw [rounds_succ]
  go_wp2_with fail
  refine (H3.out _ (by first | exact kp_keep hM (keep1 (B2.out) (by omega) 1 _) | exact kp_keep hM ((keep1 (B2.out) (by omega) 1 _).alloc (by have := B2.out.size; simp <;> omega) _) | exact kp_keep hM (((keep1 (B2.out) (by omega) 1 _).alloc (by have := B2.out.size; simp <;> omega) _).alloc (by have := B2.out.size; simp <;> omega) _) | exact kp_keep hM ((((keep1 (B2.out) (by omega) 1 _).alloc (by have := B2.out.size; simp <;> omega) _).alloc (by have := B2.out.size; simp <;> omega) _).alloc (by have := B2.out.size; simp <;> omega) _))).mono ?_
  rintro e V3 ⟨rfl, hb3⟩
  clear A1_0 A1_1 A1_2 zA1 Z1_0 Z1_1 Z1_2 Z1_f0 Z1_f1 Z1_f2 zZ1 M1_0 M1_1 M1_2 M1_f0 M1_f1 M1_f2 zM1
  have B3 : Hid (Below w.heap.size w V3) := by first | exact Lib.hid ((keep1 (B2.out) (by omega) 1 _).trans (hb3.mono (by have := B2.out.size; first | assumption | (simp <;> omega) | (simp; done)))) | exact Lib.hid (((keep1 (B2.out) (by omega) 1 _).alloc (by have := B2.out.size; simp <;> omega) _).trans (hb3.mono (by have := B2.out.size; first | assumption | (simp <;> omega) | (simp; done)))) | exact Lib.hid ((((keep1 (B2.out) (by omega) 1 _).alloc (by have := B2.out.size; simp <;> omega) _).alloc (by have := B2.out.size; simp <;> omega) _).trans (hb3.mono (by have := B2.out.size; first | assumption | (simp <;> omega) | (simp; done)))) | exact Lib.hid (((((keep1 (B2.out) (by omega) 1 _).alloc (by have := B2.out.size; simp <;> omega) _).alloc (by have := B2.out.size; simp <;> omega) _).alloc (by have := B2.out.size; simp <;> omega) _).trans (hb3.mono (by have := B2.out.size; first | assumption | (simp <;> omega) | (simp; done))))
  first | replace A1 := Lib.hid (row_call hb3 (row_other1 (by omega) A1.out 1 _)) | replace A1 := Lib.hid (row_call hb3 (row_alloc (row_other1 (by omega) A1.out 1 _) _)) | replace A1 := Lib.hid (row_call hb3 (row_alloc (row_alloc (row_other1 (by omega) A1.out 1 _) _) _)) | replace A1 := Lib.hid (row_call hb3 (row_alloc (row_alloc (row_alloc (row_other1 (by omega) A1.out 1 _) _) _) _))
  first | replace Z1 := Lib.hid (row_call hb3 (row_other1 (by omega) Z1.out 1 _)) | replace Z1 := Lib.hid (row_call hb3 (row_alloc (row_other1 (by omega) Z1.out 1 _) _)) | replace Z1 := Lib.hid (row_call hb3 (row_alloc (row_alloc (row_other1 (by omega) Z1.out 1 _) _) _)) | replace Z1 := Lib.hid (row_call hb3 (row_alloc (row_alloc (row_alloc (row_other1 (by omega) Z1.out 1 _) _) _) _))
  first | replace M1 : Hid (V3.heap[w.heap.size + 1 + 1]? = some (.cells #[.int .i64 v1, .int .i64 v2, .int .i64 0] _ (0, 0))) := Lib.hid (row_call hb3 (row_set1 M1.out 1 _)) | replace M1 : Hid (V3.heap[w.heap.size + 1 + 1]? = some (.cells #[.int .i64 v1, .int .i64 v2, .int .i64 0] _ (0, 0))) := Lib.hid (row_call hb3 (row_alloc (row_set1 M1.out 1 _) _)) | replace M1 : Hid (V3.heap[w.heap.size + 1 + 1]? = some (.cells #[.int .i64 v1, .int .i64 v2, .int .i64 0] _ (0, 0))) := Lib.hid (row_call hb3 (row_alloc (row_alloc (row_set1 M1.out 1 _) _) _)) | replace M1 : Hid (V3.heap[w.heap.size + 1 + 1]? = some (.cells #[.int .i64 v1, .int .i64 v2, .int .i64 0] _ (0, 0))) := Lib.hid (row_call hb3 (row_alloc (row_alloc (row_alloc (row_set1 M1.out 1 _) _) _) _))
  clear hb3
  have A1_0 : V3.cell? ⟨w.heap.size, 0, none⟩ = some (.int .i64 a) := cell_of_row _ _ _ _ _ _ A1.out
  have A1_1 : V3.cell? ⟨w.heap.size, 1, none⟩ = some (.int .i64 b) := cell_of_row _ _ _ _ _ _ A1.out
  have A1_2 : V3.cell? ⟨w.heap.size, 2, none⟩ = some (.int .i64 c) := cell_of_row _ _ _ _ _ _ A1.out
  have Z1_0 : V3.cell? ⟨w.heap.size + 1, 0, none⟩ = some (.int .i64 0) := cell_of_row _ _ _ _ _ _ Z1.out
  have Z1_1 : V3.cell? ⟨w.heap.size + 1, 1, none⟩ = some (.int .i64 0) := cell_of_row _ _ _ _ _ _ Z1.out
  have Z1_2 : V3.cell? ⟨w.heap.size + 1, 2, none⟩ = some (.int .i64 0) := cell_of_row _ _ _ _ _ _ Z1.out
  have Z1_f0 : V3.frozen? ⟨w.heap.size + 1, 0, none⟩ = false := by simp [World.frozen?, Z1.out]
  have Z1_f1 : V3.frozen? ⟨w.heap.size + 1, 1, none⟩ = false := by simp [World.frozen?, Z1.out]
  have Z1_f2 : V3.frozen? ⟨w.heap.size + 1, 2, none⟩ = false := by simp [World.frozen?, Z1.out]
  have M1_0 : V3.cell? ⟨w.heap.size + 1 + 1, 0, none⟩ = some (.int .i64 v1) := cell_of_row _ _ _ _ _ _ M1.out
  have M1_1 : V3.cell? ⟨w.heap.size + 1 + 1, 1, none⟩ = some (.int .i64 v2) := cell_of_row _ _ _ _ _ _ M1.out
  have M1_2 : V3.cell? ⟨w.heap.size + 1 + 1, 2, none⟩ = some (.int .i64 0) := cell_of_row _ _ _ _ _ _ M1.out
  have M1_f0 : V3.frozen? ⟨w.heap.size + 1 + 1, 0, none⟩ = false := by simp [World.frozen?, M1.out]
  have M1_f1 : V3.frozen? ⟨w.heap.size + 1 + 1, 1, none⟩ = false := by simp [World.frozen?, M1.out]
  have M1_f2 : V3.frozen? ⟨w.heap.size + 1 + 1, 2, none⟩ = false := by simp [World.frozen?, M1.out]
  have zA1 := lt_of_heap A1.out
  have zZ1 := lt_of_heap Z1.out
  have zM1 := lt_of_heap M1.out
  go_simp
  go_wp2
  refine shut_ret (v := .tuple #[.agg #[.int .i64 0, .int .i64 0, .int .i64 0], .int .i64 8]) (by simp [results, Try.results24, go_sem, zZ1, Z1_0, Z1_1, Z1_2]) rfl ⟨rfl, ?_⟩
  exact keep3 B3.out (by omega) _ _ _
set_option maxHeartbeats 3200000 in
set_option maxRecDepth 100000 in
theorem eachm_3ok (x : Nat) (a b c : Int) (v1 v2 v3 : Int) (l1 : decide (v1 < -1000000) = false) (u1 : decide (1000000 < v1) = false) (l2 : decide (v2 < -1000000) = false) (u2 : decide (1000000 < v2) = false) (l3 : decide (v3 < -1000000) = false) (u3 : decide (1000000 < v3) = false) (w : World)
    (H1 : Hid (∀ w', KP w w' → Calls Try.prog 30 #[.int .i64 a, .pointer (some ⟨x, 0, none⟩)] w' fun e w'' => e = .returned (.tuple #[.int .i64 v1, .int .i64 0]) ∧ Below w'.heap.size w' w''))
    (H2 : Hid (∀ w', KP w w' → Calls Try.prog 30 #[.int .i64 b, .pointer (some ⟨x, 0, none⟩)] w' fun e w'' => e = .returned (.tuple #[.int .i64 v2, .int .i64 0]) ∧ Below w'.heap.size w' w''))
    (H3 : Hid (∀ w', KP w w' → Calls Try.prog 30 #[.int .i64 c, .pointer (some ⟨x, 0, none⟩)] w' fun e w'' => e = .returned (.tuple #[.int .i64 v3, .int .i64 0]) ∧ Below w'.heap.size w' w'')) :
    Calls Try.prog 24 #[.agg #[.int .i64 a, .int .i64 b, .int .i64 c], .func (.func 30) #[] #[.pointer (some ⟨x, 0, none⟩)]] w fun e w' => e = .returned (.tuple #[.agg #[.int .i64 v1, .int .i64 v2, .int .i64 v3], .int .i64 0]) ∧ Below w.heap.size w w' := by
  have hM : Hid (KP w w) := Lib.hid (Below.refl _ _)
  have i0 : ∀ w, (Instr.index 48 (.agg #[.int .i64 a, .int .i64 b, .int .i64 c]) (.int .i64 0)).run Try.prog w = .ok (.int .i64 a) w := fun _ => by kernel_rfl
  have i1 : ∀ w, (Instr.index 48 (.agg #[.int .i64 a, .int .i64 b, .int .i64 c]) (.int .i64 1)).run Try.prog w = .ok (.int .i64 b) w := fun _ => by kernel_rfl
  have i2 : ∀ w, (Instr.index 48 (.agg #[.int .i64 a, .int .i64 b, .int .i64 c]) (.int .i64 2)).run Try.prog w = .ok (.int .i64 c) w := fun _ => by kernel_rfl
  go_enter Try.func24, Try.ntmps24
  refine wp_shut ?_
  go_wp2_with fail
  refine wp_loop_rounds 4 ?_
  
  rw [rounds_succ]
  go_wp2_with fail
  refine (H1.out _ (by first | exact kp_keep hM ((((Below.refl w.heap.size w).alloc (Nat.le_refl _) _).alloc (by simp <;> omega) _).alloc (by simp <;> omega) _))).mono ?_
  rintro e V1 ⟨rfl, hb1⟩
  have B1 := Lib.hid (((((Below.refl w.heap.size w).alloc (Nat.le_refl _) _).alloc (by simp <;> omega) _).alloc (by simp <;> omega) _).trans (hb1.mono (by first | assumption | (simp <;> omega) | (simp; done))))
  have A1 := Lib.hid (row_call hb1 (row_alloc (row_alloc (heap_alloc_new _ _) _) _))
  have Z1 := Lib.hid (row_at (k' := w.heap.size + 1) (by simp) (row_call hb1 (row_alloc (heap_alloc_new _ _) _)))
  have M1 := Lib.hid (row_at (k' := w.heap.size + 1 + 1) (by simp) (row_call hb1 (heap_alloc_new _ _)))
  clear hb1
  have A1_0 : V1.cell? ⟨w.heap.size, 0, none⟩ = some (.int .i64 a) := cell_of_row _ _ _ _ _ _ A1.out
  have A1_1 : V1.cell? ⟨w.heap.size, 1, none⟩ = some (.int .i64 b) := cell_of_row _ _ _ _ _ _ A1.out
  have A1_2 : V1.cell? ⟨w.heap.size, 2, none⟩ = some (.int .i64 c) := cell_of_row _ _ _ _ _ _ A1.out
  have Z1_0 : V1.cell? ⟨w.heap.size + 1, 0, none⟩ = some (.int .i64 0) := cell_of_row _ _ _ _ _ _ Z1.out
  have Z1_1 : V1.cell? ⟨w.heap.size + 1, 1, none⟩ = some (.int .i64 0) := cell_of_row _ _ _ _ _ _ Z1.out
  have Z1_2 : V1.cell? ⟨w.heap.size + 1, 2, none⟩ = some (.int .i64 0) := cell_of_row _ _ _ _ _ _ Z1.out
  have Z1_f0 : V1.frozen? ⟨w.heap.size + 1, 0, none⟩ = false := by simp [World.frozen?, Z1.out]
  have Z1_f1 : V1.frozen? ⟨w.heap.size + 1, 1, none⟩ = false := by simp [World.frozen?, Z1.out]
  have Z1_f2 : V1.frozen? ⟨w.heap.size + 1, 2, none⟩ = false := by simp [World.frozen?, Z1.out]
  have M1_0 : V1.cell? ⟨w.heap.size + 1 + 1, 0, none⟩ = some (.int .i64 0) := cell_of_row _ _ _ _ _ _ M1.out
  have M1_1 : V1.cell? ⟨w.heap.size + 1 + 1, 1, none⟩ = some (.int .i64 0) := cell_of_row _ _ _ _ _ _ M1.out
  have M1_2 : V1.cell? ⟨w.heap.size + 1 + 1, 2, none⟩ = some (.int .i64 0) := cell_of_row _ _ _ _ _ _ M1.out
  have M1_f0 : V1.frozen? ⟨w.heap.size + 1 + 1, 0, none⟩ = false := by simp [World.frozen?, M1.out]
  have M1_f1 : V1.frozen? ⟨w.heap.size + 1 + 1, 1, none⟩ = false := by simp [World.frozen?, M1.out]
  have M1_f2 : V1.frozen? ⟨w.heap.size + 1 + 1, 2, none⟩ = false := by simp [World.frozen?, M1.out]
  have zA1 := lt_of_heap A1.out
  have zZ1 := lt_of_heap Z1.out
  have zM1 := lt_of_heap M1.out
  go_simp
  go_wp2_with fail
  rw [rounds_succ]
  go_wp2_with fail
  refine (H2.out _ (by first | exact kp_keep hM (keep1 (B1.out) (by omega) 0 _) | exact kp_keep hM ((keep1 (B1.out) (by omega) 0 _).alloc (by have := B1.out.size; simp <;> omega) _) | exact kp_keep hM (((keep1 (B1.out) (by omega) 0 _).alloc (by have := B1.out.size; simp <;> omega) _).alloc (by have := B1.out.size; simp <;> omega) _) | exact kp_keep hM ((((keep1 (B1.out) (by omega) 0 _).alloc (by have := B1.out.size; simp <;> omega) _).alloc (by have := B1.out.size; simp <;> omega) _).alloc (by have := B1.out.size; simp <;> omega) _))).mono ?_
  rintro e V2 ⟨rfl, hb2⟩
  clear A1_0 A1_1 A1_2 zA1 Z1_0 Z1_1 Z1_2 Z1_f0 Z1_f1 Z1_f2 zZ1 M1_0 M1_1 M1_2 M1_f0 M1_f1 M1_f2 zM1
  have B2 : Hid (Below w.heap.size w V2) := by first | exact Lib.hid ((keep1 (B1.out) (by omega) 0 _).trans (hb2.mono (by have := B1.out.size; first | assumption | (simp <;> omega) | (simp; done)))) | exact Lib.hid (((keep1 (B1.out) (by omega) 0 _).alloc (by have := B1.out.size; simp <;> omega) _).trans (hb2.mono (by have := B1.out.size; first | assumption | (simp <;> omega) | (simp; done)))) | exact Lib.hid ((((keep1 (B1.out) (by omega) 0 _).alloc (by have := B1.out.size; simp <;> omega) _).alloc (by have := B1.out.size; simp <;> omega) _).trans (hb2.mono (by have := B1.out.size; first | assumption | (simp <;> omega) | (simp; done)))) | exact Lib.hid (((((keep1 (B1.out) (by omega) 0 _).alloc (by have := B1.out.size; simp <;> omega) _).alloc (by have := B1.out.size; simp <;> omega) _).alloc (by have := B1.out.size; simp <;> omega) _).trans (hb2.mono (by have := B1.out.size; first | assumption | (simp <;> omega) | (simp; done))))
  first | replace A1 := Lib.hid (row_call hb2 (row_other1 (by omega) A1.out 0 _)) | replace A1 := Lib.hid (row_call hb2 (row_alloc (row_other1 (by omega) A1.out 0 _) _)) | replace A1 := Lib.hid (row_call hb2 (row_alloc (row_alloc (row_other1 (by omega) A1.out 0 _) _) _)) | replace A1 := Lib.hid (row_call hb2 (row_alloc (row_alloc (row_alloc (row_other1 (by omega) A1.out 0 _) _) _) _))
  first | replace Z1 := Lib.hid (row_call hb2 (row_other1 (by omega) Z1.out 0 _)) | replace Z1 := Lib.hid (row_call hb2 (row_alloc (row_other1 (by omega) Z1.out 0 _) _)) | replace Z1 := Lib.hid (row_call hb2 (row_alloc (row_alloc (row_other1 (by omega) Z1.out 0 _) _) _)) | replace Z1 := Lib.hid (row_call hb2 (row_alloc (row_alloc (row_alloc (row_other1 (by omega) Z1.out 0 _) _) _) _))
  first | replace M1 : Hid (V2.heap[w.heap.size + 1 + 1]? = some (.cells #[.int .i64 v1, .int .i64 0, .int .i64 0] _ (0, 0))) := Lib.hid (row_call hb2 (row_set1 M1.out 0 _)) | replace M1 : Hid (V2.heap[w.heap.size + 1 + 1]? = some (.cells #[.int .i64 v1, .int .i64 0, .int .i64 0] _ (0, 0))) := Lib.hid (row_call hb2 (row_alloc (row_set1 M1.out 0 _) _)) | replace M1 : Hid (V2.heap[w.heap.size + 1 + 1]? = some (.cells #[.int .i64 v1, .int .i64 0, .int .i64 0] _ (0, 0))) := Lib.hid (row_call hb2 (row_alloc (row_alloc (row_set1 M1.out 0 _) _) _)) | replace M1 : Hid (V2.heap[w.heap.size + 1 + 1]? = some (.cells #[.int .i64 v1, .int .i64 0, .int .i64 0] _ (0, 0))) := Lib.hid (row_call hb2 (row_alloc (row_alloc (row_alloc (row_set1 M1.out 0 _) _) _) _))
  clear hb2
  have A1_0 : V2.cell? ⟨w.heap.size, 0, none⟩ = some (.int .i64 a) := cell_of_row _ _ _ _ _ _ A1.out
  have A1_1 : V2.cell? ⟨w.heap.size, 1, none⟩ = some (.int .i64 b) := cell_of_row _ _ _ _ _ _ A1.out
  have A1_2 : V2.cell? ⟨w.heap.size, 2, none⟩ = some (.int .i64 c) := cell_of_row _ _ _ _ _ _ A1.out
  have Z1_0 : V2.cell? ⟨w.heap.size + 1, 0, none⟩ = some (.int .i64 0) := cell_of_row _ _ _ _ _ _ Z1.out
  have Z1_1 : V2.cell? ⟨w.heap.size + 1, 1, none⟩ = some (.int .i64 0) := cell_of_row _ _ _ _ _ _ Z1.out
  have Z1_2 : V2.cell? ⟨w.heap.size + 1, 2, none⟩ = some (.int .i64 0) := cell_of_row _ _ _ _ _ _ Z1.out
  have Z1_f0 : V2.frozen? ⟨w.heap.size + 1, 0, none⟩ = false := by simp [World.frozen?, Z1.out]
  have Z1_f1 : V2.frozen? ⟨w.heap.size + 1, 1, none⟩ = false := by simp [World.frozen?, Z1.out]
  have Z1_f2 : V2.frozen? ⟨w.heap.size + 1, 2, none⟩ = false := by simp [World.frozen?, Z1.out]
  have M1_0 : V2.cell? ⟨w.heap.size + 1 + 1, 0, none⟩ = some (.int .i64 v1) := cell_of_row _ _ _ _ _ _ M1.out
  have M1_1 : V2.cell? ⟨w.heap.size + 1 + 1, 1, none⟩ = some (.int .i64 0) := cell_of_row _ _ _ _ _ _ M1.out
  have M1_2 : V2.cell? ⟨w.heap.size + 1 + 1, 2, none⟩ = some (.int .i64 0) := cell_of_row _ _ _ _ _ _ M1.out
  have M1_f0 : V2.frozen? ⟨w.heap.size + 1 + 1, 0, none⟩ = false := by simp [World.frozen?, M1.out]
  have M1_f1 : V2.frozen? ⟨w.heap.size + 1 + 1, 1, none⟩ = false := by simp [World.frozen?, M1.out]
  have M1_f2 : V2.frozen? ⟨w.heap.size + 1 + 1, 2, none⟩ = false := by simp [World.frozen?, M1.out]
  have zA1 := lt_of_heap A1.out
  have zZ1 := lt_of_heap Z1.out
  have zM1 := lt_of_heap M1.out
  go_simp
  go_wp2_with fail
  rw [rounds_succ]
  go_wp2_with fail
  refine (H3.out _ (by first | exact kp_keep hM (keep1 (B2.out) (by omega) 1 _) | exact kp_keep hM ((keep1 (B2.out) (by omega) 1 _).alloc (by have := B2.out.size; simp <;> omega) _) | exact kp_keep hM (((keep1 (B2.out) (by omega) 1 _).alloc (by have := B2.out.size; simp <;> omega) _).alloc (by have := B2.out.size; simp <;> omega) _) | exact kp_keep hM ((((keep1 (B2.out) (by omega) 1 _).alloc (by have := B2.out.size; simp <;> omega) _).alloc (by have := B2.out.size; simp <;> omega) _).alloc (by have := B2.out.size; simp <;> omega) _))).mono ?_
  rintro e V3 ⟨rfl, hb3⟩
  clear A1_0 A1_1 A1_2 zA1 Z1_0 Z1_1 Z1_2 Z1_f0 Z1_f1 Z1_f2 zZ1 M1_0 M1_1 M1_2 M1_f0 M1_f1 M1_f2 zM1
  have B3 : Hid (Below w.heap.size w V3) := by first | exact Lib.hid ((keep1 (B2.out) (by omega) 1 _).trans (hb3.mono (by have := B2.out.size; first | assumption | (simp <;> omega) | (simp; done)))) | exact Lib.hid (((keep1 (B2.out) (by omega) 1 _).alloc (by have := B2.out.size; simp <;> omega) _).trans (hb3.mono (by have := B2.out.size; first | assumption | (simp <;> omega) | (simp; done)))) | exact Lib.hid ((((keep1 (B2.out) (by omega) 1 _).alloc (by have := B2.out.size; simp <;> omega) _).alloc (by have := B2.out.size; simp <;> omega) _).trans (hb3.mono (by have := B2.out.size; first | assumption | (simp <;> omega) | (simp; done)))) | exact Lib.hid (((((keep1 (B2.out) (by omega) 1 _).alloc (by have := B2.out.size; simp <;> omega) _).alloc (by have := B2.out.size; simp <;> omega) _).alloc (by have := B2.out.size; simp <;> omega) _).trans (hb3.mono (by have := B2.out.size; first | assumption | (simp <;> omega) | (simp; done))))
  first | replace A1 := Lib.hid (row_call hb3 (row_other1 (by omega) A1.out 1 _)) | replace A1 := Lib.hid (row_call hb3 (row_alloc (row_other1 (by omega) A1.out 1 _) _)) | replace A1 := Lib.hid (row_call hb3 (row_alloc (row_alloc (row_other1 (by omega) A1.out 1 _) _) _)) | replace A1 := Lib.hid (row_call hb3 (row_alloc (row_alloc (row_alloc (row_other1 (by omega) A1.out 1 _) _) _) _))
  first | replace Z1 := Lib.hid (row_call hb3 (row_other1 (by omega) Z1.out 1 _)) | replace Z1 := Lib.hid (row_call hb3 (row_alloc (row_other1 (by omega) Z1.out 1 _) _)) | replace Z1 := Lib.hid (row_call hb3 (row_alloc (row_alloc (row_other1 (by omega) Z1.out 1 _) _) _)) | replace Z1 := Lib.hid (row_call hb3 (row_alloc (row_alloc (row_alloc (row_other1 (by omega) Z1.out 1 _) _) _) _))
  first | replace M1 : Hid (V3.heap[w.heap.size + 1 + 1]? = some (.cells #[.int .i64 v1, .int .i64 v2, .int .i64 0] _ (0, 0))) := Lib.hid (row_call hb3 (row_set1 M1.out 1 _)) | replace M1 : Hid (V3.heap[w.heap.size + 1 + 1]? = some (.cells #[.int .i64 v1, .int .i64 v2, .int .i64 0] _ (0, 0))) := Lib.hid (row_call hb3 (row_alloc (row_set1 M1.out 1 _) _)) | replace M1 : Hid (V3.heap[w.heap.size + 1 + 1]? = some (.cells #[.int .i64 v1, .int .i64 v2, .int .i64 0] _ (0, 0))) := Lib.hid (row_call hb3 (row_alloc (row_alloc (row_set1 M1.out 1 _) _) _)) | replace M1 : Hid (V3.heap[w.heap.size + 1 + 1]? = some (.cells #[.int .i64 v1, .int .i64 v2, .int .i64 0] _ (0, 0))) := Lib.hid (row_call hb3 (row_alloc (row_alloc (row_alloc (row_set1 M1.out 1 _) _) _) _))
  clear hb3
  have A1_0 : V3.cell? ⟨w.heap.size, 0, none⟩ = some (.int .i64 a) := cell_of_row _ _ _ _ _ _ A1.out
  have A1_1 : V3.cell? ⟨w.heap.size, 1, none⟩ = some (.int .i64 b) := cell_of_row _ _ _ _ _ _ A1.out
  have A1_2 : V3.cell? ⟨w.heap.size, 2, none⟩ = some (.int .i64 c) := cell_of_row _ _ _ _ _ _ A1.out
  have Z1_0 : V3.cell? ⟨w.heap.size + 1, 0, none⟩ = some (.int .i64 0) := cell_of_row _ _ _ _ _ _ Z1.out
  have Z1_1 : V3.cell? ⟨w.heap.size + 1, 1, none⟩ = some (.int .i64 0) := cell_of_row _ _ _ _ _ _ Z1.out
  have Z1_2 : V3.cell? ⟨w.heap.size + 1, 2, none⟩ = some (.int .i64 0) := cell_of_row _ _ _ _ _ _ Z1.out
  have Z1_f0 : V3.frozen? ⟨w.heap.size + 1, 0, none⟩ = false := by simp [World.frozen?, Z1.out]
  have Z1_f1 : V3.frozen? ⟨w.heap.size + 1, 1, none⟩ = false := by simp [World.frozen?, Z1.out]
  have Z1_f2 : V3.frozen? ⟨w.heap.size + 1, 2, none⟩ = false := by simp [World.frozen?, Z1.out]
  have M1_0 : V3.cell? ⟨w.heap.size + 1 + 1, 0, none⟩ = some (.int .i64 v1) := cell_of_row _ _ _ _ _ _ M1.out
  have M1_1 : V3.cell? ⟨w.heap.size + 1 + 1, 1, none⟩ = some (.int .i64 v2) := cell_of_row _ _ _ _ _ _ M1.out
  have M1_2 : V3.cell? ⟨w.heap.size + 1 + 1, 2, none⟩ = some (.int .i64 0) := cell_of_row _ _ _ _ _ _ M1.out
  have M1_f0 : V3.frozen? ⟨w.heap.size + 1 + 1, 0, none⟩ = false := by simp [World.frozen?, M1.out]
  have M1_f1 : V3.frozen? ⟨w.heap.size + 1 + 1, 1, none⟩ = false := by simp [World.frozen?, M1.out]
  have M1_f2 : V3.frozen? ⟨w.heap.size + 1 + 1, 2, none⟩ = false := by simp [World.frozen?, M1.out]
  have zA1 := lt_of_heap A1.out
  have zZ1 := lt_of_heap Z1.out
  have zM1 := lt_of_heap M1.out
  go_simp
  go_wp2_with fail
  rw [rounds_succ]
  go_wp2
  refine shut_ret (v := .tuple #[.agg #[.int .i64 v1, .int .i64 v2, .int .i64 v3], .int .i64 0]) (by simp [results, Try.results24, go_sem, zZ1, Z1_0, Z1_1, Z1_2]) rfl ⟨rfl, ?_⟩
  exact keep3 (keep1 B3.out (by omega) _ _) (by omega) _ _ _
end Go.Proofs.Ythlbmeemdhofpaa
