/- The plain answers of layer 5: a number, an instant, a duration, rounded. -/
import Derived.Test.YtlfbiidnfheelaaRndF
namespace Go.Proofs.Ytlfbiidnfheelaa
set_option linter.unusedVariables false
set_option linter.unusedSimpArgs false
open Go.ChangeShapes Go.WideShapes Go.ChangeAt Go.RowKit

set_option maxHeartbeats 3200000 in
set_option maxRecDepth 100000 in
theorem rwerr1 (xh xl yh yl : Nat) (m c1 c2 : Int) (w : World)
    (H1 : Hid (∀ w, Calls Try.prog 15 #[.agg #[.int .u64 yh, .int .u64 yl], .agg #[.int .u64 0, .int .u64 1]] w fun e w' => e = .returned (.int .i64 c1) ∧ Below w.heap.size w w'))
    (H2 : Hid (∀ w, Calls Try.prog 23 #[.agg #[.int .u64 yh, .int .u64 yl], .agg #[.int .u64 65536, .int .u64 0]] w fun e w' => e = .returned (.int .i64 c2) ∧ Below w.heap.size w w'))
    (h1 : c1 < 0) :
    Calls Try.prog 9 #[.agg #[.int .u64 xh, .int .u64 xl], .agg #[.int .u64 yh, .int .u64 yl], .int .i64 m] w fun e w' => e = .returned (.tuple #[.agg #[.int .u64 0, .int .u64 0], .int .i64 5]) ∧ Below w.heap.size w w' := by
  go_enter Try.func9, Try.ntmps9
  refine wp_shut ?_
  go_wp2_with fail
  
  refine (H1.out _).mono ?_
  rintro e V1 ⟨rfl, hb1⟩
  have B1 := Lib.hid (((((Below.refl w.heap.size w).alloc (Nat.le_refl _) _).alloc (by simp <;> omega) _).alloc (by simp <;> omega) _).trans (hb1.mono (by first | assumption | (simp <;> omega) | (simp; done))))
  have N1 := Lib.hid (row_call hb1 (row_alloc (row_alloc (heap_alloc_new _ _) _) _))
  have U1 := Lib.hid (row_at (k' := w.heap.size + 1) (by simp) (row_call hb1 (row_alloc (heap_alloc_new _ _) _)))
  have Z1 := Lib.hid (row_at (k' := w.heap.size + 1 + 1) (by simp) (row_call hb1 (heap_alloc_new _ _)))
  clear hb1
  have N1_0 : V1.cell? ⟨w.heap.size, 0, none⟩ = some (.int .u64 xh) := cell_of_row _ _ _ _ _ _ N1.out
  have N1_1 : V1.cell? ⟨w.heap.size, 1, none⟩ = some (.int .u64 xl) := cell_of_row _ _ _ _ _ _ N1.out
  have U1_0 : V1.cell? ⟨w.heap.size + 1, 0, none⟩ = some (.int .u64 yh) := cell_of_row _ _ _ _ _ _ U1.out
  have U1_1 : V1.cell? ⟨w.heap.size + 1, 1, none⟩ = some (.int .u64 yl) := cell_of_row _ _ _ _ _ _ U1.out
  have Z1_0 : V1.cell? ⟨w.heap.size + 1 + 1, 0, none⟩ = some (.int .u64 0) := cell_of_row _ _ _ _ _ _ Z1.out
  have Z1_1 : V1.cell? ⟨w.heap.size + 1 + 1, 1, none⟩ = some (.int .u64 0) := cell_of_row _ _ _ _ _ _ Z1.out
  have Z1_f0 : V1.frozen? ⟨w.heap.size + 1 + 1, 0, none⟩ = false := by simp [World.frozen?, Z1.out]
  have Z1_f1 : V1.frozen? ⟨w.heap.size + 1 + 1, 1, none⟩ = false := by simp [World.frozen?, Z1.out]
  have zN1 := lt_of_heap N1.out
  have zU1 := lt_of_heap U1.out
  have zZ1 := lt_of_heap Z1.out
  go_simp
  go_wp2
  refine shut_ret (v := .tuple #[.agg #[.int .u64 0, .int .u64 0], .int .i64 5]) (by simp [results, Try.results9, go_sem, zZ1, Z1_0, Z1_1]) rfl ⟨rfl, ?_⟩
  exact keep2 B1.out (by omega) _ _
set_option maxHeartbeats 3200000 in
set_option maxRecDepth 100000 in
theorem rwerr2 (xh xl yh yl : Nat) (m c1 c2 : Int) (w : World)
    (H1 : Hid (∀ w, Calls Try.prog 15 #[.agg #[.int .u64 yh, .int .u64 yl], .agg #[.int .u64 0, .int .u64 1]] w fun e w' => e = .returned (.int .i64 c1) ∧ Below w.heap.size w w'))
    (H2 : Hid (∀ w, Calls Try.prog 23 #[.agg #[.int .u64 yh, .int .u64 yl], .agg #[.int .u64 65536, .int .u64 0]] w fun e w' => e = .returned (.int .i64 c2) ∧ Below w.heap.size w w'))
    (h1 : ¬ c1 < 0) (h2 : 0 < c2) :
    Calls Try.prog 9 #[.agg #[.int .u64 xh, .int .u64 xl], .agg #[.int .u64 yh, .int .u64 yl], .int .i64 m] w fun e w' => e = .returned (.tuple #[.agg #[.int .u64 0, .int .u64 0], .int .i64 5]) ∧ Below w.heap.size w w' := by
  go_enter Try.func9, Try.ntmps9
  refine wp_shut ?_
  go_wp2_with fail
  
  refine (H1.out _).mono ?_
  rintro e V1 ⟨rfl, hb1⟩
  have B1 := Lib.hid (((((Below.refl w.heap.size w).alloc (Nat.le_refl _) _).alloc (by simp <;> omega) _).alloc (by simp <;> omega) _).trans (hb1.mono (by first | assumption | (simp <;> omega) | (simp; done))))
  have N1 := Lib.hid (row_call hb1 (row_alloc (row_alloc (heap_alloc_new _ _) _) _))
  have U1 := Lib.hid (row_at (k' := w.heap.size + 1) (by simp) (row_call hb1 (row_alloc (heap_alloc_new _ _) _)))
  have Z1 := Lib.hid (row_at (k' := w.heap.size + 1 + 1) (by simp) (row_call hb1 (heap_alloc_new _ _)))
  clear hb1
  have N1_0 : V1.cell? ⟨w.heap.size, 0, none⟩ = some (.int .u64 xh) := cell_of_row _ _ _ _ _ _ N1.out
  have N1_1 : V1.cell? ⟨w.heap.size, 1, none⟩ = some (.int .u64 xl) := cell_of_row _ _ _ _ _ _ N1.out
  have U1_0 : V1.cell? ⟨w.heap.size + 1, 0, none⟩ = some (.int .u64 yh) := cell_of_row _ _ _ _ _ _ U1.out
  have U1_1 : V1.cell? ⟨w.heap.size + 1, 1, none⟩ = some (.int .u64 yl) := cell_of_row _ _ _ _ _ _ U1.out
  have Z1_0 : V1.cell? ⟨w.heap.size + 1 + 1, 0, none⟩ = some (.int .u64 0) := cell_of_row _ _ _ _ _ _ Z1.out
  have Z1_1 : V1.cell? ⟨w.heap.size + 1 + 1, 1, none⟩ = some (.int .u64 0) := cell_of_row _ _ _ _ _ _ Z1.out
  have Z1_f0 : V1.frozen? ⟨w.heap.size + 1 + 1, 0, none⟩ = false := by simp [World.frozen?, Z1.out]
  have Z1_f1 : V1.frozen? ⟨w.heap.size + 1 + 1, 1, none⟩ = false := by simp [World.frozen?, Z1.out]
  have zN1 := lt_of_heap N1.out
  have zU1 := lt_of_heap U1.out
  have zZ1 := lt_of_heap Z1.out
  go_simp
  go_wp2_with fail
  refine (H2.out _).mono ?_
  rintro e V2 ⟨rfl, hb2⟩
  clear N1_0 N1_1 zN1 U1_0 U1_1 zU1 Z1_0 Z1_1 Z1_f0 Z1_f1 zZ1
  have B2 : Hid (Below w.heap.size w V2) := by first | exact Lib.hid ((B1.out).trans (hb2.mono (by have := B1.out.size; first | assumption | (simp <;> omega) | (simp; done)))) | exact Lib.hid (((B1.out).alloc (B1.out.size) _).trans (hb2.mono (by have := B1.out.size; first | assumption | (simp <;> omega) | (simp; done)))) | exact Lib.hid ((((B1.out).alloc (B1.out.size) _).alloc (by have := B1.out.size; simp <;> omega) _).trans (hb2.mono (by have := B1.out.size; first | assumption | (simp <;> omega) | (simp; done)))) | exact Lib.hid (((((B1.out).alloc (B1.out.size) _).alloc (by have := B1.out.size; simp <;> omega) _).alloc (by have := B1.out.size; simp <;> omega) _).trans (hb2.mono (by have := B1.out.size; first | assumption | (simp <;> omega) | (simp; done))))
  first | replace N1 := Lib.hid (row_call hb2 N1.out) | replace N1 := Lib.hid (row_call hb2 (row_alloc N1.out _)) | replace N1 := Lib.hid (row_call hb2 (row_alloc (row_alloc N1.out _) _)) | replace N1 := Lib.hid (row_call hb2 (row_alloc (row_alloc (row_alloc N1.out _) _) _))
  first | replace U1 := Lib.hid (row_call hb2 U1.out) | replace U1 := Lib.hid (row_call hb2 (row_alloc U1.out _)) | replace U1 := Lib.hid (row_call hb2 (row_alloc (row_alloc U1.out _) _)) | replace U1 := Lib.hid (row_call hb2 (row_alloc (row_alloc (row_alloc U1.out _) _) _))
  first | replace Z1 := Lib.hid (row_call hb2 Z1.out) | replace Z1 := Lib.hid (row_call hb2 (row_alloc Z1.out _)) | replace Z1 := Lib.hid (row_call hb2 (row_alloc (row_alloc Z1.out _) _)) | replace Z1 := Lib.hid (row_call hb2 (row_alloc (row_alloc (row_alloc Z1.out _) _) _))
  clear hb2
  have N1_0 : V2.cell? ⟨w.heap.size, 0, none⟩ = some (.int .u64 xh) := cell_of_row _ _ _ _ _ _ N1.out
  have N1_1 : V2.cell? ⟨w.heap.size, 1, none⟩ = some (.int .u64 xl) := cell_of_row _ _ _ _ _ _ N1.out
  have U1_0 : V2.cell? ⟨w.heap.size + 1, 0, none⟩ = some (.int .u64 yh) := cell_of_row _ _ _ _ _ _ U1.out
  have U1_1 : V2.cell? ⟨w.heap.size + 1, 1, none⟩ = some (.int .u64 yl) := cell_of_row _ _ _ _ _ _ U1.out
  have Z1_0 : V2.cell? ⟨w.heap.size + 1 + 1, 0, none⟩ = some (.int .u64 0) := cell_of_row _ _ _ _ _ _ Z1.out
  have Z1_1 : V2.cell? ⟨w.heap.size + 1 + 1, 1, none⟩ = some (.int .u64 0) := cell_of_row _ _ _ _ _ _ Z1.out
  have Z1_f0 : V2.frozen? ⟨w.heap.size + 1 + 1, 0, none⟩ = false := by simp [World.frozen?, Z1.out]
  have Z1_f1 : V2.frozen? ⟨w.heap.size + 1 + 1, 1, none⟩ = false := by simp [World.frozen?, Z1.out]
  have zN1 := lt_of_heap N1.out
  have zU1 := lt_of_heap U1.out
  have zZ1 := lt_of_heap Z1.out
  go_simp
  go_wp2
  refine shut_ret (v := .tuple #[.agg #[.int .u64 0, .int .u64 0], .int .i64 5]) (by simp [results, Try.results9, go_sem, zZ1, Z1_0, Z1_1]) rfl ⟨rfl, ?_⟩
  exact keep2 B2.out (by omega) _ _
set_option maxHeartbeats 3200000 in
set_option maxRecDepth 100000 in
theorem rwerr3 (xh xl yh yl : Nat) (m c1 c2 : Int) (w : World)
    (H1 : Hid (∀ w, Calls Try.prog 15 #[.agg #[.int .u64 yh, .int .u64 yl], .agg #[.int .u64 0, .int .u64 1]] w fun e w' => e = .returned (.int .i64 c1) ∧ Below w.heap.size w w'))
    (H2 : Hid (∀ w, Calls Try.prog 23 #[.agg #[.int .u64 yh, .int .u64 yl], .agg #[.int .u64 65536, .int .u64 0]] w fun e w' => e = .returned (.int .i64 c2) ∧ Below w.heap.size w w'))
    (H3 : Hid (∀ w, Calls Try.prog 24 #[.agg #[.int .u64 xh, .int .u64 xl]] w fun e w' => e = .returned (.bool true) ∧ Below w.heap.size w w'))
    (h1 : ¬ c1 < 0) (h2 : ¬ 0 < c2) :
    Calls Try.prog 9 #[.agg #[.int .u64 xh, .int .u64 xl], .agg #[.int .u64 yh, .int .u64 yl], .int .i64 m] w fun e w' => e = .returned (.tuple #[.agg #[.int .u64 0, .int .u64 0], .int .i64 5]) ∧ Below w.heap.size w w' := by
  go_enter Try.func9, Try.ntmps9
  refine wp_shut ?_
  go_wp2_with fail
  
  refine (H1.out _).mono ?_
  rintro e V1 ⟨rfl, hb1⟩
  have B1 := Lib.hid (((((Below.refl w.heap.size w).alloc (Nat.le_refl _) _).alloc (by simp <;> omega) _).alloc (by simp <;> omega) _).trans (hb1.mono (by first | assumption | (simp <;> omega) | (simp; done))))
  have N1 := Lib.hid (row_call hb1 (row_alloc (row_alloc (heap_alloc_new _ _) _) _))
  have U1 := Lib.hid (row_at (k' := w.heap.size + 1) (by simp) (row_call hb1 (row_alloc (heap_alloc_new _ _) _)))
  have Z1 := Lib.hid (row_at (k' := w.heap.size + 1 + 1) (by simp) (row_call hb1 (heap_alloc_new _ _)))
  clear hb1
  have N1_0 : V1.cell? ⟨w.heap.size, 0, none⟩ = some (.int .u64 xh) := cell_of_row _ _ _ _ _ _ N1.out
  have N1_1 : V1.cell? ⟨w.heap.size, 1, none⟩ = some (.int .u64 xl) := cell_of_row _ _ _ _ _ _ N1.out
  have U1_0 : V1.cell? ⟨w.heap.size + 1, 0, none⟩ = some (.int .u64 yh) := cell_of_row _ _ _ _ _ _ U1.out
  have U1_1 : V1.cell? ⟨w.heap.size + 1, 1, none⟩ = some (.int .u64 yl) := cell_of_row _ _ _ _ _ _ U1.out
  have Z1_0 : V1.cell? ⟨w.heap.size + 1 + 1, 0, none⟩ = some (.int .u64 0) := cell_of_row _ _ _ _ _ _ Z1.out
  have Z1_1 : V1.cell? ⟨w.heap.size + 1 + 1, 1, none⟩ = some (.int .u64 0) := cell_of_row _ _ _ _ _ _ Z1.out
  have Z1_f0 : V1.frozen? ⟨w.heap.size + 1 + 1, 0, none⟩ = false := by simp [World.frozen?, Z1.out]
  have Z1_f1 : V1.frozen? ⟨w.heap.size + 1 + 1, 1, none⟩ = false := by simp [World.frozen?, Z1.out]
  have zN1 := lt_of_heap N1.out
  have zU1 := lt_of_heap U1.out
  have zZ1 := lt_of_heap Z1.out
  go_simp
  go_wp2_with fail
  refine (H2.out _).mono ?_
  rintro e V2 ⟨rfl, hb2⟩
  clear N1_0 N1_1 zN1 U1_0 U1_1 zU1 Z1_0 Z1_1 Z1_f0 Z1_f1 zZ1
  have B2 : Hid (Below w.heap.size w V2) := by first | exact Lib.hid ((B1.out).trans (hb2.mono (by have := B1.out.size; first | assumption | (simp <;> omega) | (simp; done)))) | exact Lib.hid (((B1.out).alloc (B1.out.size) _).trans (hb2.mono (by have := B1.out.size; first | assumption | (simp <;> omega) | (simp; done)))) | exact Lib.hid ((((B1.out).alloc (B1.out.size) _).alloc (by have := B1.out.size; simp <;> omega) _).trans (hb2.mono (by have := B1.out.size; first | assumption | (simp <;> omega) | (simp; done)))) | exact Lib.hid (((((B1.out).alloc (B1.out.size) _).alloc (by have := B1.out.size; simp <;> omega) _).alloc (by have := B1.out.size; simp <;> omega) _).trans (hb2.mono (by have := B1.out.size; first | assumption | (simp <;> omega) | (simp; done))))
  first | replace N1 := Lib.hid (row_call hb2 N1.out) | replace N1 := Lib.hid (row_call hb2 (row_alloc N1.out _)) | replace N1 := Lib.hid (row_call hb2 (row_alloc (row_alloc N1.out _) _)) | replace N1 := Lib.hid (row_call hb2 (row_alloc (row_alloc (row_alloc N1.out _) _) _))
  first | replace U1 := Lib.hid (row_call hb2 U1.out) | replace U1 := Lib.hid (row_call hb2 (row_alloc U1.out _)) | replace U1 := Lib.hid (row_call hb2 (row_alloc (row_alloc U1.out _) _)) | replace U1 := Lib.hid (row_call hb2 (row_alloc (row_alloc (row_alloc U1.out _) _) _))
  first | replace Z1 := Lib.hid (row_call hb2 Z1.out) | replace Z1 := Lib.hid (row_call hb2 (row_alloc Z1.out _)) | replace Z1 := Lib.hid (row_call hb2 (row_alloc (row_alloc Z1.out _) _)) | replace Z1 := Lib.hid (row_call hb2 (row_alloc (row_alloc (row_alloc Z1.out _) _) _))
  clear hb2
  have N1_0 : V2.cell? ⟨w.heap.size, 0, none⟩ = some (.int .u64 xh) := cell_of_row _ _ _ _ _ _ N1.out
  have N1_1 : V2.cell? ⟨w.heap.size, 1, none⟩ = some (.int .u64 xl) := cell_of_row _ _ _ _ _ _ N1.out
  have U1_0 : V2.cell? ⟨w.heap.size + 1, 0, none⟩ = some (.int .u64 yh) := cell_of_row _ _ _ _ _ _ U1.out
  have U1_1 : V2.cell? ⟨w.heap.size + 1, 1, none⟩ = some (.int .u64 yl) := cell_of_row _ _ _ _ _ _ U1.out
  have Z1_0 : V2.cell? ⟨w.heap.size + 1 + 1, 0, none⟩ = some (.int .u64 0) := cell_of_row _ _ _ _ _ _ Z1.out
  have Z1_1 : V2.cell? ⟨w.heap.size + 1 + 1, 1, none⟩ = some (.int .u64 0) := cell_of_row _ _ _ _ _ _ Z1.out
  have Z1_f0 : V2.frozen? ⟨w.heap.size + 1 + 1, 0, none⟩ = false := by simp [World.frozen?, Z1.out]
  have Z1_f1 : V2.frozen? ⟨w.heap.size + 1 + 1, 1, none⟩ = false := by simp [World.frozen?, Z1.out]
  have zN1 := lt_of_heap N1.out
  have zU1 := lt_of_heap U1.out
  have zZ1 := lt_of_heap Z1.out
  go_simp
  go_wp2_with fail
  refine (H3.out _).mono ?_
  rintro e V3 ⟨rfl, hb3⟩
  clear N1_0 N1_1 zN1 U1_0 U1_1 zU1 Z1_0 Z1_1 Z1_f0 Z1_f1 zZ1
  have B3 : Hid (Below w.heap.size w V3) := by first | exact Lib.hid ((B2.out).trans (hb3.mono (by have := B2.out.size; first | assumption | (simp <;> omega) | (simp; done)))) | exact Lib.hid (((B2.out).alloc (B2.out.size) _).trans (hb3.mono (by have := B2.out.size; first | assumption | (simp <;> omega) | (simp; done)))) | exact Lib.hid ((((B2.out).alloc (B2.out.size) _).alloc (by have := B2.out.size; simp <;> omega) _).trans (hb3.mono (by have := B2.out.size; first | assumption | (simp <;> omega) | (simp; done)))) | exact Lib.hid (((((B2.out).alloc (B2.out.size) _).alloc (by have := B2.out.size; simp <;> omega) _).alloc (by have := B2.out.size; simp <;> omega) _).trans (hb3.mono (by have := B2.out.size; first | assumption | (simp <;> omega) | (simp; done))))
  first | replace N1 := Lib.hid (row_call hb3 N1.out) | replace N1 := Lib.hid (row_call hb3 (row_alloc N1.out _)) | replace N1 := Lib.hid (row_call hb3 (row_alloc (row_alloc N1.out _) _)) | replace N1 := Lib.hid (row_call hb3 (row_alloc (row_alloc (row_alloc N1.out _) _) _))
  first | replace U1 := Lib.hid (row_call hb3 U1.out) | replace U1 := Lib.hid (row_call hb3 (row_alloc U1.out _)) | replace U1 := Lib.hid (row_call hb3 (row_alloc (row_alloc U1.out _) _)) | replace U1 := Lib.hid (row_call hb3 (row_alloc (row_alloc (row_alloc U1.out _) _) _))
  first | replace Z1 := Lib.hid (row_call hb3 Z1.out) | replace Z1 := Lib.hid (row_call hb3 (row_alloc Z1.out _)) | replace Z1 := Lib.hid (row_call hb3 (row_alloc (row_alloc Z1.out _) _)) | replace Z1 := Lib.hid (row_call hb3 (row_alloc (row_alloc (row_alloc Z1.out _) _) _))
  clear hb3
  have N1_0 : V3.cell? ⟨w.heap.size, 0, none⟩ = some (.int .u64 xh) := cell_of_row _ _ _ _ _ _ N1.out
  have N1_1 : V3.cell? ⟨w.heap.size, 1, none⟩ = some (.int .u64 xl) := cell_of_row _ _ _ _ _ _ N1.out
  have U1_0 : V3.cell? ⟨w.heap.size + 1, 0, none⟩ = some (.int .u64 yh) := cell_of_row _ _ _ _ _ _ U1.out
  have U1_1 : V3.cell? ⟨w.heap.size + 1, 1, none⟩ = some (.int .u64 yl) := cell_of_row _ _ _ _ _ _ U1.out
  have Z1_0 : V3.cell? ⟨w.heap.size + 1 + 1, 0, none⟩ = some (.int .u64 0) := cell_of_row _ _ _ _ _ _ Z1.out
  have Z1_1 : V3.cell? ⟨w.heap.size + 1 + 1, 1, none⟩ = some (.int .u64 0) := cell_of_row _ _ _ _ _ _ Z1.out
  have Z1_f0 : V3.frozen? ⟨w.heap.size + 1 + 1, 0, none⟩ = false := by simp [World.frozen?, Z1.out]
  have Z1_f1 : V3.frozen? ⟨w.heap.size + 1 + 1, 1, none⟩ = false := by simp [World.frozen?, Z1.out]
  have zN1 := lt_of_heap N1.out
  have zU1 := lt_of_heap U1.out
  have zZ1 := lt_of_heap Z1.out
  go_simp
  go_wp2
  refine shut_ret (v := .tuple #[.agg #[.int .u64 0, .int .u64 0], .int .i64 5]) (by simp [results, Try.results9, go_sem, zZ1, Z1_0, Z1_1]) rfl ⟨rfl, ?_⟩
  exact keep2 B3.out (by omega) _ _
set_option maxHeartbeats 3200000 in
set_option maxRecDepth 100000 in
theorem rwerr4 (xh xl yh yl : Nat) (m c1 c2 : Int) (w : World)
    (H1 : Hid (∀ w, Calls Try.prog 15 #[.agg #[.int .u64 yh, .int .u64 yl], .agg #[.int .u64 0, .int .u64 1]] w fun e w' => e = .returned (.int .i64 c1) ∧ Below w.heap.size w w'))
    (H2 : Hid (∀ w, Calls Try.prog 23 #[.agg #[.int .u64 yh, .int .u64 yl], .agg #[.int .u64 65536, .int .u64 0]] w fun e w' => e = .returned (.int .i64 c2) ∧ Below w.heap.size w w'))
    (H3 : Hid (∀ w, Calls Try.prog 24 #[.agg #[.int .u64 xh, .int .u64 xl]] w fun e w' => e = .returned (.bool false) ∧ Below w.heap.size w w'))
    (h1 : ¬ c1 < 0) (h2 : ¬ 0 < c2) (h3 : m < 0) :
    Calls Try.prog 9 #[.agg #[.int .u64 xh, .int .u64 xl], .agg #[.int .u64 yh, .int .u64 yl], .int .i64 m] w fun e w' => e = .returned (.tuple #[.agg #[.int .u64 0, .int .u64 0], .int .i64 5]) ∧ Below w.heap.size w w' := by
  go_enter Try.func9, Try.ntmps9
  refine wp_shut ?_
  go_wp2_with fail
  
  refine (H1.out _).mono ?_
  rintro e V1 ⟨rfl, hb1⟩
  have B1 := Lib.hid (((((Below.refl w.heap.size w).alloc (Nat.le_refl _) _).alloc (by simp <;> omega) _).alloc (by simp <;> omega) _).trans (hb1.mono (by first | assumption | (simp <;> omega) | (simp; done))))
  have N1 := Lib.hid (row_call hb1 (row_alloc (row_alloc (heap_alloc_new _ _) _) _))
  have U1 := Lib.hid (row_at (k' := w.heap.size + 1) (by simp) (row_call hb1 (row_alloc (heap_alloc_new _ _) _)))
  have Z1 := Lib.hid (row_at (k' := w.heap.size + 1 + 1) (by simp) (row_call hb1 (heap_alloc_new _ _)))
  clear hb1
  have N1_0 : V1.cell? ⟨w.heap.size, 0, none⟩ = some (.int .u64 xh) := cell_of_row _ _ _ _ _ _ N1.out
  have N1_1 : V1.cell? ⟨w.heap.size, 1, none⟩ = some (.int .u64 xl) := cell_of_row _ _ _ _ _ _ N1.out
  have U1_0 : V1.cell? ⟨w.heap.size + 1, 0, none⟩ = some (.int .u64 yh) := cell_of_row _ _ _ _ _ _ U1.out
  have U1_1 : V1.cell? ⟨w.heap.size + 1, 1, none⟩ = some (.int .u64 yl) := cell_of_row _ _ _ _ _ _ U1.out
  have Z1_0 : V1.cell? ⟨w.heap.size + 1 + 1, 0, none⟩ = some (.int .u64 0) := cell_of_row _ _ _ _ _ _ Z1.out
  have Z1_1 : V1.cell? ⟨w.heap.size + 1 + 1, 1, none⟩ = some (.int .u64 0) := cell_of_row _ _ _ _ _ _ Z1.out
  have Z1_f0 : V1.frozen? ⟨w.heap.size + 1 + 1, 0, none⟩ = false := by simp [World.frozen?, Z1.out]
  have Z1_f1 : V1.frozen? ⟨w.heap.size + 1 + 1, 1, none⟩ = false := by simp [World.frozen?, Z1.out]
  have zN1 := lt_of_heap N1.out
  have zU1 := lt_of_heap U1.out
  have zZ1 := lt_of_heap Z1.out
  go_simp
  go_wp2_with fail
  refine (H2.out _).mono ?_
  rintro e V2 ⟨rfl, hb2⟩
  clear N1_0 N1_1 zN1 U1_0 U1_1 zU1 Z1_0 Z1_1 Z1_f0 Z1_f1 zZ1
  have B2 : Hid (Below w.heap.size w V2) := by first | exact Lib.hid ((B1.out).trans (hb2.mono (by have := B1.out.size; first | assumption | (simp <;> omega) | (simp; done)))) | exact Lib.hid (((B1.out).alloc (B1.out.size) _).trans (hb2.mono (by have := B1.out.size; first | assumption | (simp <;> omega) | (simp; done)))) | exact Lib.hid ((((B1.out).alloc (B1.out.size) _).alloc (by have := B1.out.size; simp <;> omega) _).trans (hb2.mono (by have := B1.out.size; first | assumption | (simp <;> omega) | (simp; done)))) | exact Lib.hid (((((B1.out).alloc (B1.out.size) _).alloc (by have := B1.out.size; simp <;> omega) _).alloc (by have := B1.out.size; simp <;> omega) _).trans (hb2.mono (by have := B1.out.size; first | assumption | (simp <;> omega) | (simp; done))))
  first | replace N1 := Lib.hid (row_call hb2 N1.out) | replace N1 := Lib.hid (row_call hb2 (row_alloc N1.out _)) | replace N1 := Lib.hid (row_call hb2 (row_alloc (row_alloc N1.out _) _)) | replace N1 := Lib.hid (row_call hb2 (row_alloc (row_alloc (row_alloc N1.out _) _) _))
  first | replace U1 := Lib.hid (row_call hb2 U1.out) | replace U1 := Lib.hid (row_call hb2 (row_alloc U1.out _)) | replace U1 := Lib.hid (row_call hb2 (row_alloc (row_alloc U1.out _) _)) | replace U1 := Lib.hid (row_call hb2 (row_alloc (row_alloc (row_alloc U1.out _) _) _))
  first | replace Z1 := Lib.hid (row_call hb2 Z1.out) | replace Z1 := Lib.hid (row_call hb2 (row_alloc Z1.out _)) | replace Z1 := Lib.hid (row_call hb2 (row_alloc (row_alloc Z1.out _) _)) | replace Z1 := Lib.hid (row_call hb2 (row_alloc (row_alloc (row_alloc Z1.out _) _) _))
  clear hb2
  have N1_0 : V2.cell? ⟨w.heap.size, 0, none⟩ = some (.int .u64 xh) := cell_of_row _ _ _ _ _ _ N1.out
  have N1_1 : V2.cell? ⟨w.heap.size, 1, none⟩ = some (.int .u64 xl) := cell_of_row _ _ _ _ _ _ N1.out
  have U1_0 : V2.cell? ⟨w.heap.size + 1, 0, none⟩ = some (.int .u64 yh) := cell_of_row _ _ _ _ _ _ U1.out
  have U1_1 : V2.cell? ⟨w.heap.size + 1, 1, none⟩ = some (.int .u64 yl) := cell_of_row _ _ _ _ _ _ U1.out
  have Z1_0 : V2.cell? ⟨w.heap.size + 1 + 1, 0, none⟩ = some (.int .u64 0) := cell_of_row _ _ _ _ _ _ Z1.out
  have Z1_1 : V2.cell? ⟨w.heap.size + 1 + 1, 1, none⟩ = some (.int .u64 0) := cell_of_row _ _ _ _ _ _ Z1.out
  have Z1_f0 : V2.frozen? ⟨w.heap.size + 1 + 1, 0, none⟩ = false := by simp [World.frozen?, Z1.out]
  have Z1_f1 : V2.frozen? ⟨w.heap.size + 1 + 1, 1, none⟩ = false := by simp [World.frozen?, Z1.out]
  have zN1 := lt_of_heap N1.out
  have zU1 := lt_of_heap U1.out
  have zZ1 := lt_of_heap Z1.out
  go_simp
  go_wp2_with fail
  refine (H3.out _).mono ?_
  rintro e V3 ⟨rfl, hb3⟩
  clear N1_0 N1_1 zN1 U1_0 U1_1 zU1 Z1_0 Z1_1 Z1_f0 Z1_f1 zZ1
  have B3 : Hid (Below w.heap.size w V3) := by first | exact Lib.hid ((B2.out).trans (hb3.mono (by have := B2.out.size; first | assumption | (simp <;> omega) | (simp; done)))) | exact Lib.hid (((B2.out).alloc (B2.out.size) _).trans (hb3.mono (by have := B2.out.size; first | assumption | (simp <;> omega) | (simp; done)))) | exact Lib.hid ((((B2.out).alloc (B2.out.size) _).alloc (by have := B2.out.size; simp <;> omega) _).trans (hb3.mono (by have := B2.out.size; first | assumption | (simp <;> omega) | (simp; done)))) | exact Lib.hid (((((B2.out).alloc (B2.out.size) _).alloc (by have := B2.out.size; simp <;> omega) _).alloc (by have := B2.out.size; simp <;> omega) _).trans (hb3.mono (by have := B2.out.size; first | assumption | (simp <;> omega) | (simp; done))))
  first | replace N1 := Lib.hid (row_call hb3 N1.out) | replace N1 := Lib.hid (row_call hb3 (row_alloc N1.out _)) | replace N1 := Lib.hid (row_call hb3 (row_alloc (row_alloc N1.out _) _)) | replace N1 := Lib.hid (row_call hb3 (row_alloc (row_alloc (row_alloc N1.out _) _) _))
  first | replace U1 := Lib.hid (row_call hb3 U1.out) | replace U1 := Lib.hid (row_call hb3 (row_alloc U1.out _)) | replace U1 := Lib.hid (row_call hb3 (row_alloc (row_alloc U1.out _) _)) | replace U1 := Lib.hid (row_call hb3 (row_alloc (row_alloc (row_alloc U1.out _) _) _))
  first | replace Z1 := Lib.hid (row_call hb3 Z1.out) | replace Z1 := Lib.hid (row_call hb3 (row_alloc Z1.out _)) | replace Z1 := Lib.hid (row_call hb3 (row_alloc (row_alloc Z1.out _) _)) | replace Z1 := Lib.hid (row_call hb3 (row_alloc (row_alloc (row_alloc Z1.out _) _) _))
  clear hb3
  have N1_0 : V3.cell? ⟨w.heap.size, 0, none⟩ = some (.int .u64 xh) := cell_of_row _ _ _ _ _ _ N1.out
  have N1_1 : V3.cell? ⟨w.heap.size, 1, none⟩ = some (.int .u64 xl) := cell_of_row _ _ _ _ _ _ N1.out
  have U1_0 : V3.cell? ⟨w.heap.size + 1, 0, none⟩ = some (.int .u64 yh) := cell_of_row _ _ _ _ _ _ U1.out
  have U1_1 : V3.cell? ⟨w.heap.size + 1, 1, none⟩ = some (.int .u64 yl) := cell_of_row _ _ _ _ _ _ U1.out
  have Z1_0 : V3.cell? ⟨w.heap.size + 1 + 1, 0, none⟩ = some (.int .u64 0) := cell_of_row _ _ _ _ _ _ Z1.out
  have Z1_1 : V3.cell? ⟨w.heap.size + 1 + 1, 1, none⟩ = some (.int .u64 0) := cell_of_row _ _ _ _ _ _ Z1.out
  have Z1_f0 : V3.frozen? ⟨w.heap.size + 1 + 1, 0, none⟩ = false := by simp [World.frozen?, Z1.out]
  have Z1_f1 : V3.frozen? ⟨w.heap.size + 1 + 1, 1, none⟩ = false := by simp [World.frozen?, Z1.out]
  have zN1 := lt_of_heap N1.out
  have zU1 := lt_of_heap U1.out
  have zZ1 := lt_of_heap Z1.out
  go_simp
  go_wp2
  refine shut_ret (v := .tuple #[.agg #[.int .u64 0, .int .u64 0], .int .i64 5]) (by simp [results, Try.results9, go_sem, zZ1, Z1_0, Z1_1]) rfl ⟨rfl, ?_⟩
  exact keep2 B3.out (by omega) _ _
set_option maxHeartbeats 3200000 in
set_option maxRecDepth 100000 in
theorem rwerr5 (xh xl yh yl : Nat) (m c1 c2 : Int) (w : World)
    (H1 : Hid (∀ w, Calls Try.prog 15 #[.agg #[.int .u64 yh, .int .u64 yl], .agg #[.int .u64 0, .int .u64 1]] w fun e w' => e = .returned (.int .i64 c1) ∧ Below w.heap.size w w'))
    (H2 : Hid (∀ w, Calls Try.prog 23 #[.agg #[.int .u64 yh, .int .u64 yl], .agg #[.int .u64 65536, .int .u64 0]] w fun e w' => e = .returned (.int .i64 c2) ∧ Below w.heap.size w w'))
    (H3 : Hid (∀ w, Calls Try.prog 24 #[.agg #[.int .u64 xh, .int .u64 xl]] w fun e w' => e = .returned (.bool false) ∧ Below w.heap.size w w'))
    (h1 : ¬ c1 < 0) (h2 : ¬ 0 < c2) (h3 : ¬ m < 0) (h4 : (8 : Int) < m) :
    Calls Try.prog 9 #[.agg #[.int .u64 xh, .int .u64 xl], .agg #[.int .u64 yh, .int .u64 yl], .int .i64 m] w fun e w' => e = .returned (.tuple #[.agg #[.int .u64 0, .int .u64 0], .int .i64 5]) ∧ Below w.heap.size w w' := by
  go_enter Try.func9, Try.ntmps9
  refine wp_shut ?_
  go_wp2_with fail
  
  refine (H1.out _).mono ?_
  rintro e V1 ⟨rfl, hb1⟩
  have B1 := Lib.hid (((((Below.refl w.heap.size w).alloc (Nat.le_refl _) _).alloc (by simp <;> omega) _).alloc (by simp <;> omega) _).trans (hb1.mono (by first | assumption | (simp <;> omega) | (simp; done))))
  have N1 := Lib.hid (row_call hb1 (row_alloc (row_alloc (heap_alloc_new _ _) _) _))
  have U1 := Lib.hid (row_at (k' := w.heap.size + 1) (by simp) (row_call hb1 (row_alloc (heap_alloc_new _ _) _)))
  have Z1 := Lib.hid (row_at (k' := w.heap.size + 1 + 1) (by simp) (row_call hb1 (heap_alloc_new _ _)))
  clear hb1
  have N1_0 : V1.cell? ⟨w.heap.size, 0, none⟩ = some (.int .u64 xh) := cell_of_row _ _ _ _ _ _ N1.out
  have N1_1 : V1.cell? ⟨w.heap.size, 1, none⟩ = some (.int .u64 xl) := cell_of_row _ _ _ _ _ _ N1.out
  have U1_0 : V1.cell? ⟨w.heap.size + 1, 0, none⟩ = some (.int .u64 yh) := cell_of_row _ _ _ _ _ _ U1.out
  have U1_1 : V1.cell? ⟨w.heap.size + 1, 1, none⟩ = some (.int .u64 yl) := cell_of_row _ _ _ _ _ _ U1.out
  have Z1_0 : V1.cell? ⟨w.heap.size + 1 + 1, 0, none⟩ = some (.int .u64 0) := cell_of_row _ _ _ _ _ _ Z1.out
  have Z1_1 : V1.cell? ⟨w.heap.size + 1 + 1, 1, none⟩ = some (.int .u64 0) := cell_of_row _ _ _ _ _ _ Z1.out
  have Z1_f0 : V1.frozen? ⟨w.heap.size + 1 + 1, 0, none⟩ = false := by simp [World.frozen?, Z1.out]
  have Z1_f1 : V1.frozen? ⟨w.heap.size + 1 + 1, 1, none⟩ = false := by simp [World.frozen?, Z1.out]
  have zN1 := lt_of_heap N1.out
  have zU1 := lt_of_heap U1.out
  have zZ1 := lt_of_heap Z1.out
  go_simp
  go_wp2_with fail
  refine (H2.out _).mono ?_
  rintro e V2 ⟨rfl, hb2⟩
  clear N1_0 N1_1 zN1 U1_0 U1_1 zU1 Z1_0 Z1_1 Z1_f0 Z1_f1 zZ1
  have B2 : Hid (Below w.heap.size w V2) := by first | exact Lib.hid ((B1.out).trans (hb2.mono (by have := B1.out.size; first | assumption | (simp <;> omega) | (simp; done)))) | exact Lib.hid (((B1.out).alloc (B1.out.size) _).trans (hb2.mono (by have := B1.out.size; first | assumption | (simp <;> omega) | (simp; done)))) | exact Lib.hid ((((B1.out).alloc (B1.out.size) _).alloc (by have := B1.out.size; simp <;> omega) _).trans (hb2.mono (by have := B1.out.size; first | assumption | (simp <;> omega) | (simp; done)))) | exact Lib.hid (((((B1.out).alloc (B1.out.size) _).alloc (by have := B1.out.size; simp <;> omega) _).alloc (by have := B1.out.size; simp <;> omega) _).trans (hb2.mono (by have := B1.out.size; first | assumption | (simp <;> omega) | (simp; done))))
  first | replace N1 := Lib.hid (row_call hb2 N1.out) | replace N1 := Lib.hid (row_call hb2 (row_alloc N1.out _)) | replace N1 := Lib.hid (row_call hb2 (row_alloc (row_alloc N1.out _) _)) | replace N1 := Lib.hid (row_call hb2 (row_alloc (row_alloc (row_alloc N1.out _) _) _))
  first | replace U1 := Lib.hid (row_call hb2 U1.out) | replace U1 := Lib.hid (row_call hb2 (row_alloc U1.out _)) | replace U1 := Lib.hid (row_call hb2 (row_alloc (row_alloc U1.out _) _)) | replace U1 := Lib.hid (row_call hb2 (row_alloc (row_alloc (row_alloc U1.out _) _) _))
  first | replace Z1 := Lib.hid (row_call hb2 Z1.out) | replace Z1 := Lib.hid (row_call hb2 (row_alloc Z1.out _)) | replace Z1 := Lib.hid (row_call hb2 (row_alloc (row_alloc Z1.out _) _)) | replace Z1 := Lib.hid (row_call hb2 (row_alloc (row_alloc (row_alloc Z1.out _) _) _))
  clear hb2
  have N1_0 : V2.cell? ⟨w.heap.size, 0, none⟩ = some (.int .u64 xh) := cell_of_row _ _ _ _ _ _ N1.out
  have N1_1 : V2.cell? ⟨w.heap.size, 1, none⟩ = some (.int .u64 xl) := cell_of_row _ _ _ _ _ _ N1.out
  have U1_0 : V2.cell? ⟨w.heap.size + 1, 0, none⟩ = some (.int .u64 yh) := cell_of_row _ _ _ _ _ _ U1.out
  have U1_1 : V2.cell? ⟨w.heap.size + 1, 1, none⟩ = some (.int .u64 yl) := cell_of_row _ _ _ _ _ _ U1.out
  have Z1_0 : V2.cell? ⟨w.heap.size + 1 + 1, 0, none⟩ = some (.int .u64 0) := cell_of_row _ _ _ _ _ _ Z1.out
  have Z1_1 : V2.cell? ⟨w.heap.size + 1 + 1, 1, none⟩ = some (.int .u64 0) := cell_of_row _ _ _ _ _ _ Z1.out
  have Z1_f0 : V2.frozen? ⟨w.heap.size + 1 + 1, 0, none⟩ = false := by simp [World.frozen?, Z1.out]
  have Z1_f1 : V2.frozen? ⟨w.heap.size + 1 + 1, 1, none⟩ = false := by simp [World.frozen?, Z1.out]
  have zN1 := lt_of_heap N1.out
  have zU1 := lt_of_heap U1.out
  have zZ1 := lt_of_heap Z1.out
  go_simp
  go_wp2_with fail
  refine (H3.out _).mono ?_
  rintro e V3 ⟨rfl, hb3⟩
  clear N1_0 N1_1 zN1 U1_0 U1_1 zU1 Z1_0 Z1_1 Z1_f0 Z1_f1 zZ1
  have B3 : Hid (Below w.heap.size w V3) := by first | exact Lib.hid ((B2.out).trans (hb3.mono (by have := B2.out.size; first | assumption | (simp <;> omega) | (simp; done)))) | exact Lib.hid (((B2.out).alloc (B2.out.size) _).trans (hb3.mono (by have := B2.out.size; first | assumption | (simp <;> omega) | (simp; done)))) | exact Lib.hid ((((B2.out).alloc (B2.out.size) _).alloc (by have := B2.out.size; simp <;> omega) _).trans (hb3.mono (by have := B2.out.size; first | assumption | (simp <;> omega) | (simp; done)))) | exact Lib.hid (((((B2.out).alloc (B2.out.size) _).alloc (by have := B2.out.size; simp <;> omega) _).alloc (by have := B2.out.size; simp <;> omega) _).trans (hb3.mono (by have := B2.out.size; first | assumption | (simp <;> omega) | (simp; done))))
  first | replace N1 := Lib.hid (row_call hb3 N1.out) | replace N1 := Lib.hid (row_call hb3 (row_alloc N1.out _)) | replace N1 := Lib.hid (row_call hb3 (row_alloc (row_alloc N1.out _) _)) | replace N1 := Lib.hid (row_call hb3 (row_alloc (row_alloc (row_alloc N1.out _) _) _))
  first | replace U1 := Lib.hid (row_call hb3 U1.out) | replace U1 := Lib.hid (row_call hb3 (row_alloc U1.out _)) | replace U1 := Lib.hid (row_call hb3 (row_alloc (row_alloc U1.out _) _)) | replace U1 := Lib.hid (row_call hb3 (row_alloc (row_alloc (row_alloc U1.out _) _) _))
  first | replace Z1 := Lib.hid (row_call hb3 Z1.out) | replace Z1 := Lib.hid (row_call hb3 (row_alloc Z1.out _)) | replace Z1 := Lib.hid (row_call hb3 (row_alloc (row_alloc Z1.out _) _)) | replace Z1 := Lib.hid (row_call hb3 (row_alloc (row_alloc (row_alloc Z1.out _) _) _))
  clear hb3
  have N1_0 : V3.cell? ⟨w.heap.size, 0, none⟩ = some (.int .u64 xh) := cell_of_row _ _ _ _ _ _ N1.out
  have N1_1 : V3.cell? ⟨w.heap.size, 1, none⟩ = some (.int .u64 xl) := cell_of_row _ _ _ _ _ _ N1.out
  have U1_0 : V3.cell? ⟨w.heap.size + 1, 0, none⟩ = some (.int .u64 yh) := cell_of_row _ _ _ _ _ _ U1.out
  have U1_1 : V3.cell? ⟨w.heap.size + 1, 1, none⟩ = some (.int .u64 yl) := cell_of_row _ _ _ _ _ _ U1.out
  have Z1_0 : V3.cell? ⟨w.heap.size + 1 + 1, 0, none⟩ = some (.int .u64 0) := cell_of_row _ _ _ _ _ _ Z1.out
  have Z1_1 : V3.cell? ⟨w.heap.size + 1 + 1, 1, none⟩ = some (.int .u64 0) := cell_of_row _ _ _ _ _ _ Z1.out
  have Z1_f0 : V3.frozen? ⟨w.heap.size + 1 + 1, 0, none⟩ = false := by simp [World.frozen?, Z1.out]
  have Z1_f1 : V3.frozen? ⟨w.heap.size + 1 + 1, 1, none⟩ = false := by simp [World.frozen?, Z1.out]
  have zN1 := lt_of_heap N1.out
  have zU1 := lt_of_heap U1.out
  have zZ1 := lt_of_heap Z1.out
  go_simp
  go_wp2
  refine shut_ret (v := .tuple #[.agg #[.int .u64 0, .int .u64 0], .int .i64 5]) (by simp [results, Try.results9, go_sem, zZ1, Z1_0, Z1_1]) rfl ⟨rfl, ?_⟩
  exact keep2 B3.out (by omega) _ _
set_option maxHeartbeats 3200000 in
set_option maxRecDepth 100000 in
theorem rwide_same (xh xl yh yl : Nat) (m c1 c2 : Int) (ev : Bool) (w : World)
    (H1 : Hid (∀ w, Calls Try.prog 15 #[.agg #[.int .u64 yh, .int .u64 yl], .agg #[.int .u64 0, .int .u64 1]] w fun e w' => e = .returned (.int .i64 c1) ∧ Below w.heap.size w w'))
    (H2 : Hid (∀ w, Calls Try.prog 23 #[.agg #[.int .u64 yh, .int .u64 yl], .agg #[.int .u64 65536, .int .u64 0]] w fun e w' => e = .returned (.int .i64 c2) ∧ Below w.heap.size w w'))
    (H3 : Hid (∀ w, Calls Try.prog 24 #[.agg #[.int .u64 xh, .int .u64 xl]] w fun e w' => e = .returned (.bool false) ∧ Below w.heap.size w w'))
    (H4 : Hid (∀ w, Calls Try.prog 25 #[.agg #[.int .u64 xh, .int .u64 xl], .agg #[.int .u64 yh, .int .u64 yl]] w fun e w' => e = .returned (.tuple #[.agg #[.int .u64 xh, .int .u64 xl], .bool ev]) ∧ Below w.heap.size w w'))
    (h1 : ¬ c1 < 0) (h2 : ¬ 0 < c2) (hm0 : 0 ≤ m) (hm8 : m ≤ 8) :
    Calls Try.prog 9 #[.agg #[.int .u64 xh, .int .u64 xl], .agg #[.int .u64 yh, .int .u64 yl], .int .i64 m] w fun e w' => e = .returned (.tuple #[.agg #[.int .u64 xh, .int .u64 xl], .int .i64 0]) ∧ Below w.heap.size w w' := by
  have g1 : ¬ m < 0 := by omega
  have g2 : ¬ (8 : Int) < m := by omega
  go_enter Try.func9, Try.ntmps9
  refine wp_shut ?_
  go_wp2_with fail
  
  refine (H1.out _).mono ?_
  rintro e V1 ⟨rfl, hb1⟩
  have B1 := Lib.hid (((((Below.refl w.heap.size w).alloc (Nat.le_refl _) _).alloc (by simp <;> omega) _).alloc (by simp <;> omega) _).trans (hb1.mono (by first | assumption | (simp <;> omega) | (simp; done))))
  have N1 := Lib.hid (row_call hb1 (row_alloc (row_alloc (heap_alloc_new _ _) _) _))
  have U1 := Lib.hid (row_at (k' := w.heap.size + 1) (by simp) (row_call hb1 (row_alloc (heap_alloc_new _ _) _)))
  have Z1 := Lib.hid (row_at (k' := w.heap.size + 1 + 1) (by simp) (row_call hb1 (heap_alloc_new _ _)))
  clear hb1
  have N1_0 : V1.cell? ⟨w.heap.size, 0, none⟩ = some (.int .u64 xh) := cell_of_row _ _ _ _ _ _ N1.out
  have N1_1 : V1.cell? ⟨w.heap.size, 1, none⟩ = some (.int .u64 xl) := cell_of_row _ _ _ _ _ _ N1.out
  have U1_0 : V1.cell? ⟨w.heap.size + 1, 0, none⟩ = some (.int .u64 yh) := cell_of_row _ _ _ _ _ _ U1.out
  have U1_1 : V1.cell? ⟨w.heap.size + 1, 1, none⟩ = some (.int .u64 yl) := cell_of_row _ _ _ _ _ _ U1.out
  have Z1_0 : V1.cell? ⟨w.heap.size + 1 + 1, 0, none⟩ = some (.int .u64 0) := cell_of_row _ _ _ _ _ _ Z1.out
  have Z1_1 : V1.cell? ⟨w.heap.size + 1 + 1, 1, none⟩ = some (.int .u64 0) := cell_of_row _ _ _ _ _ _ Z1.out
  have Z1_f0 : V1.frozen? ⟨w.heap.size + 1 + 1, 0, none⟩ = false := by simp [World.frozen?, Z1.out]
  have Z1_f1 : V1.frozen? ⟨w.heap.size + 1 + 1, 1, none⟩ = false := by simp [World.frozen?, Z1.out]
  have zN1 := lt_of_heap N1.out
  have zU1 := lt_of_heap U1.out
  have zZ1 := lt_of_heap Z1.out
  go_simp
  go_wp2_with fail
  refine (H2.out _).mono ?_
  rintro e V2 ⟨rfl, hb2⟩
  clear N1_0 N1_1 zN1 U1_0 U1_1 zU1 Z1_0 Z1_1 Z1_f0 Z1_f1 zZ1
  have B2 : Hid (Below w.heap.size w V2) := by first | exact Lib.hid ((B1.out).trans (hb2.mono (by have := B1.out.size; first | assumption | (simp <;> omega) | (simp; done)))) | exact Lib.hid (((B1.out).alloc (B1.out.size) _).trans (hb2.mono (by have := B1.out.size; first | assumption | (simp <;> omega) | (simp; done)))) | exact Lib.hid ((((B1.out).alloc (B1.out.size) _).alloc (by have := B1.out.size; simp <;> omega) _).trans (hb2.mono (by have := B1.out.size; first | assumption | (simp <;> omega) | (simp; done)))) | exact Lib.hid (((((B1.out).alloc (B1.out.size) _).alloc (by have := B1.out.size; simp <;> omega) _).alloc (by have := B1.out.size; simp <;> omega) _).trans (hb2.mono (by have := B1.out.size; first | assumption | (simp <;> omega) | (simp; done))))
  first | replace N1 := Lib.hid (row_call hb2 N1.out) | replace N1 := Lib.hid (row_call hb2 (row_alloc N1.out _)) | replace N1 := Lib.hid (row_call hb2 (row_alloc (row_alloc N1.out _) _)) | replace N1 := Lib.hid (row_call hb2 (row_alloc (row_alloc (row_alloc N1.out _) _) _))
  first | replace U1 := Lib.hid (row_call hb2 U1.out) | replace U1 := Lib.hid (row_call hb2 (row_alloc U1.out _)) | replace U1 := Lib.hid (row_call hb2 (row_alloc (row_alloc U1.out _) _)) | replace U1 := Lib.hid (row_call hb2 (row_alloc (row_alloc (row_alloc U1.out _) _) _))
  first | replace Z1 := Lib.hid (row_call hb2 Z1.out) | replace Z1 := Lib.hid (row_call hb2 (row_alloc Z1.out _)) | replace Z1 := Lib.hid (row_call hb2 (row_alloc (row_alloc Z1.out _) _)) | replace Z1 := Lib.hid (row_call hb2 (row_alloc (row_alloc (row_alloc Z1.out _) _) _))
  clear hb2
  have N1_0 : V2.cell? ⟨w.heap.size, 0, none⟩ = some (.int .u64 xh) := cell_of_row _ _ _ _ _ _ N1.out
  have N1_1 : V2.cell? ⟨w.heap.size, 1, none⟩ = some (.int .u64 xl) := cell_of_row _ _ _ _ _ _ N1.out
  have U1_0 : V2.cell? ⟨w.heap.size + 1, 0, none⟩ = some (.int .u64 yh) := cell_of_row _ _ _ _ _ _ U1.out
  have U1_1 : V2.cell? ⟨w.heap.size + 1, 1, none⟩ = some (.int .u64 yl) := cell_of_row _ _ _ _ _ _ U1.out
  have Z1_0 : V2.cell? ⟨w.heap.size + 1 + 1, 0, none⟩ = some (.int .u64 0) := cell_of_row _ _ _ _ _ _ Z1.out
  have Z1_1 : V2.cell? ⟨w.heap.size + 1 + 1, 1, none⟩ = some (.int .u64 0) := cell_of_row _ _ _ _ _ _ Z1.out
  have Z1_f0 : V2.frozen? ⟨w.heap.size + 1 + 1, 0, none⟩ = false := by simp [World.frozen?, Z1.out]
  have Z1_f1 : V2.frozen? ⟨w.heap.size + 1 + 1, 1, none⟩ = false := by simp [World.frozen?, Z1.out]
  have zN1 := lt_of_heap N1.out
  have zU1 := lt_of_heap U1.out
  have zZ1 := lt_of_heap Z1.out
  go_simp
  go_wp2_with fail
  refine (H3.out _).mono ?_
  rintro e V3 ⟨rfl, hb3⟩
  clear N1_0 N1_1 zN1 U1_0 U1_1 zU1 Z1_0 Z1_1 Z1_f0 Z1_f1 zZ1
  have B3 : Hid (Below w.heap.size w V3) := by first | exact Lib.hid ((B2.out).trans (hb3.mono (by have := B2.out.size; first | assumption | (simp <;> omega) | (simp; done)))) | exact Lib.hid (((B2.out).alloc (B2.out.size) _).trans (hb3.mono (by have := B2.out.size; first | assumption | (simp <;> omega) | (simp; done)))) | exact Lib.hid ((((B2.out).alloc (B2.out.size) _).alloc (by have := B2.out.size; simp <;> omega) _).trans (hb3.mono (by have := B2.out.size; first | assumption | (simp <;> omega) | (simp; done)))) | exact Lib.hid (((((B2.out).alloc (B2.out.size) _).alloc (by have := B2.out.size; simp <;> omega) _).alloc (by have := B2.out.size; simp <;> omega) _).trans (hb3.mono (by have := B2.out.size; first | assumption | (simp <;> omega) | (simp; done))))
  first | replace N1 := Lib.hid (row_call hb3 N1.out) | replace N1 := Lib.hid (row_call hb3 (row_alloc N1.out _)) | replace N1 := Lib.hid (row_call hb3 (row_alloc (row_alloc N1.out _) _)) | replace N1 := Lib.hid (row_call hb3 (row_alloc (row_alloc (row_alloc N1.out _) _) _))
  first | replace U1 := Lib.hid (row_call hb3 U1.out) | replace U1 := Lib.hid (row_call hb3 (row_alloc U1.out _)) | replace U1 := Lib.hid (row_call hb3 (row_alloc (row_alloc U1.out _) _)) | replace U1 := Lib.hid (row_call hb3 (row_alloc (row_alloc (row_alloc U1.out _) _) _))
  first | replace Z1 := Lib.hid (row_call hb3 Z1.out) | replace Z1 := Lib.hid (row_call hb3 (row_alloc Z1.out _)) | replace Z1 := Lib.hid (row_call hb3 (row_alloc (row_alloc Z1.out _) _)) | replace Z1 := Lib.hid (row_call hb3 (row_alloc (row_alloc (row_alloc Z1.out _) _) _))
  clear hb3
  have N1_0 : V3.cell? ⟨w.heap.size, 0, none⟩ = some (.int .u64 xh) := cell_of_row _ _ _ _ _ _ N1.out
  have N1_1 : V3.cell? ⟨w.heap.size, 1, none⟩ = some (.int .u64 xl) := cell_of_row _ _ _ _ _ _ N1.out
  have U1_0 : V3.cell? ⟨w.heap.size + 1, 0, none⟩ = some (.int .u64 yh) := cell_of_row _ _ _ _ _ _ U1.out
  have U1_1 : V3.cell? ⟨w.heap.size + 1, 1, none⟩ = some (.int .u64 yl) := cell_of_row _ _ _ _ _ _ U1.out
  have Z1_0 : V3.cell? ⟨w.heap.size + 1 + 1, 0, none⟩ = some (.int .u64 0) := cell_of_row _ _ _ _ _ _ Z1.out
  have Z1_1 : V3.cell? ⟨w.heap.size + 1 + 1, 1, none⟩ = some (.int .u64 0) := cell_of_row _ _ _ _ _ _ Z1.out
  have Z1_f0 : V3.frozen? ⟨w.heap.size + 1 + 1, 0, none⟩ = false := by simp [World.frozen?, Z1.out]
  have Z1_f1 : V3.frozen? ⟨w.heap.size + 1 + 1, 1, none⟩ = false := by simp [World.frozen?, Z1.out]
  have zN1 := lt_of_heap N1.out
  have zU1 := lt_of_heap U1.out
  have zZ1 := lt_of_heap Z1.out
  go_simp
  go_wp2_with fail
  refine (H4.out _).mono ?_
  rintro e V4 ⟨rfl, hb4⟩
  clear N1_0 N1_1 zN1 U1_0 U1_1 zU1 Z1_0 Z1_1 Z1_f0 Z1_f1 zZ1
  have B4 : Hid (Below w.heap.size w V4) := by first | exact Lib.hid ((B3.out).trans (hb4.mono (by have := B3.out.size; first | assumption | (simp <;> omega) | (simp; done)))) | exact Lib.hid (((B3.out).alloc (B3.out.size) _).trans (hb4.mono (by have := B3.out.size; first | assumption | (simp <;> omega) | (simp; done)))) | exact Lib.hid ((((B3.out).alloc (B3.out.size) _).alloc (by have := B3.out.size; simp <;> omega) _).trans (hb4.mono (by have := B3.out.size; first | assumption | (simp <;> omega) | (simp; done)))) | exact Lib.hid (((((B3.out).alloc (B3.out.size) _).alloc (by have := B3.out.size; simp <;> omega) _).alloc (by have := B3.out.size; simp <;> omega) _).trans (hb4.mono (by have := B3.out.size; first | assumption | (simp <;> omega) | (simp; done))))
  first | replace N1 := Lib.hid (row_call hb4 N1.out) | replace N1 := Lib.hid (row_call hb4 (row_alloc N1.out _)) | replace N1 := Lib.hid (row_call hb4 (row_alloc (row_alloc N1.out _) _)) | replace N1 := Lib.hid (row_call hb4 (row_alloc (row_alloc (row_alloc N1.out _) _) _))
  first | replace U1 := Lib.hid (row_call hb4 U1.out) | replace U1 := Lib.hid (row_call hb4 (row_alloc U1.out _)) | replace U1 := Lib.hid (row_call hb4 (row_alloc (row_alloc U1.out _) _)) | replace U1 := Lib.hid (row_call hb4 (row_alloc (row_alloc (row_alloc U1.out _) _) _))
  first | replace Z1 := Lib.hid (row_call hb4 Z1.out) | replace Z1 := Lib.hid (row_call hb4 (row_alloc Z1.out _)) | replace Z1 := Lib.hid (row_call hb4 (row_alloc (row_alloc Z1.out _) _)) | replace Z1 := Lib.hid (row_call hb4 (row_alloc (row_alloc (row_alloc Z1.out _) _) _))
  clear hb4
  have N1_0 : V4.cell? ⟨w.heap.size, 0, none⟩ = some (.int .u64 xh) := cell_of_row _ _ _ _ _ _ N1.out
  have N1_1 : V4.cell? ⟨w.heap.size, 1, none⟩ = some (.int .u64 xl) := cell_of_row _ _ _ _ _ _ N1.out
  have U1_0 : V4.cell? ⟨w.heap.size + 1, 0, none⟩ = some (.int .u64 yh) := cell_of_row _ _ _ _ _ _ U1.out
  have U1_1 : V4.cell? ⟨w.heap.size + 1, 1, none⟩ = some (.int .u64 yl) := cell_of_row _ _ _ _ _ _ U1.out
  have Z1_0 : V4.cell? ⟨w.heap.size + 1 + 1, 0, none⟩ = some (.int .u64 0) := cell_of_row _ _ _ _ _ _ Z1.out
  have Z1_1 : V4.cell? ⟨w.heap.size + 1 + 1, 1, none⟩ = some (.int .u64 0) := cell_of_row _ _ _ _ _ _ Z1.out
  have Z1_f0 : V4.frozen? ⟨w.heap.size + 1 + 1, 0, none⟩ = false := by simp [World.frozen?, Z1.out]
  have Z1_f1 : V4.frozen? ⟨w.heap.size + 1 + 1, 1, none⟩ = false := by simp [World.frozen?, Z1.out]
  have zN1 := lt_of_heap N1.out
  have zU1 := lt_of_heap U1.out
  have zZ1 := lt_of_heap Z1.out
  go_simp
  go_wp2
  refine shut_ret (v := .tuple #[.agg #[.int .u64 xh, .int .u64 xl], .int .i64 0]) (by simp [results, Try.results9, go_sem, zZ1, Z1_0, Z1_1]) rfl ⟨rfl, ?_⟩
  exact (keep2 B4.out (by omega) _ _).alloc (by have := B4.out.size; simp; omega) _
theorem hl_inj {a b : Int} (ia : in128 a) (ib : in128 b) (h1 : zh a = zh b) (h2 : zl a = zl b) : a = b := by
  rw [← sz_z a ia, ← sz_z b ib, h1, h2]
theorem rnd_in {x y m : Int} (h1 : 1 ≤ y) (h2 : y ≤ 1208925819614629174706176) (h3 : x.natAbs ≤ 1267650600228229401496703205376) : in128 (rnd x y m) ∧ -1267651809154049016125877911552 ≤ x / y * y ∧ x / y * y ≤ 1267650600228229401496703205376 := by
  have e := Int.emod_add_mul_ediv x y
  rw [Int.mul_comm] at e
  have r0 := Int.emod_nonneg x (show y ≠ 0 by omega)
  have r1 := Int.emod_lt_of_pos x (show 0 < y by omega)
  unfold rnd in128
  generalize upB m (decide (x < 0)) (nrC x y) (evQ x y) = up
  generalize x / y * y = t at *
  generalize x % y = r at *
  refine ⟨?_, by omega, by omega⟩
  split
  · omega
  · split <;> omega
set_option maxHeartbeats 1600000 in
theorem rwWide_any (x y m : Int) (bx : in128 x) (by' : in128 y) (w : World) :
    Calls Try.prog 9 #[.agg #[.int .u64 (zh x), .int .u64 (zl x)], .agg #[.int .u64 (zh y), .int .u64 (zl y)], .int .i64 m] w fun e w' => e = .returned (.tuple #[.agg #[.int .u64 (zh (rwV x y m)), .int .u64 (zl (rwV x y m))], .int .i64 (rwE x y m)]) ∧ Below w.heap.size w w' := by
  have X1 := rSigned_any y 1 by' (by unfold in128; omega)
  rw [zh_one, zl_one] at X1
  have H1 := Lib.hid X1
  have X2 := rcmp_any (zw y) 1208925819614629174706176 (zw_lt _) (by omega)
  rw [show ((1208925819614629174706176 : Nat) : Int) = 1208925819614629174706176 from rfl, big80.1, big80.2, zh_zw, zl_zw] at X2
  have H2 := Lib.hid X2
  have X3 := out_any x bx
  have hc1 : cmpZ y 1 < 0 ↔ y < 1 := by unfold cmpZ; split <;> (try split) <;> omega
  have hc2 := @cmpL_gt (zw y) 1208925819614629174706176
  have hzy : 1 ≤ y → (zw y : Int) = y := fun h => by unfold in128 at by'; unfold zw; omega
  cases hb : badW x y m
  · obtain ⟨b1, b2, b3, b4, b5⟩ := badW_ok hb
    rw [(rw_ok hb).1, (rw_ok hb).2]
    rw [decide_eq_false (by omega)] at X3
    obtain ⟨u, rfl⟩ : ∃ u : Nat, y = (u : Int) := ⟨y.toNat, by omega⟩
    have X4 := rFl_any x u (by omega) (by omega) (by omega)
    obtain ⟨i1, i2, i3⟩ := @rnd_in x u m b1 b2 b3
    have e := Int.emod_add_mul_ediv x u
    rw [Int.mul_comm] at e
    have r0 := Int.emod_nonneg x (show (u : Int) ≠ 0 by omega)
    have r1 := Int.emod_lt_of_pos x (show (0 : Int) < u by omega)
    have X5 := more_any (x / u * u) u
    have X6 := rBelow_any x bx
    have X7 := near_any x (x / u * u) (x / u * u + u) (x % u).toNat (u - x % u).toNat (by omega) (by omega) (by omega) (by omega)
    by_cases hr : x % u = 0
    · rw [show rnd x u m = x from if_pos hr]
      rw [show x / (u : Int) * u = x by omega] at X4
      exact rwide_same _ _ _ _ m _ _ _ w H1 H2 (Lib.hid X3) (Lib.hid X4) (fun h => by have := hc1.mp h; omega) (fun h => by have := hc2.mp h; have := hzy b1; omega) b4 b5
    · have hne : x / (u : Int) * u ≠ x := by omega
      have il : in128 (x / (u : Int) * u) := by unfold in128; omega
      have HV : rnd x u m = if upB m (decide (x < 0)) (nrC x u) (evQ x u) = true then x / u * u + u else x / u * u := if_neg hr
      have hc := cmpI_three (x % u).toNat (u - x % u).toNat
      have g1 : ¬ cmpZ (u : Int) 1 < 0 := fun h => by have := hc1.mp h; omega
      have g2 : ¬ 0 < cmpI (zw (u : Int)) 1208925819614629174706176 := fun h => by have := hc2.mp h; have := hzy b1; omega
      unfold nrC at HV
      by_cases hz1 : zh (x / (u : Int) * u) = zh x
      · have hz2 : ¬ zl (x / (u : Int) * u) = zl x := fun h => hne (hl_inj il bx hz1 h)
        rw [hz1] at X4 X5 X7
        exact rwide_a _ _ _ _ 0 _ _ _ m _ (x / u * u) (x / u * u + u) _ _ _ _ _ w H1 H2 (Lib.hid X3) (Lib.hid X4) (Lib.hid X5) (Lib.hid X6) (Lib.hid X7) g1 g2 b4 b5 hz2 hc ⟨hz1, rfl⟩ ⟨rfl, rfl⟩ HV
      · exact rwide_b _ _ _ _ _ _ _ _ m _ (x / u * u) (x / u * u + u) _ _ _ _ _ w H1 H2 (Lib.hid X3) (Lib.hid X4) (Lib.hid X5) (Lib.hid X6) (Lib.hid X7) g1 g2 b4 b5 hz1 hc ⟨rfl, rfl⟩ ⟨rfl, rfl⟩ HV
  · have hn := badW_no hb
    rw [(rw_bad hb).1, (rw_bad hb).2, zh_zero, zl_zero]
    by_cases k1 : y < 1
    · exact rwerr1 _ _ _ _ m _ _ w H1 H2 (hc1.mpr k1)
    · have f1 : ¬ cmpZ y 1 < 0 := fun h => k1 (hc1.mp h)
      have e1 := hzy (by omega)
      by_cases k2 : 1208925819614629174706176 < y
      · exact rwerr2 _ _ _ _ m _ _ w H1 H2 f1 (hc2.mpr (by omega))
      · have f2 : ¬ 0 < cmpI (zw y) 1208925819614629174706176 := fun h => k2 (by have := hc2.mp h; omega)
        by_cases k3 : 1267650600228229401496703205376 < x.natAbs
        · rw [decide_eq_true k3] at X3
          exact rwerr3 _ _ _ _ m _ _ w H1 H2 (Lib.hid X3) f1 f2
        · rw [decide_eq_false k3] at X3
          by_cases k4 : m < 0
          · exact rwerr4 _ _ _ _ m _ _ w H1 H2 (Lib.hid X3) f1 f2 k4
          · exact rwerr5 _ _ _ _ m _ _ w H1 H2 (Lib.hid X3) f1 f2 k4 (by omega)
/-- a unit's and a mode's error. -/
@[irreducible] def agE (s n m : Int) : Int := if s < 0 ∨ (s = 0 ∧ n = 0) ∨ m < 0 ∨ 8 < m then 5 else ckD s n
theorem agE_bad {s n m : Int} (h : s < 0 ∨ (s = 0 ∧ n = 0) ∨ m < 0 ∨ 8 < m) : agE s n m = 5 := by unfold agE; exact if_pos h
theorem agE_ok {s n m : Int} (h : ¬ (s < 0 ∨ (s = 0 ∧ n = 0) ∨ m < 0 ∨ 8 < m)) : agE s n m = ckD s n := by unfold agE; exact if_neg h
theorem of_agE {s n m : Int} (h : agE s n m = 0) : ckD s n = 0 ∧ 1 ≤ nanos s n ∧ 0 ≤ m ∧ m ≤ 8 := by
  by_cases hb : s < 0 ∨ (s = 0 ∧ n = 0) ∨ m < 0 ∨ 8 < m
  · rw [agE_bad hb] at h; omega
  · rw [agE_ok hb] at h
    have h1 := of_wmB (of_ckD h).1
    exact ⟨h, by unfold nanos; omega, by omega, by omega⟩
set_option maxHeartbeats 1600000 in
set_option maxRecDepth 100000 in
theorem args_any (s n m : Int) (w : World) : Calls Try.prog 35 #[.agg #[.int .i64 s, .int .i64 n], .int .i64 m] w fun e w' => e = .returned (.int .i64 (agE s n m)) ∧ Below w.heap.size w w' := by
  have H1 := Lib.hid (rCheckDur_any s n)
  by_cases hb : s < 0 ∨ (s = 0 ∧ n = 0) ∨ m < 0 ∨ 8 < m
  · have E := Lib.hid (agE_bad hb)
    generalize ckD s n = c at *
    generalize agE s n m = r at *
    by_cases k1 : s < 0
    · clear hb
      go_enter Try.func35, Try.ntmps35
      go_wp2_with fail
      
      refine (H1.out _).mono ?_
      rintro e V1 ⟨rfl, hb1⟩
      have B1 := Lib.hid (((Below.refl w.heap.size w).alloc (Nat.le_refl _) _).trans (hb1.mono (by first | assumption | (simp <;> omega) | (simp; done))))
      have A1 := Lib.hid (row_call hb1 (heap_alloc_new _ _))
      clear hb1
      have A1_0 : V1.cell? ⟨w.heap.size, 0, none⟩ = some (.int .i64 s) := cell_of_row _ _ _ _ _ _ A1.out
      have A1_1 : V1.cell? ⟨w.heap.size, 1, none⟩ = some (.int .i64 n) := cell_of_row _ _ _ _ _ _ A1.out
      have zA1 := lt_of_heap A1.out
      go_simp
      go_wp2
      go_ret
      exact ⟨by rw [E.out]; try rfl, B1.out⟩
    · by_cases k2 : s = 0
      · subst k2
        by_cases k3 : n = 0
        · subst k3
          clear hb
          go_enter Try.func35, Try.ntmps35
          go_wp2_with fail
          
          refine (H1.out _).mono ?_
          rintro e V1 ⟨rfl, hb1⟩
          have B1 := Lib.hid (((Below.refl w.heap.size w).alloc (Nat.le_refl _) _).trans (hb1.mono (by first | assumption | (simp <;> omega) | (simp; done))))
          have A1 := Lib.hid (row_call hb1 (heap_alloc_new _ _))
          clear hb1
          have A1_0 : V1.cell? ⟨w.heap.size, 0, none⟩ = some (.int .i64 0) := cell_of_row _ _ _ _ _ _ A1.out
          have A1_1 : V1.cell? ⟨w.heap.size, 1, none⟩ = some (.int .i64 0) := cell_of_row _ _ _ _ _ _ A1.out
          have zA1 := lt_of_heap A1.out
          go_simp
          go_wp2
          go_ret
          exact ⟨by rw [E.out]; try rfl, B1.out⟩
        · by_cases k4 : m < 0
          · clear hb
            go_enter Try.func35, Try.ntmps35
            go_wp2_with fail
            
            refine (H1.out _).mono ?_
            rintro e V1 ⟨rfl, hb1⟩
            have B1 := Lib.hid (((Below.refl w.heap.size w).alloc (Nat.le_refl _) _).trans (hb1.mono (by first | assumption | (simp <;> omega) | (simp; done))))
            have A1 := Lib.hid (row_call hb1 (heap_alloc_new _ _))
            clear hb1
            have A1_0 : V1.cell? ⟨w.heap.size, 0, none⟩ = some (.int .i64 0) := cell_of_row _ _ _ _ _ _ A1.out
            have A1_1 : V1.cell? ⟨w.heap.size, 1, none⟩ = some (.int .i64 n) := cell_of_row _ _ _ _ _ _ A1.out
            have zA1 := lt_of_heap A1.out
            go_simp
            go_wp2
            go_ret
            exact ⟨by rw [E.out]; try rfl, B1.out⟩
          · have k5 : (8 : Int) < m := by omega
            clear hb
            go_enter Try.func35, Try.ntmps35
            go_wp2_with fail
            
            refine (H1.out _).mono ?_
            rintro e V1 ⟨rfl, hb1⟩
            have B1 := Lib.hid (((Below.refl w.heap.size w).alloc (Nat.le_refl _) _).trans (hb1.mono (by first | assumption | (simp <;> omega) | (simp; done))))
            have A1 := Lib.hid (row_call hb1 (heap_alloc_new _ _))
            clear hb1
            have A1_0 : V1.cell? ⟨w.heap.size, 0, none⟩ = some (.int .i64 0) := cell_of_row _ _ _ _ _ _ A1.out
            have A1_1 : V1.cell? ⟨w.heap.size, 1, none⟩ = some (.int .i64 n) := cell_of_row _ _ _ _ _ _ A1.out
            have zA1 := lt_of_heap A1.out
            go_simp
            go_wp2
            go_ret
            exact ⟨by rw [E.out]; try rfl, B1.out⟩
      · by_cases k4 : m < 0
        · clear hb
          go_enter Try.func35, Try.ntmps35
          go_wp2_with fail
          
          refine (H1.out _).mono ?_
          rintro e V1 ⟨rfl, hb1⟩
          have B1 := Lib.hid (((Below.refl w.heap.size w).alloc (Nat.le_refl _) _).trans (hb1.mono (by first | assumption | (simp <;> omega) | (simp; done))))
          have A1 := Lib.hid (row_call hb1 (heap_alloc_new _ _))
          clear hb1
          have A1_0 : V1.cell? ⟨w.heap.size, 0, none⟩ = some (.int .i64 s) := cell_of_row _ _ _ _ _ _ A1.out
          have A1_1 : V1.cell? ⟨w.heap.size, 1, none⟩ = some (.int .i64 n) := cell_of_row _ _ _ _ _ _ A1.out
          have zA1 := lt_of_heap A1.out
          go_simp
          go_wp2
          go_ret
          exact ⟨by rw [E.out]; try rfl, B1.out⟩
        · have k5 : (8 : Int) < m := by omega
          clear hb
          go_enter Try.func35, Try.ntmps35
          go_wp2_with fail
          
          refine (H1.out _).mono ?_
          rintro e V1 ⟨rfl, hb1⟩
          have B1 := Lib.hid (((Below.refl w.heap.size w).alloc (Nat.le_refl _) _).trans (hb1.mono (by first | assumption | (simp <;> omega) | (simp; done))))
          have A1 := Lib.hid (row_call hb1 (heap_alloc_new _ _))
          clear hb1
          have A1_0 : V1.cell? ⟨w.heap.size, 0, none⟩ = some (.int .i64 s) := cell_of_row _ _ _ _ _ _ A1.out
          have A1_1 : V1.cell? ⟨w.heap.size, 1, none⟩ = some (.int .i64 n) := cell_of_row _ _ _ _ _ _ A1.out
          have zA1 := lt_of_heap A1.out
          go_simp
          go_wp2
          go_ret
          exact ⟨by rw [E.out]; try rfl, B1.out⟩
  · have E := Lib.hid (agE_ok hb)
    have k1 : ¬ s < 0 := by omega
    have k4 : ¬ m < 0 := by omega
    have k5 : ¬ (8 : Int) < m := by omega
    generalize ckD s n = c at *
    generalize agE s n m = r at *
    by_cases k2 : s = 0
    · subst k2
      have k3 : ¬ n = 0 := by omega
      clear hb
      go_enter Try.func35, Try.ntmps35
      go_wp2_with fail
      
      refine (H1.out _).mono ?_
      rintro e V1 ⟨rfl, hb1⟩
      have B1 := Lib.hid (((Below.refl w.heap.size w).alloc (Nat.le_refl _) _).trans (hb1.mono (by first | assumption | (simp <;> omega) | (simp; done))))
      have A1 := Lib.hid (row_call hb1 (heap_alloc_new _ _))
      clear hb1
      have A1_0 : V1.cell? ⟨w.heap.size, 0, none⟩ = some (.int .i64 0) := cell_of_row _ _ _ _ _ _ A1.out
      have A1_1 : V1.cell? ⟨w.heap.size, 1, none⟩ = some (.int .i64 n) := cell_of_row _ _ _ _ _ _ A1.out
      have zA1 := lt_of_heap A1.out
      go_simp
      go_wp2
      go_ret
      exact ⟨by rw [E.out]; try rfl, B1.out⟩
    · clear hb
      go_enter Try.func35, Try.ntmps35
      go_wp2_with fail
      
      refine (H1.out _).mono ?_
      rintro e V1 ⟨rfl, hb1⟩
      have B1 := Lib.hid (((Below.refl w.heap.size w).alloc (Nat.le_refl _) _).trans (hb1.mono (by first | assumption | (simp <;> omega) | (simp; done))))
      have A1 := Lib.hid (row_call hb1 (heap_alloc_new _ _))
      clear hb1
      have A1_0 : V1.cell? ⟨w.heap.size, 0, none⟩ = some (.int .i64 s) := cell_of_row _ _ _ _ _ _ A1.out
      have A1_1 : V1.cell? ⟨w.heap.size, 1, none⟩ = some (.int .i64 n) := cell_of_row _ _ _ _ _ _ A1.out
      have zA1 := lt_of_heap A1.out
      go_simp
      go_wp2
      go_ret
      exact ⟨by rw [E.out]; try rfl, B1.out⟩
end Go.Proofs.Ytlfbiidnfheelaa
