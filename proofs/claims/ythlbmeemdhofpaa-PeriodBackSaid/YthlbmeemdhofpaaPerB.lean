/- The plain answers of layer 10: sums, products, balanced periods. -/
import Derived.Test.YthlbmeemdhofpaaPerA
import Derived.Test.YthlbmeemdhofpaaClkB
namespace Go.Proofs.Ythlbmeemdhofpaa
set_option linter.unusedVariables false
set_option linter.unusedSimpArgs false
open Go.ChangeShapes Go.WideShapes Go.ChangeAt Go.RowKit

/-- the error of a sum. -/
def spE (y m d y' m' d' : Int) : Int := if ckP y m d = 0 ∧ ckP y' m' d' = 0 then ckP (y + y') (m + m') (d + d') else 8
theorem spE_ok {y m d y' m' d' : Int} (h : ckP y m d = 0) (h' : ckP y' m' d' = 0) : spE y m d y' m' d' = ckP (y + y') (m + m') (d + d') := if_pos ⟨h, h'⟩
theorem spE_no {y m d y' m' d' : Int} (h : ¬ (ckP y m d = 0 ∧ ckP y' m' d' = 0)) : spE y m d y' m' d' = 8 := if_neg h
set_option maxHeartbeats 3200000 in
set_option maxRecDepth 100000 in
theorem rpAdd_any (y m d y' m' d' : Int) (w : World) : Calls Try.prog 9 #[.agg #[.int .i64 y, .int .i64 m, .int .i64 d], .agg #[.int .i64 y', .int .i64 m', .int .i64 d']] w fun e w' =>
    e = .returned (.tuple #[.agg #[.int .i64 (fdP (spE y m d y' m' d') (y + y')), .int .i64 (fdP (spE y m d y' m' d') (m + m')), .int .i64 (fdP (spE y m d y' m' d') (d + d'))], .int .i64 (spE y m d y' m' d')]) ∧ Below w.heap.size w w' := by
  have X1 := rpCheck_any y m d
  have X2 := rpCheck_any y' m' d'
  have X3 := rpMay_any (y + y') (m + m') (d + d')
  rcases ckP_two y m d with ⟨e, _⟩ | ⟨e, _⟩
  · rcases ckP_two y' m' d' with ⟨e', _⟩ | ⟨e', _⟩
    · have b := of_ckP e
      have b' := of_ckP e'
      rw [spE_ok e e']
      rw [e] at X1
      rw [e'] at X2
      have H1 := Lib.hid X1
      have H2 := Lib.hid X2
      have H3 := Lib.hid X3
      obtain ⟨⟨b1, b2⟩, ⟨b3, b4⟩, ⟨b5, b6⟩⟩ := b
      obtain ⟨⟨b1', b2'⟩, ⟨b3', b4'⟩, ⟨b5', b6'⟩⟩ := b'
      clear X1 X2 X3 e e'
      generalize fdP (ckP (y + y') (m + m') (d + d')) (y + y') = f1 at *
      generalize fdP (ckP (y + y') (m + m') (d + d')) (m + m') = f2 at *
      generalize fdP (ckP (y + y') (m + m') (d + d')) (d + d') = f3 at *
      generalize ckP (y + y') (m + m') (d + d') = E at *
      go_enter Try.func9, Try.ntmps9
      refine wp_shut ?_
      go_wp2_with fail
      
      refine (H1.out _).mono ?_
      rintro e V1 ⟨rfl, hb1⟩
      have B1 := Lib.hid (((((Below.refl w.heap.size w).alloc (Nat.le_refl _) _).alloc (by simp <;> omega) _).alloc (by simp <;> omega) _).trans (hb1.mono (by first | assumption | (simp <;> omega) | (simp; done))))
      have A1 := Lib.hid (row_call hb1 (row_alloc (row_alloc (heap_alloc_new _ _) _) _))
      have D1 := Lib.hid (row_at (k' := w.heap.size + 1) (by simp) (row_call hb1 (row_alloc (heap_alloc_new _ _) _)))
      have Z1 := Lib.hid (row_at (k' := w.heap.size + 1 + 1) (by simp) (row_call hb1 (heap_alloc_new _ _)))
      clear hb1
      have A1_0 : V1.cell? ⟨w.heap.size, 0, none⟩ = some (.int .i64 y) := cell_of_row _ _ _ _ _ _ A1.out
      have A1_1 : V1.cell? ⟨w.heap.size, 1, none⟩ = some (.int .i64 m) := cell_of_row _ _ _ _ _ _ A1.out
      have A1_2 : V1.cell? ⟨w.heap.size, 2, none⟩ = some (.int .i64 d) := cell_of_row _ _ _ _ _ _ A1.out
      have D1_0 : V1.cell? ⟨w.heap.size + 1, 0, none⟩ = some (.int .i64 y') := cell_of_row _ _ _ _ _ _ D1.out
      have D1_1 : V1.cell? ⟨w.heap.size + 1, 1, none⟩ = some (.int .i64 m') := cell_of_row _ _ _ _ _ _ D1.out
      have D1_2 : V1.cell? ⟨w.heap.size + 1, 2, none⟩ = some (.int .i64 d') := cell_of_row _ _ _ _ _ _ D1.out
      have Z1_0 : V1.cell? ⟨w.heap.size + 1 + 1, 0, none⟩ = some (.int .i64 0) := cell_of_row _ _ _ _ _ _ Z1.out
      have Z1_1 : V1.cell? ⟨w.heap.size + 1 + 1, 1, none⟩ = some (.int .i64 0) := cell_of_row _ _ _ _ _ _ Z1.out
      have Z1_2 : V1.cell? ⟨w.heap.size + 1 + 1, 2, none⟩ = some (.int .i64 0) := cell_of_row _ _ _ _ _ _ Z1.out
      have Z1_f0 : V1.frozen? ⟨w.heap.size + 1 + 1, 0, none⟩ = false := by simp [World.frozen?, Z1.out]
      have Z1_f1 : V1.frozen? ⟨w.heap.size + 1 + 1, 1, none⟩ = false := by simp [World.frozen?, Z1.out]
      have Z1_f2 : V1.frozen? ⟨w.heap.size + 1 + 1, 2, none⟩ = false := by simp [World.frozen?, Z1.out]
      have zA1 := lt_of_heap A1.out
      have zD1 := lt_of_heap D1.out
      have zZ1 := lt_of_heap Z1.out
      go_simp
      go_wp2_with fail
      refine (H2.out _).mono ?_
      rintro e V2 ⟨rfl, hb2⟩
      clear A1_0 A1_1 A1_2 zA1 D1_0 D1_1 D1_2 zD1 Z1_0 Z1_1 Z1_2 Z1_f0 Z1_f1 Z1_f2 zZ1
      have B2 : Hid (Below w.heap.size w V2) := by first | exact Lib.hid ((B1.out).trans (hb2.mono (by have := B1.out.size; first | assumption | (simp <;> omega) | (simp; done)))) | exact Lib.hid (((B1.out).alloc (B1.out.size) _).trans (hb2.mono (by have := B1.out.size; first | assumption | (simp <;> omega) | (simp; done)))) | exact Lib.hid ((((B1.out).alloc (B1.out.size) _).alloc (by have := B1.out.size; simp <;> omega) _).trans (hb2.mono (by have := B1.out.size; first | assumption | (simp <;> omega) | (simp; done)))) | exact Lib.hid (((((B1.out).alloc (B1.out.size) _).alloc (by have := B1.out.size; simp <;> omega) _).alloc (by have := B1.out.size; simp <;> omega) _).trans (hb2.mono (by have := B1.out.size; first | assumption | (simp <;> omega) | (simp; done))))
      first | replace A1 := Lib.hid (row_call hb2 A1.out) | replace A1 := Lib.hid (row_call hb2 (row_alloc A1.out _)) | replace A1 := Lib.hid (row_call hb2 (row_alloc (row_alloc A1.out _) _)) | replace A1 := Lib.hid (row_call hb2 (row_alloc (row_alloc (row_alloc A1.out _) _) _))
      first | replace D1 := Lib.hid (row_call hb2 D1.out) | replace D1 := Lib.hid (row_call hb2 (row_alloc D1.out _)) | replace D1 := Lib.hid (row_call hb2 (row_alloc (row_alloc D1.out _) _)) | replace D1 := Lib.hid (row_call hb2 (row_alloc (row_alloc (row_alloc D1.out _) _) _))
      first | replace Z1 := Lib.hid (row_call hb2 Z1.out) | replace Z1 := Lib.hid (row_call hb2 (row_alloc Z1.out _)) | replace Z1 := Lib.hid (row_call hb2 (row_alloc (row_alloc Z1.out _) _)) | replace Z1 := Lib.hid (row_call hb2 (row_alloc (row_alloc (row_alloc Z1.out _) _) _))
      clear hb2
      have A1_0 : V2.cell? ⟨w.heap.size, 0, none⟩ = some (.int .i64 y) := cell_of_row _ _ _ _ _ _ A1.out
      have A1_1 : V2.cell? ⟨w.heap.size, 1, none⟩ = some (.int .i64 m) := cell_of_row _ _ _ _ _ _ A1.out
      have A1_2 : V2.cell? ⟨w.heap.size, 2, none⟩ = some (.int .i64 d) := cell_of_row _ _ _ _ _ _ A1.out
      have D1_0 : V2.cell? ⟨w.heap.size + 1, 0, none⟩ = some (.int .i64 y') := cell_of_row _ _ _ _ _ _ D1.out
      have D1_1 : V2.cell? ⟨w.heap.size + 1, 1, none⟩ = some (.int .i64 m') := cell_of_row _ _ _ _ _ _ D1.out
      have D1_2 : V2.cell? ⟨w.heap.size + 1, 2, none⟩ = some (.int .i64 d') := cell_of_row _ _ _ _ _ _ D1.out
      have Z1_0 : V2.cell? ⟨w.heap.size + 1 + 1, 0, none⟩ = some (.int .i64 0) := cell_of_row _ _ _ _ _ _ Z1.out
      have Z1_1 : V2.cell? ⟨w.heap.size + 1 + 1, 1, none⟩ = some (.int .i64 0) := cell_of_row _ _ _ _ _ _ Z1.out
      have Z1_2 : V2.cell? ⟨w.heap.size + 1 + 1, 2, none⟩ = some (.int .i64 0) := cell_of_row _ _ _ _ _ _ Z1.out
      have Z1_f0 : V2.frozen? ⟨w.heap.size + 1 + 1, 0, none⟩ = false := by simp [World.frozen?, Z1.out]
      have Z1_f1 : V2.frozen? ⟨w.heap.size + 1 + 1, 1, none⟩ = false := by simp [World.frozen?, Z1.out]
      have Z1_f2 : V2.frozen? ⟨w.heap.size + 1 + 1, 2, none⟩ = false := by simp [World.frozen?, Z1.out]
      have zA1 := lt_of_heap A1.out
      have zD1 := lt_of_heap D1.out
      have zZ1 := lt_of_heap Z1.out
      go_simp
      go_wp2_with fail
      refine (H3.out _).mono ?_
      rintro e V3 ⟨rfl, hb3⟩
      clear A1_0 A1_1 A1_2 zA1 D1_0 D1_1 D1_2 zD1 Z1_0 Z1_1 Z1_2 Z1_f0 Z1_f1 Z1_f2 zZ1
      have B3 : Hid (Below w.heap.size w V3) := by first | exact Lib.hid ((B2.out).trans (hb3.mono (by have := B2.out.size; first | assumption | (simp <;> omega) | (simp; done)))) | exact Lib.hid (((B2.out).alloc (B2.out.size) _).trans (hb3.mono (by have := B2.out.size; first | assumption | (simp <;> omega) | (simp; done)))) | exact Lib.hid ((((B2.out).alloc (B2.out.size) _).alloc (by have := B2.out.size; simp <;> omega) _).trans (hb3.mono (by have := B2.out.size; first | assumption | (simp <;> omega) | (simp; done)))) | exact Lib.hid (((((B2.out).alloc (B2.out.size) _).alloc (by have := B2.out.size; simp <;> omega) _).alloc (by have := B2.out.size; simp <;> omega) _).trans (hb3.mono (by have := B2.out.size; first | assumption | (simp <;> omega) | (simp; done))))
      first | replace A1 := Lib.hid (row_call hb3 A1.out) | replace A1 := Lib.hid (row_call hb3 (row_alloc A1.out _)) | replace A1 := Lib.hid (row_call hb3 (row_alloc (row_alloc A1.out _) _)) | replace A1 := Lib.hid (row_call hb3 (row_alloc (row_alloc (row_alloc A1.out _) _) _))
      first | replace D1 := Lib.hid (row_call hb3 D1.out) | replace D1 := Lib.hid (row_call hb3 (row_alloc D1.out _)) | replace D1 := Lib.hid (row_call hb3 (row_alloc (row_alloc D1.out _) _)) | replace D1 := Lib.hid (row_call hb3 (row_alloc (row_alloc (row_alloc D1.out _) _) _))
      first | replace Z1 := Lib.hid (row_call hb3 Z1.out) | replace Z1 := Lib.hid (row_call hb3 (row_alloc Z1.out _)) | replace Z1 := Lib.hid (row_call hb3 (row_alloc (row_alloc Z1.out _) _)) | replace Z1 := Lib.hid (row_call hb3 (row_alloc (row_alloc (row_alloc Z1.out _) _) _))
      clear hb3
      have A1_0 : V3.cell? ⟨w.heap.size, 0, none⟩ = some (.int .i64 y) := cell_of_row _ _ _ _ _ _ A1.out
      have A1_1 : V3.cell? ⟨w.heap.size, 1, none⟩ = some (.int .i64 m) := cell_of_row _ _ _ _ _ _ A1.out
      have A1_2 : V3.cell? ⟨w.heap.size, 2, none⟩ = some (.int .i64 d) := cell_of_row _ _ _ _ _ _ A1.out
      have D1_0 : V3.cell? ⟨w.heap.size + 1, 0, none⟩ = some (.int .i64 y') := cell_of_row _ _ _ _ _ _ D1.out
      have D1_1 : V3.cell? ⟨w.heap.size + 1, 1, none⟩ = some (.int .i64 m') := cell_of_row _ _ _ _ _ _ D1.out
      have D1_2 : V3.cell? ⟨w.heap.size + 1, 2, none⟩ = some (.int .i64 d') := cell_of_row _ _ _ _ _ _ D1.out
      have Z1_0 : V3.cell? ⟨w.heap.size + 1 + 1, 0, none⟩ = some (.int .i64 0) := cell_of_row _ _ _ _ _ _ Z1.out
      have Z1_1 : V3.cell? ⟨w.heap.size + 1 + 1, 1, none⟩ = some (.int .i64 0) := cell_of_row _ _ _ _ _ _ Z1.out
      have Z1_2 : V3.cell? ⟨w.heap.size + 1 + 1, 2, none⟩ = some (.int .i64 0) := cell_of_row _ _ _ _ _ _ Z1.out
      have Z1_f0 : V3.frozen? ⟨w.heap.size + 1 + 1, 0, none⟩ = false := by simp [World.frozen?, Z1.out]
      have Z1_f1 : V3.frozen? ⟨w.heap.size + 1 + 1, 1, none⟩ = false := by simp [World.frozen?, Z1.out]
      have Z1_f2 : V3.frozen? ⟨w.heap.size + 1 + 1, 2, none⟩ = false := by simp [World.frozen?, Z1.out]
      have zA1 := lt_of_heap A1.out
      have zD1 := lt_of_heap D1.out
      have zZ1 := lt_of_heap Z1.out
      go_simp
      go_wp2
      refine shut_ret (v := .tuple #[.agg #[.int .i64 f1, .int .i64 f2, .int .i64 f3], .int .i64 E]) (by simp [results, Try.results9, go_sem, zZ1, Z1_0, Z1_1, Z1_2]) rfl ⟨rfl, ?_⟩
      exact keep3 B3.out (by omega) _ _ _
    · rw [spE_no (fun h => by have := h.2; omega)]
      simp only [fdP_err]
      rw [e] at X1
      rw [e'] at X2
      have H1 := Lib.hid X1
      have H2 := Lib.hid X2
      clear X1 X2 X3 e e'
      go_enter Try.func9, Try.ntmps9
      refine wp_shut ?_
      go_wp2_with fail
      
      refine (H1.out _).mono ?_
      rintro e V1 ⟨rfl, hb1⟩
      have B1 := Lib.hid (((((Below.refl w.heap.size w).alloc (Nat.le_refl _) _).alloc (by simp <;> omega) _).alloc (by simp <;> omega) _).trans (hb1.mono (by first | assumption | (simp <;> omega) | (simp; done))))
      have A1 := Lib.hid (row_call hb1 (row_alloc (row_alloc (heap_alloc_new _ _) _) _))
      have D1 := Lib.hid (row_at (k' := w.heap.size + 1) (by simp) (row_call hb1 (row_alloc (heap_alloc_new _ _) _)))
      have Z1 := Lib.hid (row_at (k' := w.heap.size + 1 + 1) (by simp) (row_call hb1 (heap_alloc_new _ _)))
      clear hb1
      have A1_0 : V1.cell? ⟨w.heap.size, 0, none⟩ = some (.int .i64 y) := cell_of_row _ _ _ _ _ _ A1.out
      have A1_1 : V1.cell? ⟨w.heap.size, 1, none⟩ = some (.int .i64 m) := cell_of_row _ _ _ _ _ _ A1.out
      have A1_2 : V1.cell? ⟨w.heap.size, 2, none⟩ = some (.int .i64 d) := cell_of_row _ _ _ _ _ _ A1.out
      have D1_0 : V1.cell? ⟨w.heap.size + 1, 0, none⟩ = some (.int .i64 y') := cell_of_row _ _ _ _ _ _ D1.out
      have D1_1 : V1.cell? ⟨w.heap.size + 1, 1, none⟩ = some (.int .i64 m') := cell_of_row _ _ _ _ _ _ D1.out
      have D1_2 : V1.cell? ⟨w.heap.size + 1, 2, none⟩ = some (.int .i64 d') := cell_of_row _ _ _ _ _ _ D1.out
      have Z1_0 : V1.cell? ⟨w.heap.size + 1 + 1, 0, none⟩ = some (.int .i64 0) := cell_of_row _ _ _ _ _ _ Z1.out
      have Z1_1 : V1.cell? ⟨w.heap.size + 1 + 1, 1, none⟩ = some (.int .i64 0) := cell_of_row _ _ _ _ _ _ Z1.out
      have Z1_2 : V1.cell? ⟨w.heap.size + 1 + 1, 2, none⟩ = some (.int .i64 0) := cell_of_row _ _ _ _ _ _ Z1.out
      have Z1_f0 : V1.frozen? ⟨w.heap.size + 1 + 1, 0, none⟩ = false := by simp [World.frozen?, Z1.out]
      have Z1_f1 : V1.frozen? ⟨w.heap.size + 1 + 1, 1, none⟩ = false := by simp [World.frozen?, Z1.out]
      have Z1_f2 : V1.frozen? ⟨w.heap.size + 1 + 1, 2, none⟩ = false := by simp [World.frozen?, Z1.out]
      have zA1 := lt_of_heap A1.out
      have zD1 := lt_of_heap D1.out
      have zZ1 := lt_of_heap Z1.out
      go_simp
      go_wp2_with fail
      refine (H2.out _).mono ?_
      rintro e V2 ⟨rfl, hb2⟩
      clear A1_0 A1_1 A1_2 zA1 D1_0 D1_1 D1_2 zD1 Z1_0 Z1_1 Z1_2 Z1_f0 Z1_f1 Z1_f2 zZ1
      have B2 : Hid (Below w.heap.size w V2) := by first | exact Lib.hid ((B1.out).trans (hb2.mono (by have := B1.out.size; first | assumption | (simp <;> omega) | (simp; done)))) | exact Lib.hid (((B1.out).alloc (B1.out.size) _).trans (hb2.mono (by have := B1.out.size; first | assumption | (simp <;> omega) | (simp; done)))) | exact Lib.hid ((((B1.out).alloc (B1.out.size) _).alloc (by have := B1.out.size; simp <;> omega) _).trans (hb2.mono (by have := B1.out.size; first | assumption | (simp <;> omega) | (simp; done)))) | exact Lib.hid (((((B1.out).alloc (B1.out.size) _).alloc (by have := B1.out.size; simp <;> omega) _).alloc (by have := B1.out.size; simp <;> omega) _).trans (hb2.mono (by have := B1.out.size; first | assumption | (simp <;> omega) | (simp; done))))
      first | replace A1 := Lib.hid (row_call hb2 A1.out) | replace A1 := Lib.hid (row_call hb2 (row_alloc A1.out _)) | replace A1 := Lib.hid (row_call hb2 (row_alloc (row_alloc A1.out _) _)) | replace A1 := Lib.hid (row_call hb2 (row_alloc (row_alloc (row_alloc A1.out _) _) _))
      first | replace D1 := Lib.hid (row_call hb2 D1.out) | replace D1 := Lib.hid (row_call hb2 (row_alloc D1.out _)) | replace D1 := Lib.hid (row_call hb2 (row_alloc (row_alloc D1.out _) _)) | replace D1 := Lib.hid (row_call hb2 (row_alloc (row_alloc (row_alloc D1.out _) _) _))
      first | replace Z1 := Lib.hid (row_call hb2 Z1.out) | replace Z1 := Lib.hid (row_call hb2 (row_alloc Z1.out _)) | replace Z1 := Lib.hid (row_call hb2 (row_alloc (row_alloc Z1.out _) _)) | replace Z1 := Lib.hid (row_call hb2 (row_alloc (row_alloc (row_alloc Z1.out _) _) _))
      clear hb2
      have A1_0 : V2.cell? ⟨w.heap.size, 0, none⟩ = some (.int .i64 y) := cell_of_row _ _ _ _ _ _ A1.out
      have A1_1 : V2.cell? ⟨w.heap.size, 1, none⟩ = some (.int .i64 m) := cell_of_row _ _ _ _ _ _ A1.out
      have A1_2 : V2.cell? ⟨w.heap.size, 2, none⟩ = some (.int .i64 d) := cell_of_row _ _ _ _ _ _ A1.out
      have D1_0 : V2.cell? ⟨w.heap.size + 1, 0, none⟩ = some (.int .i64 y') := cell_of_row _ _ _ _ _ _ D1.out
      have D1_1 : V2.cell? ⟨w.heap.size + 1, 1, none⟩ = some (.int .i64 m') := cell_of_row _ _ _ _ _ _ D1.out
      have D1_2 : V2.cell? ⟨w.heap.size + 1, 2, none⟩ = some (.int .i64 d') := cell_of_row _ _ _ _ _ _ D1.out
      have Z1_0 : V2.cell? ⟨w.heap.size + 1 + 1, 0, none⟩ = some (.int .i64 0) := cell_of_row _ _ _ _ _ _ Z1.out
      have Z1_1 : V2.cell? ⟨w.heap.size + 1 + 1, 1, none⟩ = some (.int .i64 0) := cell_of_row _ _ _ _ _ _ Z1.out
      have Z1_2 : V2.cell? ⟨w.heap.size + 1 + 1, 2, none⟩ = some (.int .i64 0) := cell_of_row _ _ _ _ _ _ Z1.out
      have Z1_f0 : V2.frozen? ⟨w.heap.size + 1 + 1, 0, none⟩ = false := by simp [World.frozen?, Z1.out]
      have Z1_f1 : V2.frozen? ⟨w.heap.size + 1 + 1, 1, none⟩ = false := by simp [World.frozen?, Z1.out]
      have Z1_f2 : V2.frozen? ⟨w.heap.size + 1 + 1, 2, none⟩ = false := by simp [World.frozen?, Z1.out]
      have zA1 := lt_of_heap A1.out
      have zD1 := lt_of_heap D1.out
      have zZ1 := lt_of_heap Z1.out
      go_simp
      go_wp2
      refine shut_ret (v := .tuple #[.agg #[.int .i64 0, .int .i64 0, .int .i64 0], .int .i64 8]) (by simp [results, Try.results9, go_sem, zZ1, Z1_0, Z1_1, Z1_2]) rfl ⟨rfl, ?_⟩
      exact keep3 B2.out (by omega) _ _ _
  · rw [spE_no (fun h => by have := h.1; omega)]
    simp only [fdP_err]
    rw [e] at X1
    have H1 := Lib.hid X1
    clear X1 X2 X3 e
    go_enter Try.func9, Try.ntmps9
    refine wp_shut ?_
    go_wp2_with fail
    
    refine (H1.out _).mono ?_
    rintro e V1 ⟨rfl, hb1⟩
    have B1 := Lib.hid (((((Below.refl w.heap.size w).alloc (Nat.le_refl _) _).alloc (by simp <;> omega) _).alloc (by simp <;> omega) _).trans (hb1.mono (by first | assumption | (simp <;> omega) | (simp; done))))
    have A1 := Lib.hid (row_call hb1 (row_alloc (row_alloc (heap_alloc_new _ _) _) _))
    have D1 := Lib.hid (row_at (k' := w.heap.size + 1) (by simp) (row_call hb1 (row_alloc (heap_alloc_new _ _) _)))
    have Z1 := Lib.hid (row_at (k' := w.heap.size + 1 + 1) (by simp) (row_call hb1 (heap_alloc_new _ _)))
    clear hb1
    have A1_0 : V1.cell? ⟨w.heap.size, 0, none⟩ = some (.int .i64 y) := cell_of_row _ _ _ _ _ _ A1.out
    have A1_1 : V1.cell? ⟨w.heap.size, 1, none⟩ = some (.int .i64 m) := cell_of_row _ _ _ _ _ _ A1.out
    have A1_2 : V1.cell? ⟨w.heap.size, 2, none⟩ = some (.int .i64 d) := cell_of_row _ _ _ _ _ _ A1.out
    have D1_0 : V1.cell? ⟨w.heap.size + 1, 0, none⟩ = some (.int .i64 y') := cell_of_row _ _ _ _ _ _ D1.out
    have D1_1 : V1.cell? ⟨w.heap.size + 1, 1, none⟩ = some (.int .i64 m') := cell_of_row _ _ _ _ _ _ D1.out
    have D1_2 : V1.cell? ⟨w.heap.size + 1, 2, none⟩ = some (.int .i64 d') := cell_of_row _ _ _ _ _ _ D1.out
    have Z1_0 : V1.cell? ⟨w.heap.size + 1 + 1, 0, none⟩ = some (.int .i64 0) := cell_of_row _ _ _ _ _ _ Z1.out
    have Z1_1 : V1.cell? ⟨w.heap.size + 1 + 1, 1, none⟩ = some (.int .i64 0) := cell_of_row _ _ _ _ _ _ Z1.out
    have Z1_2 : V1.cell? ⟨w.heap.size + 1 + 1, 2, none⟩ = some (.int .i64 0) := cell_of_row _ _ _ _ _ _ Z1.out
    have Z1_f0 : V1.frozen? ⟨w.heap.size + 1 + 1, 0, none⟩ = false := by simp [World.frozen?, Z1.out]
    have Z1_f1 : V1.frozen? ⟨w.heap.size + 1 + 1, 1, none⟩ = false := by simp [World.frozen?, Z1.out]
    have Z1_f2 : V1.frozen? ⟨w.heap.size + 1 + 1, 2, none⟩ = false := by simp [World.frozen?, Z1.out]
    have zA1 := lt_of_heap A1.out
    have zD1 := lt_of_heap D1.out
    have zZ1 := lt_of_heap Z1.out
    go_simp
    go_wp2
    refine shut_ret (v := .tuple #[.agg #[.int .i64 0, .int .i64 0, .int .i64 0], .int .i64 8]) (by simp [results, Try.results9, go_sem, zZ1, Z1_0, Z1_1, Z1_2]) rfl ⟨rfl, ?_⟩
    exact keep3 B1.out (by omega) _ _ _
/-- years and months of one sign. -/
def blE (y m d : Int) : Int := if ckP y m d = 0 then ckP ((12 * y + m).tdiv 12) ((12 * y + m).tmod 12) d else 8
set_option maxHeartbeats 3200000 in
set_option maxRecDepth 100000 in
theorem rpBalance_any (y m d : Int) (w : World) : Calls Try.prog 17 #[.agg #[.int .i64 y, .int .i64 m, .int .i64 d]] w fun e w' =>
    e = .returned (.tuple #[.agg #[.int .i64 (fdP (blE y m d) ((12 * y + m).tdiv 12)), .int .i64 (fdP (blE y m d) ((12 * y + m).tmod 12)), .int .i64 (fdP (blE y m d) d)], .int .i64 (blE y m d)]) ∧ Below w.heap.size w w' := by
  have X1 := rpCheck_any y m d
  have X2 := rpMonths_any y m d
  have X3 := rpMay_any ((12 * y + m).tdiv 12) ((12 * y + m).tmod 12) d
  rcases ckP_two y m d with ⟨e, _⟩ | ⟨e, _⟩
  · have b := of_ckP e
    rw [show blE y m d = ckP ((12 * y + m).tdiv 12) ((12 * y + m).tmod 12) d from if_pos e]
    rw [e] at X1 X2
    simp only [fdP_zero] at X2
    obtain ⟨t1, t2, t3, t4⟩ := tdiv_parts (12 * y + m) 12 (by decide)
    have t5 := Int.tmod_add_mul_tdiv (12 * y + m) 12
    have H1 := Lib.hid X1
    have H2 := Lib.hid X2
    have H3 := Lib.hid X3
    have g1 : -2000000 ≤ (12 * y + m).tdiv 12 := by omega
    have g2 : (12 * y + m).tdiv 12 ≤ 2000000 := by omega
    clear X1 X2 X3 e t1 t2 t5 b
    generalize fdP (ckP ((12 * y + m).tdiv 12) ((12 * y + m).tmod 12) d) ((12 * y + m).tdiv 12) = f1 at *
    generalize fdP (ckP ((12 * y + m).tdiv 12) ((12 * y + m).tmod 12) d) ((12 * y + m).tmod 12) = f2 at *
    generalize fdP (ckP ((12 * y + m).tdiv 12) ((12 * y + m).tmod 12) d) d = f3 at *
    generalize ckP ((12 * y + m).tdiv 12) ((12 * y + m).tmod 12) d = E at *
    generalize 12 * y + m = N at *
    generalize hq : N.tdiv 12 = q at *
    generalize hr : N.tmod 12 = r at *
    go_enter Try.func17, Try.ntmps17
    refine wp_shut ?_
    go_wp2_with fail
    
    refine (H1.out _).mono ?_
    rintro e V1 ⟨rfl, hb1⟩
    have B1 := Lib.hid ((((Below.refl w.heap.size w).alloc (Nat.le_refl _) _).alloc (by simp <;> omega) _).trans (hb1.mono (by first | assumption | (simp <;> omega) | (simp; done))))
    have A1 := Lib.hid (row_call hb1 (row_alloc (heap_alloc_new _ _) _))
    have Z1 := Lib.hid (row_at (k' := w.heap.size + 1) (by simp) (row_call hb1 (heap_alloc_new _ _)))
    clear hb1
    have A1_0 : V1.cell? ⟨w.heap.size, 0, none⟩ = some (.int .i64 y) := cell_of_row _ _ _ _ _ _ A1.out
    have A1_1 : V1.cell? ⟨w.heap.size, 1, none⟩ = some (.int .i64 m) := cell_of_row _ _ _ _ _ _ A1.out
    have A1_2 : V1.cell? ⟨w.heap.size, 2, none⟩ = some (.int .i64 d) := cell_of_row _ _ _ _ _ _ A1.out
    have Z1_0 : V1.cell? ⟨w.heap.size + 1, 0, none⟩ = some (.int .i64 0) := cell_of_row _ _ _ _ _ _ Z1.out
    have Z1_1 : V1.cell? ⟨w.heap.size + 1, 1, none⟩ = some (.int .i64 0) := cell_of_row _ _ _ _ _ _ Z1.out
    have Z1_2 : V1.cell? ⟨w.heap.size + 1, 2, none⟩ = some (.int .i64 0) := cell_of_row _ _ _ _ _ _ Z1.out
    have Z1_f0 : V1.frozen? ⟨w.heap.size + 1, 0, none⟩ = false := by simp [World.frozen?, Z1.out]
    have Z1_f1 : V1.frozen? ⟨w.heap.size + 1, 1, none⟩ = false := by simp [World.frozen?, Z1.out]
    have Z1_f2 : V1.frozen? ⟨w.heap.size + 1, 2, none⟩ = false := by simp [World.frozen?, Z1.out]
    have zA1 := lt_of_heap A1.out
    have zZ1 := lt_of_heap Z1.out
    go_simp
    go_wp2_with fail
    refine (H2.out _).mono ?_
    rintro e V2 ⟨rfl, hb2⟩
    clear A1_0 A1_1 A1_2 zA1 Z1_0 Z1_1 Z1_2 Z1_f0 Z1_f1 Z1_f2 zZ1
    have B2 : Hid (Below w.heap.size w V2) := by first | exact Lib.hid ((B1.out).trans (hb2.mono (by have := B1.out.size; first | assumption | (simp <;> omega) | (simp; done)))) | exact Lib.hid (((B1.out).alloc (B1.out.size) _).trans (hb2.mono (by have := B1.out.size; first | assumption | (simp <;> omega) | (simp; done)))) | exact Lib.hid ((((B1.out).alloc (B1.out.size) _).alloc (by have := B1.out.size; simp <;> omega) _).trans (hb2.mono (by have := B1.out.size; first | assumption | (simp <;> omega) | (simp; done)))) | exact Lib.hid (((((B1.out).alloc (B1.out.size) _).alloc (by have := B1.out.size; simp <;> omega) _).alloc (by have := B1.out.size; simp <;> omega) _).trans (hb2.mono (by have := B1.out.size; first | assumption | (simp <;> omega) | (simp; done))))
    first | replace A1 := Lib.hid (row_call hb2 A1.out) | replace A1 := Lib.hid (row_call hb2 (row_alloc A1.out _)) | replace A1 := Lib.hid (row_call hb2 (row_alloc (row_alloc A1.out _) _)) | replace A1 := Lib.hid (row_call hb2 (row_alloc (row_alloc (row_alloc A1.out _) _) _))
    first | replace Z1 := Lib.hid (row_call hb2 Z1.out) | replace Z1 := Lib.hid (row_call hb2 (row_alloc Z1.out _)) | replace Z1 := Lib.hid (row_call hb2 (row_alloc (row_alloc Z1.out _) _)) | replace Z1 := Lib.hid (row_call hb2 (row_alloc (row_alloc (row_alloc Z1.out _) _) _))
    clear hb2
    have A1_0 : V2.cell? ⟨w.heap.size, 0, none⟩ = some (.int .i64 y) := cell_of_row _ _ _ _ _ _ A1.out
    have A1_1 : V2.cell? ⟨w.heap.size, 1, none⟩ = some (.int .i64 m) := cell_of_row _ _ _ _ _ _ A1.out
    have A1_2 : V2.cell? ⟨w.heap.size, 2, none⟩ = some (.int .i64 d) := cell_of_row _ _ _ _ _ _ A1.out
    have Z1_0 : V2.cell? ⟨w.heap.size + 1, 0, none⟩ = some (.int .i64 0) := cell_of_row _ _ _ _ _ _ Z1.out
    have Z1_1 : V2.cell? ⟨w.heap.size + 1, 1, none⟩ = some (.int .i64 0) := cell_of_row _ _ _ _ _ _ Z1.out
    have Z1_2 : V2.cell? ⟨w.heap.size + 1, 2, none⟩ = some (.int .i64 0) := cell_of_row _ _ _ _ _ _ Z1.out
    have Z1_f0 : V2.frozen? ⟨w.heap.size + 1, 0, none⟩ = false := by simp [World.frozen?, Z1.out]
    have Z1_f1 : V2.frozen? ⟨w.heap.size + 1, 1, none⟩ = false := by simp [World.frozen?, Z1.out]
    have Z1_f2 : V2.frozen? ⟨w.heap.size + 1, 2, none⟩ = false := by simp [World.frozen?, Z1.out]
    have zA1 := lt_of_heap A1.out
    have zZ1 := lt_of_heap Z1.out
    go_simp
    go_wp2_with fail
    refine (H3.out _).mono ?_
    rintro e V3 ⟨rfl, hb3⟩
    clear A1_0 A1_1 A1_2 zA1 Z1_0 Z1_1 Z1_2 Z1_f0 Z1_f1 Z1_f2 zZ1
    have B3 : Hid (Below w.heap.size w V3) := by first | exact Lib.hid ((B2.out).trans (hb3.mono (by have := B2.out.size; first | assumption | (simp <;> omega) | (simp; done)))) | exact Lib.hid (((B2.out).alloc (B2.out.size) _).trans (hb3.mono (by have := B2.out.size; first | assumption | (simp <;> omega) | (simp; done)))) | exact Lib.hid ((((B2.out).alloc (B2.out.size) _).alloc (by have := B2.out.size; simp <;> omega) _).trans (hb3.mono (by have := B2.out.size; first | assumption | (simp <;> omega) | (simp; done)))) | exact Lib.hid (((((B2.out).alloc (B2.out.size) _).alloc (by have := B2.out.size; simp <;> omega) _).alloc (by have := B2.out.size; simp <;> omega) _).trans (hb3.mono (by have := B2.out.size; first | assumption | (simp <;> omega) | (simp; done))))
    first | replace A1 := Lib.hid (row_call hb3 A1.out) | replace A1 := Lib.hid (row_call hb3 (row_alloc A1.out _)) | replace A1 := Lib.hid (row_call hb3 (row_alloc (row_alloc A1.out _) _)) | replace A1 := Lib.hid (row_call hb3 (row_alloc (row_alloc (row_alloc A1.out _) _) _))
    first | replace Z1 := Lib.hid (row_call hb3 Z1.out) | replace Z1 := Lib.hid (row_call hb3 (row_alloc Z1.out _)) | replace Z1 := Lib.hid (row_call hb3 (row_alloc (row_alloc Z1.out _) _)) | replace Z1 := Lib.hid (row_call hb3 (row_alloc (row_alloc (row_alloc Z1.out _) _) _))
    clear hb3
    have A1_0 : V3.cell? ⟨w.heap.size, 0, none⟩ = some (.int .i64 y) := cell_of_row _ _ _ _ _ _ A1.out
    have A1_1 : V3.cell? ⟨w.heap.size, 1, none⟩ = some (.int .i64 m) := cell_of_row _ _ _ _ _ _ A1.out
    have A1_2 : V3.cell? ⟨w.heap.size, 2, none⟩ = some (.int .i64 d) := cell_of_row _ _ _ _ _ _ A1.out
    have Z1_0 : V3.cell? ⟨w.heap.size + 1, 0, none⟩ = some (.int .i64 0) := cell_of_row _ _ _ _ _ _ Z1.out
    have Z1_1 : V3.cell? ⟨w.heap.size + 1, 1, none⟩ = some (.int .i64 0) := cell_of_row _ _ _ _ _ _ Z1.out
    have Z1_2 : V3.cell? ⟨w.heap.size + 1, 2, none⟩ = some (.int .i64 0) := cell_of_row _ _ _ _ _ _ Z1.out
    have Z1_f0 : V3.frozen? ⟨w.heap.size + 1, 0, none⟩ = false := by simp [World.frozen?, Z1.out]
    have Z1_f1 : V3.frozen? ⟨w.heap.size + 1, 1, none⟩ = false := by simp [World.frozen?, Z1.out]
    have Z1_f2 : V3.frozen? ⟨w.heap.size + 1, 2, none⟩ = false := by simp [World.frozen?, Z1.out]
    have zA1 := lt_of_heap A1.out
    have zZ1 := lt_of_heap Z1.out
    go_simp
    go_wp2
    refine shut_ret (v := .tuple #[.agg #[.int .i64 f1, .int .i64 f2, .int .i64 f3], .int .i64 E]) (by simp [results, Try.results17, go_sem, zZ1, Z1_0, Z1_1, Z1_2]) rfl ⟨rfl, ?_⟩
    exact keep3 B3.out (by omega) _ _ _
  · rw [show blE y m d = 8 from if_neg (by omega)]
    simp only [fdP_err]
    rw [e] at X1
    have H1 := Lib.hid X1
    clear X1 X2 X3 e
    go_enter Try.func17, Try.ntmps17
    refine wp_shut ?_
    go_wp2_with fail
    
    refine (H1.out _).mono ?_
    rintro e V1 ⟨rfl, hb1⟩
    have B1 := Lib.hid ((((Below.refl w.heap.size w).alloc (Nat.le_refl _) _).alloc (by simp <;> omega) _).trans (hb1.mono (by first | assumption | (simp <;> omega) | (simp; done))))
    have A1 := Lib.hid (row_call hb1 (row_alloc (heap_alloc_new _ _) _))
    have Z1 := Lib.hid (row_at (k' := w.heap.size + 1) (by simp) (row_call hb1 (heap_alloc_new _ _)))
    clear hb1
    have A1_0 : V1.cell? ⟨w.heap.size, 0, none⟩ = some (.int .i64 y) := cell_of_row _ _ _ _ _ _ A1.out
    have A1_1 : V1.cell? ⟨w.heap.size, 1, none⟩ = some (.int .i64 m) := cell_of_row _ _ _ _ _ _ A1.out
    have A1_2 : V1.cell? ⟨w.heap.size, 2, none⟩ = some (.int .i64 d) := cell_of_row _ _ _ _ _ _ A1.out
    have Z1_0 : V1.cell? ⟨w.heap.size + 1, 0, none⟩ = some (.int .i64 0) := cell_of_row _ _ _ _ _ _ Z1.out
    have Z1_1 : V1.cell? ⟨w.heap.size + 1, 1, none⟩ = some (.int .i64 0) := cell_of_row _ _ _ _ _ _ Z1.out
    have Z1_2 : V1.cell? ⟨w.heap.size + 1, 2, none⟩ = some (.int .i64 0) := cell_of_row _ _ _ _ _ _ Z1.out
    have Z1_f0 : V1.frozen? ⟨w.heap.size + 1, 0, none⟩ = false := by simp [World.frozen?, Z1.out]
    have Z1_f1 : V1.frozen? ⟨w.heap.size + 1, 1, none⟩ = false := by simp [World.frozen?, Z1.out]
    have Z1_f2 : V1.frozen? ⟨w.heap.size + 1, 2, none⟩ = false := by simp [World.frozen?, Z1.out]
    have zA1 := lt_of_heap A1.out
    have zZ1 := lt_of_heap Z1.out
    go_simp
    go_wp2
    refine shut_ret (v := .tuple #[.agg #[.int .i64 0, .int .i64 0, .int .i64 0], .int .i64 8]) (by simp [results, Try.results17, go_sem, zZ1, Z1_0, Z1_1, Z1_2]) rfl ⟨rfl, ?_⟩
    exact keep3 B1.out (by omega) _ _ _
/-- the error of so many times a period. -/
def mpE (y m d n : Int) : Int := if ckP y m d = 0 then ckP (y * n) (m * n) (d * n) else 8
theorem iE_two (z : Int) : (iE z = 0 ∧ iV z = z) ∨ (iE z = 8 ∧ (z < -9223372036854775808 ∨ 9223372036854775808 ≤ z)) := by
  unfold iE iV
  by_cases h : -9223372036854775808 ≤ z ∧ z < 9223372036854775808
  · exact Or.inl ⟨if_pos h, if_pos h⟩
  · exact Or.inr ⟨if_neg h, by omega⟩
set_option maxHeartbeats 3200000 in
set_option maxRecDepth 100000 in
theorem rpMul_any (y m d n : Int) (bn : in64 n) (w : World) : Calls Try.prog 11 #[.agg #[.int .i64 y, .int .i64 m, .int .i64 d], .int .i64 n] w fun e w' =>
    e = .returned (.tuple #[.agg #[.int .i64 (fdP (mpE y m d n) (y * n)), .int .i64 (fdP (mpE y m d n) (m * n)), .int .i64 (fdP (mpE y m d n) (d * n))], .int .i64 (mpE y m d n)]) ∧ Below w.heap.size w w' := by
  have X1 := rpCheck_any y m d
  rcases ckP_two y m d with ⟨e, _⟩ | ⟨e, _⟩
  · have b := of_ckP e
    have X2 := rcMul_any y n (by unfold in64; omega) bn
    have X3 := rcMul_any m n (by unfold in64; omega) bn
    have X4 := rcMul_any d n (by unfold in64; omega) bn
    have X5 := rpMay_any (y * n) (m * n) (d * n)
    rw [show mpE y m d n = ckP (y * n) (m * n) (d * n) from if_pos e]
    rw [e] at X1
    have H1 := Lib.hid X1
    clear X1 e b
    by_cases k : iE (y * n) = 0 ∧ iE (m * n) = 0 ∧ iE (d * n) = 0
    · obtain ⟨k1, k2, k3⟩ := k
      have v1 : iV (y * n) = y * n := by rcases iE_two (y * n) with ⟨_, a⟩ | ⟨a, _⟩; exact a; omega
      have v2 : iV (m * n) = m * n := by rcases iE_two (m * n) with ⟨_, a⟩ | ⟨a, _⟩; exact a; omega
      have v3 : iV (d * n) = d * n := by rcases iE_two (d * n) with ⟨_, a⟩ | ⟨a, _⟩; exact a; omega
      rw [k1, v1] at X2
      rw [k2, v2] at X3
      rw [k3, v3] at X4
      have H2 := Lib.hid X2
      have H3 := Lib.hid X3
      have H4 := Lib.hid X4
      have H5 := Lib.hid X5
      clear X2 X3 X4 X5 k1 k2 k3 v1 v2 v3
      generalize fdP (ckP (y * n) (m * n) (d * n)) (y * n) = f1 at *
      generalize fdP (ckP (y * n) (m * n) (d * n)) (m * n) = f2 at *
      generalize fdP (ckP (y * n) (m * n) (d * n)) (d * n) = f3 at *
      generalize ckP (y * n) (m * n) (d * n) = E at *
      generalize y * n = a1 at *
      generalize m * n = a2 at *
      generalize d * n = a3 at *
      go_enter Try.func11, Try.ntmps11
      refine wp_shut ?_
      go_wp2_with fail
      
      refine (H1.out _).mono ?_
      rintro e V1 ⟨rfl, hb1⟩
      have B1 := Lib.hid ((((Below.refl w.heap.size w).alloc (Nat.le_refl _) _).alloc (by simp <;> omega) _).trans (hb1.mono (by first | assumption | (simp <;> omega) | (simp; done))))
      have A1 := Lib.hid (row_call hb1 (row_alloc (heap_alloc_new _ _) _))
      have Z1 := Lib.hid (row_at (k' := w.heap.size + 1) (by simp) (row_call hb1 (heap_alloc_new _ _)))
      clear hb1
      have A1_0 : V1.cell? ⟨w.heap.size, 0, none⟩ = some (.int .i64 y) := cell_of_row _ _ _ _ _ _ A1.out
      have A1_1 : V1.cell? ⟨w.heap.size, 1, none⟩ = some (.int .i64 m) := cell_of_row _ _ _ _ _ _ A1.out
      have A1_2 : V1.cell? ⟨w.heap.size, 2, none⟩ = some (.int .i64 d) := cell_of_row _ _ _ _ _ _ A1.out
      have Z1_0 : V1.cell? ⟨w.heap.size + 1, 0, none⟩ = some (.int .i64 0) := cell_of_row _ _ _ _ _ _ Z1.out
      have Z1_1 : V1.cell? ⟨w.heap.size + 1, 1, none⟩ = some (.int .i64 0) := cell_of_row _ _ _ _ _ _ Z1.out
      have Z1_2 : V1.cell? ⟨w.heap.size + 1, 2, none⟩ = some (.int .i64 0) := cell_of_row _ _ _ _ _ _ Z1.out
      have Z1_f0 : V1.frozen? ⟨w.heap.size + 1, 0, none⟩ = false := by simp [World.frozen?, Z1.out]
      have Z1_f1 : V1.frozen? ⟨w.heap.size + 1, 1, none⟩ = false := by simp [World.frozen?, Z1.out]
      have Z1_f2 : V1.frozen? ⟨w.heap.size + 1, 2, none⟩ = false := by simp [World.frozen?, Z1.out]
      have zA1 := lt_of_heap A1.out
      have zZ1 := lt_of_heap Z1.out
      go_simp
      go_wp2_with fail
      refine (H2.out _).mono ?_
      rintro e V2 ⟨rfl, hb2⟩
      clear A1_0 A1_1 A1_2 zA1 Z1_0 Z1_1 Z1_2 Z1_f0 Z1_f1 Z1_f2 zZ1
      have B2 : Hid (Below w.heap.size w V2) := by first | exact Lib.hid ((B1.out).trans (hb2.mono (by have := B1.out.size; first | assumption | (simp <;> omega) | (simp; done)))) | exact Lib.hid (((B1.out).alloc (B1.out.size) _).trans (hb2.mono (by have := B1.out.size; first | assumption | (simp <;> omega) | (simp; done)))) | exact Lib.hid ((((B1.out).alloc (B1.out.size) _).alloc (by have := B1.out.size; simp <;> omega) _).trans (hb2.mono (by have := B1.out.size; first | assumption | (simp <;> omega) | (simp; done)))) | exact Lib.hid (((((B1.out).alloc (B1.out.size) _).alloc (by have := B1.out.size; simp <;> omega) _).alloc (by have := B1.out.size; simp <;> omega) _).trans (hb2.mono (by have := B1.out.size; first | assumption | (simp <;> omega) | (simp; done))))
      first | replace A1 := Lib.hid (row_call hb2 A1.out) | replace A1 := Lib.hid (row_call hb2 (row_alloc A1.out _)) | replace A1 := Lib.hid (row_call hb2 (row_alloc (row_alloc A1.out _) _)) | replace A1 := Lib.hid (row_call hb2 (row_alloc (row_alloc (row_alloc A1.out _) _) _))
      first | replace Z1 := Lib.hid (row_call hb2 Z1.out) | replace Z1 := Lib.hid (row_call hb2 (row_alloc Z1.out _)) | replace Z1 := Lib.hid (row_call hb2 (row_alloc (row_alloc Z1.out _) _)) | replace Z1 := Lib.hid (row_call hb2 (row_alloc (row_alloc (row_alloc Z1.out _) _) _))
      clear hb2
      have A1_0 : V2.cell? ⟨w.heap.size, 0, none⟩ = some (.int .i64 y) := cell_of_row _ _ _ _ _ _ A1.out
      have A1_1 : V2.cell? ⟨w.heap.size, 1, none⟩ = some (.int .i64 m) := cell_of_row _ _ _ _ _ _ A1.out
      have A1_2 : V2.cell? ⟨w.heap.size, 2, none⟩ = some (.int .i64 d) := cell_of_row _ _ _ _ _ _ A1.out
      have Z1_0 : V2.cell? ⟨w.heap.size + 1, 0, none⟩ = some (.int .i64 0) := cell_of_row _ _ _ _ _ _ Z1.out
      have Z1_1 : V2.cell? ⟨w.heap.size + 1, 1, none⟩ = some (.int .i64 0) := cell_of_row _ _ _ _ _ _ Z1.out
      have Z1_2 : V2.cell? ⟨w.heap.size + 1, 2, none⟩ = some (.int .i64 0) := cell_of_row _ _ _ _ _ _ Z1.out
      have Z1_f0 : V2.frozen? ⟨w.heap.size + 1, 0, none⟩ = false := by simp [World.frozen?, Z1.out]
      have Z1_f1 : V2.frozen? ⟨w.heap.size + 1, 1, none⟩ = false := by simp [World.frozen?, Z1.out]
      have Z1_f2 : V2.frozen? ⟨w.heap.size + 1, 2, none⟩ = false := by simp [World.frozen?, Z1.out]
      have zA1 := lt_of_heap A1.out
      have zZ1 := lt_of_heap Z1.out
      go_simp
      go_wp2_with fail
      refine (H3.out _).mono ?_
      rintro e V3 ⟨rfl, hb3⟩
      clear A1_0 A1_1 A1_2 zA1 Z1_0 Z1_1 Z1_2 Z1_f0 Z1_f1 Z1_f2 zZ1
      have B3 : Hid (Below w.heap.size w V3) := by first | exact Lib.hid ((B2.out).trans (hb3.mono (by have := B2.out.size; first | assumption | (simp <;> omega) | (simp; done)))) | exact Lib.hid (((B2.out).alloc (B2.out.size) _).trans (hb3.mono (by have := B2.out.size; first | assumption | (simp <;> omega) | (simp; done)))) | exact Lib.hid ((((B2.out).alloc (B2.out.size) _).alloc (by have := B2.out.size; simp <;> omega) _).trans (hb3.mono (by have := B2.out.size; first | assumption | (simp <;> omega) | (simp; done)))) | exact Lib.hid (((((B2.out).alloc (B2.out.size) _).alloc (by have := B2.out.size; simp <;> omega) _).alloc (by have := B2.out.size; simp <;> omega) _).trans (hb3.mono (by have := B2.out.size; first | assumption | (simp <;> omega) | (simp; done))))
      first | replace A1 := Lib.hid (row_call hb3 A1.out) | replace A1 := Lib.hid (row_call hb3 (row_alloc A1.out _)) | replace A1 := Lib.hid (row_call hb3 (row_alloc (row_alloc A1.out _) _)) | replace A1 := Lib.hid (row_call hb3 (row_alloc (row_alloc (row_alloc A1.out _) _) _))
      first | replace Z1 := Lib.hid (row_call hb3 Z1.out) | replace Z1 := Lib.hid (row_call hb3 (row_alloc Z1.out _)) | replace Z1 := Lib.hid (row_call hb3 (row_alloc (row_alloc Z1.out _) _)) | replace Z1 := Lib.hid (row_call hb3 (row_alloc (row_alloc (row_alloc Z1.out _) _) _))
      clear hb3
      have A1_0 : V3.cell? ⟨w.heap.size, 0, none⟩ = some (.int .i64 y) := cell_of_row _ _ _ _ _ _ A1.out
      have A1_1 : V3.cell? ⟨w.heap.size, 1, none⟩ = some (.int .i64 m) := cell_of_row _ _ _ _ _ _ A1.out
      have A1_2 : V3.cell? ⟨w.heap.size, 2, none⟩ = some (.int .i64 d) := cell_of_row _ _ _ _ _ _ A1.out
      have Z1_0 : V3.cell? ⟨w.heap.size + 1, 0, none⟩ = some (.int .i64 0) := cell_of_row _ _ _ _ _ _ Z1.out
      have Z1_1 : V3.cell? ⟨w.heap.size + 1, 1, none⟩ = some (.int .i64 0) := cell_of_row _ _ _ _ _ _ Z1.out
      have Z1_2 : V3.cell? ⟨w.heap.size + 1, 2, none⟩ = some (.int .i64 0) := cell_of_row _ _ _ _ _ _ Z1.out
      have Z1_f0 : V3.frozen? ⟨w.heap.size + 1, 0, none⟩ = false := by simp [World.frozen?, Z1.out]
      have Z1_f1 : V3.frozen? ⟨w.heap.size + 1, 1, none⟩ = false := by simp [World.frozen?, Z1.out]
      have Z1_f2 : V3.frozen? ⟨w.heap.size + 1, 2, none⟩ = false := by simp [World.frozen?, Z1.out]
      have zA1 := lt_of_heap A1.out
      have zZ1 := lt_of_heap Z1.out
      go_simp
      go_wp2_with fail
      refine (H4.out _).mono ?_
      rintro e V4 ⟨rfl, hb4⟩
      clear A1_0 A1_1 A1_2 zA1 Z1_0 Z1_1 Z1_2 Z1_f0 Z1_f1 Z1_f2 zZ1
      have B4 : Hid (Below w.heap.size w V4) := by first | exact Lib.hid ((B3.out).trans (hb4.mono (by have := B3.out.size; first | assumption | (simp <;> omega) | (simp; done)))) | exact Lib.hid (((B3.out).alloc (B3.out.size) _).trans (hb4.mono (by have := B3.out.size; first | assumption | (simp <;> omega) | (simp; done)))) | exact Lib.hid ((((B3.out).alloc (B3.out.size) _).alloc (by have := B3.out.size; simp <;> omega) _).trans (hb4.mono (by have := B3.out.size; first | assumption | (simp <;> omega) | (simp; done)))) | exact Lib.hid (((((B3.out).alloc (B3.out.size) _).alloc (by have := B3.out.size; simp <;> omega) _).alloc (by have := B3.out.size; simp <;> omega) _).trans (hb4.mono (by have := B3.out.size; first | assumption | (simp <;> omega) | (simp; done))))
      first | replace A1 := Lib.hid (row_call hb4 A1.out) | replace A1 := Lib.hid (row_call hb4 (row_alloc A1.out _)) | replace A1 := Lib.hid (row_call hb4 (row_alloc (row_alloc A1.out _) _)) | replace A1 := Lib.hid (row_call hb4 (row_alloc (row_alloc (row_alloc A1.out _) _) _))
      first | replace Z1 := Lib.hid (row_call hb4 Z1.out) | replace Z1 := Lib.hid (row_call hb4 (row_alloc Z1.out _)) | replace Z1 := Lib.hid (row_call hb4 (row_alloc (row_alloc Z1.out _) _)) | replace Z1 := Lib.hid (row_call hb4 (row_alloc (row_alloc (row_alloc Z1.out _) _) _))
      clear hb4
      have A1_0 : V4.cell? ⟨w.heap.size, 0, none⟩ = some (.int .i64 y) := cell_of_row _ _ _ _ _ _ A1.out
      have A1_1 : V4.cell? ⟨w.heap.size, 1, none⟩ = some (.int .i64 m) := cell_of_row _ _ _ _ _ _ A1.out
      have A1_2 : V4.cell? ⟨w.heap.size, 2, none⟩ = some (.int .i64 d) := cell_of_row _ _ _ _ _ _ A1.out
      have Z1_0 : V4.cell? ⟨w.heap.size + 1, 0, none⟩ = some (.int .i64 0) := cell_of_row _ _ _ _ _ _ Z1.out
      have Z1_1 : V4.cell? ⟨w.heap.size + 1, 1, none⟩ = some (.int .i64 0) := cell_of_row _ _ _ _ _ _ Z1.out
      have Z1_2 : V4.cell? ⟨w.heap.size + 1, 2, none⟩ = some (.int .i64 0) := cell_of_row _ _ _ _ _ _ Z1.out
      have Z1_f0 : V4.frozen? ⟨w.heap.size + 1, 0, none⟩ = false := by simp [World.frozen?, Z1.out]
      have Z1_f1 : V4.frozen? ⟨w.heap.size + 1, 1, none⟩ = false := by simp [World.frozen?, Z1.out]
      have Z1_f2 : V4.frozen? ⟨w.heap.size + 1, 2, none⟩ = false := by simp [World.frozen?, Z1.out]
      have zA1 := lt_of_heap A1.out
      have zZ1 := lt_of_heap Z1.out
      go_simp
      go_wp2_with fail
      refine (H5.out _).mono ?_
      rintro e V5 ⟨rfl, hb5⟩
      clear A1_0 A1_1 A1_2 zA1 Z1_0 Z1_1 Z1_2 Z1_f0 Z1_f1 Z1_f2 zZ1
      have B5 : Hid (Below w.heap.size w V5) := by first | exact Lib.hid ((B4.out).trans (hb5.mono (by have := B4.out.size; first | assumption | (simp <;> omega) | (simp; done)))) | exact Lib.hid (((B4.out).alloc (B4.out.size) _).trans (hb5.mono (by have := B4.out.size; first | assumption | (simp <;> omega) | (simp; done)))) | exact Lib.hid ((((B4.out).alloc (B4.out.size) _).alloc (by have := B4.out.size; simp <;> omega) _).trans (hb5.mono (by have := B4.out.size; first | assumption | (simp <;> omega) | (simp; done)))) | exact Lib.hid (((((B4.out).alloc (B4.out.size) _).alloc (by have := B4.out.size; simp <;> omega) _).alloc (by have := B4.out.size; simp <;> omega) _).trans (hb5.mono (by have := B4.out.size; first | assumption | (simp <;> omega) | (simp; done))))
      first | replace A1 := Lib.hid (row_call hb5 A1.out) | replace A1 := Lib.hid (row_call hb5 (row_alloc A1.out _)) | replace A1 := Lib.hid (row_call hb5 (row_alloc (row_alloc A1.out _) _)) | replace A1 := Lib.hid (row_call hb5 (row_alloc (row_alloc (row_alloc A1.out _) _) _))
      first | replace Z1 := Lib.hid (row_call hb5 Z1.out) | replace Z1 := Lib.hid (row_call hb5 (row_alloc Z1.out _)) | replace Z1 := Lib.hid (row_call hb5 (row_alloc (row_alloc Z1.out _) _)) | replace Z1 := Lib.hid (row_call hb5 (row_alloc (row_alloc (row_alloc Z1.out _) _) _))
      clear hb5
      have A1_0 : V5.cell? ⟨w.heap.size, 0, none⟩ = some (.int .i64 y) := cell_of_row _ _ _ _ _ _ A1.out
      have A1_1 : V5.cell? ⟨w.heap.size, 1, none⟩ = some (.int .i64 m) := cell_of_row _ _ _ _ _ _ A1.out
      have A1_2 : V5.cell? ⟨w.heap.size, 2, none⟩ = some (.int .i64 d) := cell_of_row _ _ _ _ _ _ A1.out
      have Z1_0 : V5.cell? ⟨w.heap.size + 1, 0, none⟩ = some (.int .i64 0) := cell_of_row _ _ _ _ _ _ Z1.out
      have Z1_1 : V5.cell? ⟨w.heap.size + 1, 1, none⟩ = some (.int .i64 0) := cell_of_row _ _ _ _ _ _ Z1.out
      have Z1_2 : V5.cell? ⟨w.heap.size + 1, 2, none⟩ = some (.int .i64 0) := cell_of_row _ _ _ _ _ _ Z1.out
      have Z1_f0 : V5.frozen? ⟨w.heap.size + 1, 0, none⟩ = false := by simp [World.frozen?, Z1.out]
      have Z1_f1 : V5.frozen? ⟨w.heap.size + 1, 1, none⟩ = false := by simp [World.frozen?, Z1.out]
      have Z1_f2 : V5.frozen? ⟨w.heap.size + 1, 2, none⟩ = false := by simp [World.frozen?, Z1.out]
      have zA1 := lt_of_heap A1.out
      have zZ1 := lt_of_heap Z1.out
      go_simp
      go_wp2
      refine shut_ret (v := .tuple #[.agg #[.int .i64 f1, .int .i64 f2, .int .i64 f3], .int .i64 E]) (by simp [results, Try.results11, go_sem, zZ1, Z1_0, Z1_1, Z1_2]) rfl ⟨rfl, ?_⟩
      exact keep3 B5.out (by omega) _ _ _
    · have e8 : ckP (y * n) (m * n) (d * n) = 8 := ckP_out (by
        intro h
        apply k
        refine ⟨?_, ?_, ?_⟩
        · rcases iE_two (y * n) with ⟨a, _⟩ | ⟨_, a⟩
          · exact a
          · omega
        · rcases iE_two (m * n) with ⟨a, _⟩ | ⟨_, a⟩
          · exact a
          · omega
        · rcases iE_two (d * n) with ⟨a, _⟩ | ⟨_, a⟩
          · exact a
          · omega)
      rw [e8]
      simp only [fdP_err]
      have H2 := Lib.hid X2
      have H3 := Lib.hid X3
      have H4 := Lib.hid X4
      clear X2 X3 X4 X5 e8
      generalize iE (y * n) = e1 at *
      generalize iE (m * n) = e2 at *
      generalize iE (d * n) = e3 at *
      generalize iV (y * n) = a1 at *
      generalize iV (m * n) = a2 at *
      generalize iV (d * n) = a3 at *
      by_cases k1 : e1 = 0
      · by_cases k2 : e2 = 0
        · have f3 : (e3 != 0) = true := by rw [bne_iff_ne]; exact fun h => k ⟨k1, k2, h⟩
          have f1 : (e1 != 0) = false := by rw [bne_eq_false_iff_eq]; exact k1
          have f2 : (e2 != 0) = false := by rw [bne_eq_false_iff_eq]; exact k2
          clear k k1 k2
          go_enter Try.func11, Try.ntmps11
          refine wp_shut ?_
          go_wp2_with fail
          
          refine (H1.out _).mono ?_
          rintro e V1 ⟨rfl, hb1⟩
          have B1 := Lib.hid ((((Below.refl w.heap.size w).alloc (Nat.le_refl _) _).alloc (by simp <;> omega) _).trans (hb1.mono (by first | assumption | (simp <;> omega) | (simp; done))))
          have A1 := Lib.hid (row_call hb1 (row_alloc (heap_alloc_new _ _) _))
          have Z1 := Lib.hid (row_at (k' := w.heap.size + 1) (by simp) (row_call hb1 (heap_alloc_new _ _)))
          clear hb1
          have A1_0 : V1.cell? ⟨w.heap.size, 0, none⟩ = some (.int .i64 y) := cell_of_row _ _ _ _ _ _ A1.out
          have A1_1 : V1.cell? ⟨w.heap.size, 1, none⟩ = some (.int .i64 m) := cell_of_row _ _ _ _ _ _ A1.out
          have A1_2 : V1.cell? ⟨w.heap.size, 2, none⟩ = some (.int .i64 d) := cell_of_row _ _ _ _ _ _ A1.out
          have Z1_0 : V1.cell? ⟨w.heap.size + 1, 0, none⟩ = some (.int .i64 0) := cell_of_row _ _ _ _ _ _ Z1.out
          have Z1_1 : V1.cell? ⟨w.heap.size + 1, 1, none⟩ = some (.int .i64 0) := cell_of_row _ _ _ _ _ _ Z1.out
          have Z1_2 : V1.cell? ⟨w.heap.size + 1, 2, none⟩ = some (.int .i64 0) := cell_of_row _ _ _ _ _ _ Z1.out
          have Z1_f0 : V1.frozen? ⟨w.heap.size + 1, 0, none⟩ = false := by simp [World.frozen?, Z1.out]
          have Z1_f1 : V1.frozen? ⟨w.heap.size + 1, 1, none⟩ = false := by simp [World.frozen?, Z1.out]
          have Z1_f2 : V1.frozen? ⟨w.heap.size + 1, 2, none⟩ = false := by simp [World.frozen?, Z1.out]
          have zA1 := lt_of_heap A1.out
          have zZ1 := lt_of_heap Z1.out
          go_simp
          go_wp2_with fail
          refine (H2.out _).mono ?_
          rintro e V2 ⟨rfl, hb2⟩
          clear A1_0 A1_1 A1_2 zA1 Z1_0 Z1_1 Z1_2 Z1_f0 Z1_f1 Z1_f2 zZ1
          have B2 : Hid (Below w.heap.size w V2) := by first | exact Lib.hid ((B1.out).trans (hb2.mono (by have := B1.out.size; first | assumption | (simp <;> omega) | (simp; done)))) | exact Lib.hid (((B1.out).alloc (B1.out.size) _).trans (hb2.mono (by have := B1.out.size; first | assumption | (simp <;> omega) | (simp; done)))) | exact Lib.hid ((((B1.out).alloc (B1.out.size) _).alloc (by have := B1.out.size; simp <;> omega) _).trans (hb2.mono (by have := B1.out.size; first | assumption | (simp <;> omega) | (simp; done)))) | exact Lib.hid (((((B1.out).alloc (B1.out.size) _).alloc (by have := B1.out.size; simp <;> omega) _).alloc (by have := B1.out.size; simp <;> omega) _).trans (hb2.mono (by have := B1.out.size; first | assumption | (simp <;> omega) | (simp; done))))
          first | replace A1 := Lib.hid (row_call hb2 A1.out) | replace A1 := Lib.hid (row_call hb2 (row_alloc A1.out _)) | replace A1 := Lib.hid (row_call hb2 (row_alloc (row_alloc A1.out _) _)) | replace A1 := Lib.hid (row_call hb2 (row_alloc (row_alloc (row_alloc A1.out _) _) _))
          first | replace Z1 := Lib.hid (row_call hb2 Z1.out) | replace Z1 := Lib.hid (row_call hb2 (row_alloc Z1.out _)) | replace Z1 := Lib.hid (row_call hb2 (row_alloc (row_alloc Z1.out _) _)) | replace Z1 := Lib.hid (row_call hb2 (row_alloc (row_alloc (row_alloc Z1.out _) _) _))
          clear hb2
          have A1_0 : V2.cell? ⟨w.heap.size, 0, none⟩ = some (.int .i64 y) := cell_of_row _ _ _ _ _ _ A1.out
          have A1_1 : V2.cell? ⟨w.heap.size, 1, none⟩ = some (.int .i64 m) := cell_of_row _ _ _ _ _ _ A1.out
          have A1_2 : V2.cell? ⟨w.heap.size, 2, none⟩ = some (.int .i64 d) := cell_of_row _ _ _ _ _ _ A1.out
          have Z1_0 : V2.cell? ⟨w.heap.size + 1, 0, none⟩ = some (.int .i64 0) := cell_of_row _ _ _ _ _ _ Z1.out
          have Z1_1 : V2.cell? ⟨w.heap.size + 1, 1, none⟩ = some (.int .i64 0) := cell_of_row _ _ _ _ _ _ Z1.out
          have Z1_2 : V2.cell? ⟨w.heap.size + 1, 2, none⟩ = some (.int .i64 0) := cell_of_row _ _ _ _ _ _ Z1.out
          have Z1_f0 : V2.frozen? ⟨w.heap.size + 1, 0, none⟩ = false := by simp [World.frozen?, Z1.out]
          have Z1_f1 : V2.frozen? ⟨w.heap.size + 1, 1, none⟩ = false := by simp [World.frozen?, Z1.out]
          have Z1_f2 : V2.frozen? ⟨w.heap.size + 1, 2, none⟩ = false := by simp [World.frozen?, Z1.out]
          have zA1 := lt_of_heap A1.out
          have zZ1 := lt_of_heap Z1.out
          go_simp
          go_wp2_with fail
          refine (H3.out _).mono ?_
          rintro e V3 ⟨rfl, hb3⟩
          clear A1_0 A1_1 A1_2 zA1 Z1_0 Z1_1 Z1_2 Z1_f0 Z1_f1 Z1_f2 zZ1
          have B3 : Hid (Below w.heap.size w V3) := by first | exact Lib.hid ((B2.out).trans (hb3.mono (by have := B2.out.size; first | assumption | (simp <;> omega) | (simp; done)))) | exact Lib.hid (((B2.out).alloc (B2.out.size) _).trans (hb3.mono (by have := B2.out.size; first | assumption | (simp <;> omega) | (simp; done)))) | exact Lib.hid ((((B2.out).alloc (B2.out.size) _).alloc (by have := B2.out.size; simp <;> omega) _).trans (hb3.mono (by have := B2.out.size; first | assumption | (simp <;> omega) | (simp; done)))) | exact Lib.hid (((((B2.out).alloc (B2.out.size) _).alloc (by have := B2.out.size; simp <;> omega) _).alloc (by have := B2.out.size; simp <;> omega) _).trans (hb3.mono (by have := B2.out.size; first | assumption | (simp <;> omega) | (simp; done))))
          first | replace A1 := Lib.hid (row_call hb3 A1.out) | replace A1 := Lib.hid (row_call hb3 (row_alloc A1.out _)) | replace A1 := Lib.hid (row_call hb3 (row_alloc (row_alloc A1.out _) _)) | replace A1 := Lib.hid (row_call hb3 (row_alloc (row_alloc (row_alloc A1.out _) _) _))
          first | replace Z1 := Lib.hid (row_call hb3 Z1.out) | replace Z1 := Lib.hid (row_call hb3 (row_alloc Z1.out _)) | replace Z1 := Lib.hid (row_call hb3 (row_alloc (row_alloc Z1.out _) _)) | replace Z1 := Lib.hid (row_call hb3 (row_alloc (row_alloc (row_alloc Z1.out _) _) _))
          clear hb3
          have A1_0 : V3.cell? ⟨w.heap.size, 0, none⟩ = some (.int .i64 y) := cell_of_row _ _ _ _ _ _ A1.out
          have A1_1 : V3.cell? ⟨w.heap.size, 1, none⟩ = some (.int .i64 m) := cell_of_row _ _ _ _ _ _ A1.out
          have A1_2 : V3.cell? ⟨w.heap.size, 2, none⟩ = some (.int .i64 d) := cell_of_row _ _ _ _ _ _ A1.out
          have Z1_0 : V3.cell? ⟨w.heap.size + 1, 0, none⟩ = some (.int .i64 0) := cell_of_row _ _ _ _ _ _ Z1.out
          have Z1_1 : V3.cell? ⟨w.heap.size + 1, 1, none⟩ = some (.int .i64 0) := cell_of_row _ _ _ _ _ _ Z1.out
          have Z1_2 : V3.cell? ⟨w.heap.size + 1, 2, none⟩ = some (.int .i64 0) := cell_of_row _ _ _ _ _ _ Z1.out
          have Z1_f0 : V3.frozen? ⟨w.heap.size + 1, 0, none⟩ = false := by simp [World.frozen?, Z1.out]
          have Z1_f1 : V3.frozen? ⟨w.heap.size + 1, 1, none⟩ = false := by simp [World.frozen?, Z1.out]
          have Z1_f2 : V3.frozen? ⟨w.heap.size + 1, 2, none⟩ = false := by simp [World.frozen?, Z1.out]
          have zA1 := lt_of_heap A1.out
          have zZ1 := lt_of_heap Z1.out
          go_simp
          go_wp2_with fail
          refine (H4.out _).mono ?_
          rintro e V4 ⟨rfl, hb4⟩
          clear A1_0 A1_1 A1_2 zA1 Z1_0 Z1_1 Z1_2 Z1_f0 Z1_f1 Z1_f2 zZ1
          have B4 : Hid (Below w.heap.size w V4) := by first | exact Lib.hid ((B3.out).trans (hb4.mono (by have := B3.out.size; first | assumption | (simp <;> omega) | (simp; done)))) | exact Lib.hid (((B3.out).alloc (B3.out.size) _).trans (hb4.mono (by have := B3.out.size; first | assumption | (simp <;> omega) | (simp; done)))) | exact Lib.hid ((((B3.out).alloc (B3.out.size) _).alloc (by have := B3.out.size; simp <;> omega) _).trans (hb4.mono (by have := B3.out.size; first | assumption | (simp <;> omega) | (simp; done)))) | exact Lib.hid (((((B3.out).alloc (B3.out.size) _).alloc (by have := B3.out.size; simp <;> omega) _).alloc (by have := B3.out.size; simp <;> omega) _).trans (hb4.mono (by have := B3.out.size; first | assumption | (simp <;> omega) | (simp; done))))
          first | replace A1 := Lib.hid (row_call hb4 A1.out) | replace A1 := Lib.hid (row_call hb4 (row_alloc A1.out _)) | replace A1 := Lib.hid (row_call hb4 (row_alloc (row_alloc A1.out _) _)) | replace A1 := Lib.hid (row_call hb4 (row_alloc (row_alloc (row_alloc A1.out _) _) _))
          first | replace Z1 := Lib.hid (row_call hb4 Z1.out) | replace Z1 := Lib.hid (row_call hb4 (row_alloc Z1.out _)) | replace Z1 := Lib.hid (row_call hb4 (row_alloc (row_alloc Z1.out _) _)) | replace Z1 := Lib.hid (row_call hb4 (row_alloc (row_alloc (row_alloc Z1.out _) _) _))
          clear hb4
          have A1_0 : V4.cell? ⟨w.heap.size, 0, none⟩ = some (.int .i64 y) := cell_of_row _ _ _ _ _ _ A1.out
          have A1_1 : V4.cell? ⟨w.heap.size, 1, none⟩ = some (.int .i64 m) := cell_of_row _ _ _ _ _ _ A1.out
          have A1_2 : V4.cell? ⟨w.heap.size, 2, none⟩ = some (.int .i64 d) := cell_of_row _ _ _ _ _ _ A1.out
          have Z1_0 : V4.cell? ⟨w.heap.size + 1, 0, none⟩ = some (.int .i64 0) := cell_of_row _ _ _ _ _ _ Z1.out
          have Z1_1 : V4.cell? ⟨w.heap.size + 1, 1, none⟩ = some (.int .i64 0) := cell_of_row _ _ _ _ _ _ Z1.out
          have Z1_2 : V4.cell? ⟨w.heap.size + 1, 2, none⟩ = some (.int .i64 0) := cell_of_row _ _ _ _ _ _ Z1.out
          have Z1_f0 : V4.frozen? ⟨w.heap.size + 1, 0, none⟩ = false := by simp [World.frozen?, Z1.out]
          have Z1_f1 : V4.frozen? ⟨w.heap.size + 1, 1, none⟩ = false := by simp [World.frozen?, Z1.out]
          have Z1_f2 : V4.frozen? ⟨w.heap.size + 1, 2, none⟩ = false := by simp [World.frozen?, Z1.out]
          have zA1 := lt_of_heap A1.out
          have zZ1 := lt_of_heap Z1.out
          go_simp
          go_wp2
          refine shut_ret (v := .tuple #[.agg #[.int .i64 0, .int .i64 0, .int .i64 0], .int .i64 8]) (by simp [results, Try.results11, go_sem, zZ1, Z1_0, Z1_1, Z1_2]) rfl ⟨rfl, ?_⟩
          exact keep3 B4.out (by omega) _ _ _
        · have f2 : (e2 != 0) = true := by rw [bne_iff_ne]; exact k2
          have f1 : (e1 != 0) = false := by rw [bne_eq_false_iff_eq]; exact k1
          clear k k1 k2
          go_enter Try.func11, Try.ntmps11
          refine wp_shut ?_
          go_wp2_with fail
          
          refine (H1.out _).mono ?_
          rintro e V1 ⟨rfl, hb1⟩
          have B1 := Lib.hid ((((Below.refl w.heap.size w).alloc (Nat.le_refl _) _).alloc (by simp <;> omega) _).trans (hb1.mono (by first | assumption | (simp <;> omega) | (simp; done))))
          have A1 := Lib.hid (row_call hb1 (row_alloc (heap_alloc_new _ _) _))
          have Z1 := Lib.hid (row_at (k' := w.heap.size + 1) (by simp) (row_call hb1 (heap_alloc_new _ _)))
          clear hb1
          have A1_0 : V1.cell? ⟨w.heap.size, 0, none⟩ = some (.int .i64 y) := cell_of_row _ _ _ _ _ _ A1.out
          have A1_1 : V1.cell? ⟨w.heap.size, 1, none⟩ = some (.int .i64 m) := cell_of_row _ _ _ _ _ _ A1.out
          have A1_2 : V1.cell? ⟨w.heap.size, 2, none⟩ = some (.int .i64 d) := cell_of_row _ _ _ _ _ _ A1.out
          have Z1_0 : V1.cell? ⟨w.heap.size + 1, 0, none⟩ = some (.int .i64 0) := cell_of_row _ _ _ _ _ _ Z1.out
          have Z1_1 : V1.cell? ⟨w.heap.size + 1, 1, none⟩ = some (.int .i64 0) := cell_of_row _ _ _ _ _ _ Z1.out
          have Z1_2 : V1.cell? ⟨w.heap.size + 1, 2, none⟩ = some (.int .i64 0) := cell_of_row _ _ _ _ _ _ Z1.out
          have Z1_f0 : V1.frozen? ⟨w.heap.size + 1, 0, none⟩ = false := by simp [World.frozen?, Z1.out]
          have Z1_f1 : V1.frozen? ⟨w.heap.size + 1, 1, none⟩ = false := by simp [World.frozen?, Z1.out]
          have Z1_f2 : V1.frozen? ⟨w.heap.size + 1, 2, none⟩ = false := by simp [World.frozen?, Z1.out]
          have zA1 := lt_of_heap A1.out
          have zZ1 := lt_of_heap Z1.out
          go_simp
          go_wp2_with fail
          refine (H2.out _).mono ?_
          rintro e V2 ⟨rfl, hb2⟩
          clear A1_0 A1_1 A1_2 zA1 Z1_0 Z1_1 Z1_2 Z1_f0 Z1_f1 Z1_f2 zZ1
          have B2 : Hid (Below w.heap.size w V2) := by first | exact Lib.hid ((B1.out).trans (hb2.mono (by have := B1.out.size; first | assumption | (simp <;> omega) | (simp; done)))) | exact Lib.hid (((B1.out).alloc (B1.out.size) _).trans (hb2.mono (by have := B1.out.size; first | assumption | (simp <;> omega) | (simp; done)))) | exact Lib.hid ((((B1.out).alloc (B1.out.size) _).alloc (by have := B1.out.size; simp <;> omega) _).trans (hb2.mono (by have := B1.out.size; first | assumption | (simp <;> omega) | (simp; done)))) | exact Lib.hid (((((B1.out).alloc (B1.out.size) _).alloc (by have := B1.out.size; simp <;> omega) _).alloc (by have := B1.out.size; simp <;> omega) _).trans (hb2.mono (by have := B1.out.size; first | assumption | (simp <;> omega) | (simp; done))))
          first | replace A1 := Lib.hid (row_call hb2 A1.out) | replace A1 := Lib.hid (row_call hb2 (row_alloc A1.out _)) | replace A1 := Lib.hid (row_call hb2 (row_alloc (row_alloc A1.out _) _)) | replace A1 := Lib.hid (row_call hb2 (row_alloc (row_alloc (row_alloc A1.out _) _) _))
          first | replace Z1 := Lib.hid (row_call hb2 Z1.out) | replace Z1 := Lib.hid (row_call hb2 (row_alloc Z1.out _)) | replace Z1 := Lib.hid (row_call hb2 (row_alloc (row_alloc Z1.out _) _)) | replace Z1 := Lib.hid (row_call hb2 (row_alloc (row_alloc (row_alloc Z1.out _) _) _))
          clear hb2
          have A1_0 : V2.cell? ⟨w.heap.size, 0, none⟩ = some (.int .i64 y) := cell_of_row _ _ _ _ _ _ A1.out
          have A1_1 : V2.cell? ⟨w.heap.size, 1, none⟩ = some (.int .i64 m) := cell_of_row _ _ _ _ _ _ A1.out
          have A1_2 : V2.cell? ⟨w.heap.size, 2, none⟩ = some (.int .i64 d) := cell_of_row _ _ _ _ _ _ A1.out
          have Z1_0 : V2.cell? ⟨w.heap.size + 1, 0, none⟩ = some (.int .i64 0) := cell_of_row _ _ _ _ _ _ Z1.out
          have Z1_1 : V2.cell? ⟨w.heap.size + 1, 1, none⟩ = some (.int .i64 0) := cell_of_row _ _ _ _ _ _ Z1.out
          have Z1_2 : V2.cell? ⟨w.heap.size + 1, 2, none⟩ = some (.int .i64 0) := cell_of_row _ _ _ _ _ _ Z1.out
          have Z1_f0 : V2.frozen? ⟨w.heap.size + 1, 0, none⟩ = false := by simp [World.frozen?, Z1.out]
          have Z1_f1 : V2.frozen? ⟨w.heap.size + 1, 1, none⟩ = false := by simp [World.frozen?, Z1.out]
          have Z1_f2 : V2.frozen? ⟨w.heap.size + 1, 2, none⟩ = false := by simp [World.frozen?, Z1.out]
          have zA1 := lt_of_heap A1.out
          have zZ1 := lt_of_heap Z1.out
          go_simp
          go_wp2_with fail
          refine (H3.out _).mono ?_
          rintro e V3 ⟨rfl, hb3⟩
          clear A1_0 A1_1 A1_2 zA1 Z1_0 Z1_1 Z1_2 Z1_f0 Z1_f1 Z1_f2 zZ1
          have B3 : Hid (Below w.heap.size w V3) := by first | exact Lib.hid ((B2.out).trans (hb3.mono (by have := B2.out.size; first | assumption | (simp <;> omega) | (simp; done)))) | exact Lib.hid (((B2.out).alloc (B2.out.size) _).trans (hb3.mono (by have := B2.out.size; first | assumption | (simp <;> omega) | (simp; done)))) | exact Lib.hid ((((B2.out).alloc (B2.out.size) _).alloc (by have := B2.out.size; simp <;> omega) _).trans (hb3.mono (by have := B2.out.size; first | assumption | (simp <;> omega) | (simp; done)))) | exact Lib.hid (((((B2.out).alloc (B2.out.size) _).alloc (by have := B2.out.size; simp <;> omega) _).alloc (by have := B2.out.size; simp <;> omega) _).trans (hb3.mono (by have := B2.out.size; first | assumption | (simp <;> omega) | (simp; done))))
          first | replace A1 := Lib.hid (row_call hb3 A1.out) | replace A1 := Lib.hid (row_call hb3 (row_alloc A1.out _)) | replace A1 := Lib.hid (row_call hb3 (row_alloc (row_alloc A1.out _) _)) | replace A1 := Lib.hid (row_call hb3 (row_alloc (row_alloc (row_alloc A1.out _) _) _))
          first | replace Z1 := Lib.hid (row_call hb3 Z1.out) | replace Z1 := Lib.hid (row_call hb3 (row_alloc Z1.out _)) | replace Z1 := Lib.hid (row_call hb3 (row_alloc (row_alloc Z1.out _) _)) | replace Z1 := Lib.hid (row_call hb3 (row_alloc (row_alloc (row_alloc Z1.out _) _) _))
          clear hb3
          have A1_0 : V3.cell? ⟨w.heap.size, 0, none⟩ = some (.int .i64 y) := cell_of_row _ _ _ _ _ _ A1.out
          have A1_1 : V3.cell? ⟨w.heap.size, 1, none⟩ = some (.int .i64 m) := cell_of_row _ _ _ _ _ _ A1.out
          have A1_2 : V3.cell? ⟨w.heap.size, 2, none⟩ = some (.int .i64 d) := cell_of_row _ _ _ _ _ _ A1.out
          have Z1_0 : V3.cell? ⟨w.heap.size + 1, 0, none⟩ = some (.int .i64 0) := cell_of_row _ _ _ _ _ _ Z1.out
          have Z1_1 : V3.cell? ⟨w.heap.size + 1, 1, none⟩ = some (.int .i64 0) := cell_of_row _ _ _ _ _ _ Z1.out
          have Z1_2 : V3.cell? ⟨w.heap.size + 1, 2, none⟩ = some (.int .i64 0) := cell_of_row _ _ _ _ _ _ Z1.out
          have Z1_f0 : V3.frozen? ⟨w.heap.size + 1, 0, none⟩ = false := by simp [World.frozen?, Z1.out]
          have Z1_f1 : V3.frozen? ⟨w.heap.size + 1, 1, none⟩ = false := by simp [World.frozen?, Z1.out]
          have Z1_f2 : V3.frozen? ⟨w.heap.size + 1, 2, none⟩ = false := by simp [World.frozen?, Z1.out]
          have zA1 := lt_of_heap A1.out
          have zZ1 := lt_of_heap Z1.out
          go_simp
          go_wp2_with fail
          refine (H4.out _).mono ?_
          rintro e V4 ⟨rfl, hb4⟩
          clear A1_0 A1_1 A1_2 zA1 Z1_0 Z1_1 Z1_2 Z1_f0 Z1_f1 Z1_f2 zZ1
          have B4 : Hid (Below w.heap.size w V4) := by first | exact Lib.hid ((B3.out).trans (hb4.mono (by have := B3.out.size; first | assumption | (simp <;> omega) | (simp; done)))) | exact Lib.hid (((B3.out).alloc (B3.out.size) _).trans (hb4.mono (by have := B3.out.size; first | assumption | (simp <;> omega) | (simp; done)))) | exact Lib.hid ((((B3.out).alloc (B3.out.size) _).alloc (by have := B3.out.size; simp <;> omega) _).trans (hb4.mono (by have := B3.out.size; first | assumption | (simp <;> omega) | (simp; done)))) | exact Lib.hid (((((B3.out).alloc (B3.out.size) _).alloc (by have := B3.out.size; simp <;> omega) _).alloc (by have := B3.out.size; simp <;> omega) _).trans (hb4.mono (by have := B3.out.size; first | assumption | (simp <;> omega) | (simp; done))))
          first | replace A1 := Lib.hid (row_call hb4 A1.out) | replace A1 := Lib.hid (row_call hb4 (row_alloc A1.out _)) | replace A1 := Lib.hid (row_call hb4 (row_alloc (row_alloc A1.out _) _)) | replace A1 := Lib.hid (row_call hb4 (row_alloc (row_alloc (row_alloc A1.out _) _) _))
          first | replace Z1 := Lib.hid (row_call hb4 Z1.out) | replace Z1 := Lib.hid (row_call hb4 (row_alloc Z1.out _)) | replace Z1 := Lib.hid (row_call hb4 (row_alloc (row_alloc Z1.out _) _)) | replace Z1 := Lib.hid (row_call hb4 (row_alloc (row_alloc (row_alloc Z1.out _) _) _))
          clear hb4
          have A1_0 : V4.cell? ⟨w.heap.size, 0, none⟩ = some (.int .i64 y) := cell_of_row _ _ _ _ _ _ A1.out
          have A1_1 : V4.cell? ⟨w.heap.size, 1, none⟩ = some (.int .i64 m) := cell_of_row _ _ _ _ _ _ A1.out
          have A1_2 : V4.cell? ⟨w.heap.size, 2, none⟩ = some (.int .i64 d) := cell_of_row _ _ _ _ _ _ A1.out
          have Z1_0 : V4.cell? ⟨w.heap.size + 1, 0, none⟩ = some (.int .i64 0) := cell_of_row _ _ _ _ _ _ Z1.out
          have Z1_1 : V4.cell? ⟨w.heap.size + 1, 1, none⟩ = some (.int .i64 0) := cell_of_row _ _ _ _ _ _ Z1.out
          have Z1_2 : V4.cell? ⟨w.heap.size + 1, 2, none⟩ = some (.int .i64 0) := cell_of_row _ _ _ _ _ _ Z1.out
          have Z1_f0 : V4.frozen? ⟨w.heap.size + 1, 0, none⟩ = false := by simp [World.frozen?, Z1.out]
          have Z1_f1 : V4.frozen? ⟨w.heap.size + 1, 1, none⟩ = false := by simp [World.frozen?, Z1.out]
          have Z1_f2 : V4.frozen? ⟨w.heap.size + 1, 2, none⟩ = false := by simp [World.frozen?, Z1.out]
          have zA1 := lt_of_heap A1.out
          have zZ1 := lt_of_heap Z1.out
          go_simp
          go_wp2
          refine shut_ret (v := .tuple #[.agg #[.int .i64 0, .int .i64 0, .int .i64 0], .int .i64 8]) (by simp [results, Try.results11, go_sem, zZ1, Z1_0, Z1_1, Z1_2]) rfl ⟨rfl, ?_⟩
          exact keep3 B4.out (by omega) _ _ _
      · have f1 : (e1 != 0) = true := by rw [bne_iff_ne]; exact k1
        clear k k1
        go_enter Try.func11, Try.ntmps11
        refine wp_shut ?_
        go_wp2_with fail
        
        refine (H1.out _).mono ?_
        rintro e V1 ⟨rfl, hb1⟩
        have B1 := Lib.hid ((((Below.refl w.heap.size w).alloc (Nat.le_refl _) _).alloc (by simp <;> omega) _).trans (hb1.mono (by first | assumption | (simp <;> omega) | (simp; done))))
        have A1 := Lib.hid (row_call hb1 (row_alloc (heap_alloc_new _ _) _))
        have Z1 := Lib.hid (row_at (k' := w.heap.size + 1) (by simp) (row_call hb1 (heap_alloc_new _ _)))
        clear hb1
        have A1_0 : V1.cell? ⟨w.heap.size, 0, none⟩ = some (.int .i64 y) := cell_of_row _ _ _ _ _ _ A1.out
        have A1_1 : V1.cell? ⟨w.heap.size, 1, none⟩ = some (.int .i64 m) := cell_of_row _ _ _ _ _ _ A1.out
        have A1_2 : V1.cell? ⟨w.heap.size, 2, none⟩ = some (.int .i64 d) := cell_of_row _ _ _ _ _ _ A1.out
        have Z1_0 : V1.cell? ⟨w.heap.size + 1, 0, none⟩ = some (.int .i64 0) := cell_of_row _ _ _ _ _ _ Z1.out
        have Z1_1 : V1.cell? ⟨w.heap.size + 1, 1, none⟩ = some (.int .i64 0) := cell_of_row _ _ _ _ _ _ Z1.out
        have Z1_2 : V1.cell? ⟨w.heap.size + 1, 2, none⟩ = some (.int .i64 0) := cell_of_row _ _ _ _ _ _ Z1.out
        have Z1_f0 : V1.frozen? ⟨w.heap.size + 1, 0, none⟩ = false := by simp [World.frozen?, Z1.out]
        have Z1_f1 : V1.frozen? ⟨w.heap.size + 1, 1, none⟩ = false := by simp [World.frozen?, Z1.out]
        have Z1_f2 : V1.frozen? ⟨w.heap.size + 1, 2, none⟩ = false := by simp [World.frozen?, Z1.out]
        have zA1 := lt_of_heap A1.out
        have zZ1 := lt_of_heap Z1.out
        go_simp
        go_wp2_with fail
        refine (H2.out _).mono ?_
        rintro e V2 ⟨rfl, hb2⟩
        clear A1_0 A1_1 A1_2 zA1 Z1_0 Z1_1 Z1_2 Z1_f0 Z1_f1 Z1_f2 zZ1
        have B2 : Hid (Below w.heap.size w V2) := by first | exact Lib.hid ((B1.out).trans (hb2.mono (by have := B1.out.size; first | assumption | (simp <;> omega) | (simp; done)))) | exact Lib.hid (((B1.out).alloc (B1.out.size) _).trans (hb2.mono (by have := B1.out.size; first | assumption | (simp <;> omega) | (simp; done)))) | exact Lib.hid ((((B1.out).alloc (B1.out.size) _).alloc (by have := B1.out.size; simp <;> omega) _).trans (hb2.mono (by have := B1.out.size; first | assumption | (simp <;> omega) | (simp; done)))) | exact Lib.hid (((((B1.out).alloc (B1.out.size) _).alloc (by have := B1.out.size; simp <;> omega) _).alloc (by have := B1.out.size; simp <;> omega) _).trans (hb2.mono (by have := B1.out.size; first | assumption | (simp <;> omega) | (simp; done))))
        first | replace A1 := Lib.hid (row_call hb2 A1.out) | replace A1 := Lib.hid (row_call hb2 (row_alloc A1.out _)) | replace A1 := Lib.hid (row_call hb2 (row_alloc (row_alloc A1.out _) _)) | replace A1 := Lib.hid (row_call hb2 (row_alloc (row_alloc (row_alloc A1.out _) _) _))
        first | replace Z1 := Lib.hid (row_call hb2 Z1.out) | replace Z1 := Lib.hid (row_call hb2 (row_alloc Z1.out _)) | replace Z1 := Lib.hid (row_call hb2 (row_alloc (row_alloc Z1.out _) _)) | replace Z1 := Lib.hid (row_call hb2 (row_alloc (row_alloc (row_alloc Z1.out _) _) _))
        clear hb2
        have A1_0 : V2.cell? ⟨w.heap.size, 0, none⟩ = some (.int .i64 y) := cell_of_row _ _ _ _ _ _ A1.out
        have A1_1 : V2.cell? ⟨w.heap.size, 1, none⟩ = some (.int .i64 m) := cell_of_row _ _ _ _ _ _ A1.out
        have A1_2 : V2.cell? ⟨w.heap.size, 2, none⟩ = some (.int .i64 d) := cell_of_row _ _ _ _ _ _ A1.out
        have Z1_0 : V2.cell? ⟨w.heap.size + 1, 0, none⟩ = some (.int .i64 0) := cell_of_row _ _ _ _ _ _ Z1.out
        have Z1_1 : V2.cell? ⟨w.heap.size + 1, 1, none⟩ = some (.int .i64 0) := cell_of_row _ _ _ _ _ _ Z1.out
        have Z1_2 : V2.cell? ⟨w.heap.size + 1, 2, none⟩ = some (.int .i64 0) := cell_of_row _ _ _ _ _ _ Z1.out
        have Z1_f0 : V2.frozen? ⟨w.heap.size + 1, 0, none⟩ = false := by simp [World.frozen?, Z1.out]
        have Z1_f1 : V2.frozen? ⟨w.heap.size + 1, 1, none⟩ = false := by simp [World.frozen?, Z1.out]
        have Z1_f2 : V2.frozen? ⟨w.heap.size + 1, 2, none⟩ = false := by simp [World.frozen?, Z1.out]
        have zA1 := lt_of_heap A1.out
        have zZ1 := lt_of_heap Z1.out
        go_simp
        go_wp2_with fail
        refine (H3.out _).mono ?_
        rintro e V3 ⟨rfl, hb3⟩
        clear A1_0 A1_1 A1_2 zA1 Z1_0 Z1_1 Z1_2 Z1_f0 Z1_f1 Z1_f2 zZ1
        have B3 : Hid (Below w.heap.size w V3) := by first | exact Lib.hid ((B2.out).trans (hb3.mono (by have := B2.out.size; first | assumption | (simp <;> omega) | (simp; done)))) | exact Lib.hid (((B2.out).alloc (B2.out.size) _).trans (hb3.mono (by have := B2.out.size; first | assumption | (simp <;> omega) | (simp; done)))) | exact Lib.hid ((((B2.out).alloc (B2.out.size) _).alloc (by have := B2.out.size; simp <;> omega) _).trans (hb3.mono (by have := B2.out.size; first | assumption | (simp <;> omega) | (simp; done)))) | exact Lib.hid (((((B2.out).alloc (B2.out.size) _).alloc (by have := B2.out.size; simp <;> omega) _).alloc (by have := B2.out.size; simp <;> omega) _).trans (hb3.mono (by have := B2.out.size; first | assumption | (simp <;> omega) | (simp; done))))
        first | replace A1 := Lib.hid (row_call hb3 A1.out) | replace A1 := Lib.hid (row_call hb3 (row_alloc A1.out _)) | replace A1 := Lib.hid (row_call hb3 (row_alloc (row_alloc A1.out _) _)) | replace A1 := Lib.hid (row_call hb3 (row_alloc (row_alloc (row_alloc A1.out _) _) _))
        first | replace Z1 := Lib.hid (row_call hb3 Z1.out) | replace Z1 := Lib.hid (row_call hb3 (row_alloc Z1.out _)) | replace Z1 := Lib.hid (row_call hb3 (row_alloc (row_alloc Z1.out _) _)) | replace Z1 := Lib.hid (row_call hb3 (row_alloc (row_alloc (row_alloc Z1.out _) _) _))
        clear hb3
        have A1_0 : V3.cell? ⟨w.heap.size, 0, none⟩ = some (.int .i64 y) := cell_of_row _ _ _ _ _ _ A1.out
        have A1_1 : V3.cell? ⟨w.heap.size, 1, none⟩ = some (.int .i64 m) := cell_of_row _ _ _ _ _ _ A1.out
        have A1_2 : V3.cell? ⟨w.heap.size, 2, none⟩ = some (.int .i64 d) := cell_of_row _ _ _ _ _ _ A1.out
        have Z1_0 : V3.cell? ⟨w.heap.size + 1, 0, none⟩ = some (.int .i64 0) := cell_of_row _ _ _ _ _ _ Z1.out
        have Z1_1 : V3.cell? ⟨w.heap.size + 1, 1, none⟩ = some (.int .i64 0) := cell_of_row _ _ _ _ _ _ Z1.out
        have Z1_2 : V3.cell? ⟨w.heap.size + 1, 2, none⟩ = some (.int .i64 0) := cell_of_row _ _ _ _ _ _ Z1.out
        have Z1_f0 : V3.frozen? ⟨w.heap.size + 1, 0, none⟩ = false := by simp [World.frozen?, Z1.out]
        have Z1_f1 : V3.frozen? ⟨w.heap.size + 1, 1, none⟩ = false := by simp [World.frozen?, Z1.out]
        have Z1_f2 : V3.frozen? ⟨w.heap.size + 1, 2, none⟩ = false := by simp [World.frozen?, Z1.out]
        have zA1 := lt_of_heap A1.out
        have zZ1 := lt_of_heap Z1.out
        go_simp
        go_wp2_with fail
        refine (H4.out _).mono ?_
        rintro e V4 ⟨rfl, hb4⟩
        clear A1_0 A1_1 A1_2 zA1 Z1_0 Z1_1 Z1_2 Z1_f0 Z1_f1 Z1_f2 zZ1
        have B4 : Hid (Below w.heap.size w V4) := by first | exact Lib.hid ((B3.out).trans (hb4.mono (by have := B3.out.size; first | assumption | (simp <;> omega) | (simp; done)))) | exact Lib.hid (((B3.out).alloc (B3.out.size) _).trans (hb4.mono (by have := B3.out.size; first | assumption | (simp <;> omega) | (simp; done)))) | exact Lib.hid ((((B3.out).alloc (B3.out.size) _).alloc (by have := B3.out.size; simp <;> omega) _).trans (hb4.mono (by have := B3.out.size; first | assumption | (simp <;> omega) | (simp; done)))) | exact Lib.hid (((((B3.out).alloc (B3.out.size) _).alloc (by have := B3.out.size; simp <;> omega) _).alloc (by have := B3.out.size; simp <;> omega) _).trans (hb4.mono (by have := B3.out.size; first | assumption | (simp <;> omega) | (simp; done))))
        first | replace A1 := Lib.hid (row_call hb4 A1.out) | replace A1 := Lib.hid (row_call hb4 (row_alloc A1.out _)) | replace A1 := Lib.hid (row_call hb4 (row_alloc (row_alloc A1.out _) _)) | replace A1 := Lib.hid (row_call hb4 (row_alloc (row_alloc (row_alloc A1.out _) _) _))
        first | replace Z1 := Lib.hid (row_call hb4 Z1.out) | replace Z1 := Lib.hid (row_call hb4 (row_alloc Z1.out _)) | replace Z1 := Lib.hid (row_call hb4 (row_alloc (row_alloc Z1.out _) _)) | replace Z1 := Lib.hid (row_call hb4 (row_alloc (row_alloc (row_alloc Z1.out _) _) _))
        clear hb4
        have A1_0 : V4.cell? ⟨w.heap.size, 0, none⟩ = some (.int .i64 y) := cell_of_row _ _ _ _ _ _ A1.out
        have A1_1 : V4.cell? ⟨w.heap.size, 1, none⟩ = some (.int .i64 m) := cell_of_row _ _ _ _ _ _ A1.out
        have A1_2 : V4.cell? ⟨w.heap.size, 2, none⟩ = some (.int .i64 d) := cell_of_row _ _ _ _ _ _ A1.out
        have Z1_0 : V4.cell? ⟨w.heap.size + 1, 0, none⟩ = some (.int .i64 0) := cell_of_row _ _ _ _ _ _ Z1.out
        have Z1_1 : V4.cell? ⟨w.heap.size + 1, 1, none⟩ = some (.int .i64 0) := cell_of_row _ _ _ _ _ _ Z1.out
        have Z1_2 : V4.cell? ⟨w.heap.size + 1, 2, none⟩ = some (.int .i64 0) := cell_of_row _ _ _ _ _ _ Z1.out
        have Z1_f0 : V4.frozen? ⟨w.heap.size + 1, 0, none⟩ = false := by simp [World.frozen?, Z1.out]
        have Z1_f1 : V4.frozen? ⟨w.heap.size + 1, 1, none⟩ = false := by simp [World.frozen?, Z1.out]
        have Z1_f2 : V4.frozen? ⟨w.heap.size + 1, 2, none⟩ = false := by simp [World.frozen?, Z1.out]
        have zA1 := lt_of_heap A1.out
        have zZ1 := lt_of_heap Z1.out
        go_simp
        go_wp2
        refine shut_ret (v := .tuple #[.agg #[.int .i64 0, .int .i64 0, .int .i64 0], .int .i64 8]) (by simp [results, Try.results11, go_sem, zZ1, Z1_0, Z1_1, Z1_2]) rfl ⟨rfl, ?_⟩
        exact keep3 B4.out (by omega) _ _ _
  · rw [show mpE y m d n = 8 from if_neg (by omega)]
    simp only [fdP_err]
    rw [e] at X1
    have H1 := Lib.hid X1
    clear X1 e
    go_enter Try.func11, Try.ntmps11
    refine wp_shut ?_
    go_wp2_with fail
    
    refine (H1.out _).mono ?_
    rintro e V1 ⟨rfl, hb1⟩
    have B1 := Lib.hid ((((Below.refl w.heap.size w).alloc (Nat.le_refl _) _).alloc (by simp <;> omega) _).trans (hb1.mono (by first | assumption | (simp <;> omega) | (simp; done))))
    have A1 := Lib.hid (row_call hb1 (row_alloc (heap_alloc_new _ _) _))
    have Z1 := Lib.hid (row_at (k' := w.heap.size + 1) (by simp) (row_call hb1 (heap_alloc_new _ _)))
    clear hb1
    have A1_0 : V1.cell? ⟨w.heap.size, 0, none⟩ = some (.int .i64 y) := cell_of_row _ _ _ _ _ _ A1.out
    have A1_1 : V1.cell? ⟨w.heap.size, 1, none⟩ = some (.int .i64 m) := cell_of_row _ _ _ _ _ _ A1.out
    have A1_2 : V1.cell? ⟨w.heap.size, 2, none⟩ = some (.int .i64 d) := cell_of_row _ _ _ _ _ _ A1.out
    have Z1_0 : V1.cell? ⟨w.heap.size + 1, 0, none⟩ = some (.int .i64 0) := cell_of_row _ _ _ _ _ _ Z1.out
    have Z1_1 : V1.cell? ⟨w.heap.size + 1, 1, none⟩ = some (.int .i64 0) := cell_of_row _ _ _ _ _ _ Z1.out
    have Z1_2 : V1.cell? ⟨w.heap.size + 1, 2, none⟩ = some (.int .i64 0) := cell_of_row _ _ _ _ _ _ Z1.out
    have Z1_f0 : V1.frozen? ⟨w.heap.size + 1, 0, none⟩ = false := by simp [World.frozen?, Z1.out]
    have Z1_f1 : V1.frozen? ⟨w.heap.size + 1, 1, none⟩ = false := by simp [World.frozen?, Z1.out]
    have Z1_f2 : V1.frozen? ⟨w.heap.size + 1, 2, none⟩ = false := by simp [World.frozen?, Z1.out]
    have zA1 := lt_of_heap A1.out
    have zZ1 := lt_of_heap Z1.out
    go_simp
    go_wp2
    refine shut_ret (v := .tuple #[.agg #[.int .i64 0, .int .i64 0, .int .i64 0], .int .i64 8]) (by simp [results, Try.results11, go_sem, zZ1, Z1_0, Z1_1, Z1_2]) rfl ⟨rfl, ?_⟩
    exact keep3 B1.out (by omega) _ _ _
end Go.Proofs.Ythlbmeemdhofpaa
