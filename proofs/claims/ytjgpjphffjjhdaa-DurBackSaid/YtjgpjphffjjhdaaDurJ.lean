/- The walk of the law DurBack. -/
import Derived.Test.YtjgpjphffjjhdaaDurI
namespace Go.Proofs.Ytjgpjphffjjhdaa
set_option linter.unusedVariables false
set_option linter.unusedSimpArgs false
open Go.ChangeShapes Go.WideShapes Go.ChangeAt Go.RowKit

theorem back_add {s n d m : Int} (h : dpE (fsI (ckD s n) (ckD d m)) (nanos s n + nanos d m) = 0) : ∀ S N, S = dpS (fsI (ckD s n) (ckD d m)) (nanos s n + nanos d m) → N = dpN (fsI (ckD s n) (ckD d m)) (nanos s n + nanos d m) →
    dpS (fsI (ckD S N) (ckD d m)) (nanos S N - nanos d m) = s ∧ dpN (fsI (ckD S N) (ckD d m)) (nanos S N - nanos d m) = n ∧ dpE (fsI (ckD S N) (ckD d m)) (nanos S N - nanos d m) = 0 := by
  intro S N eS eN
  obtain ⟨hF, hE⟩ := of_dpE h
  obtain ⟨c1, c2⟩ := fs_zero hF
  obtain ⟨u1, u2, u3⟩ := pp_ok (T := nanos s n + nanos d m) hF
  obtain ⟨b1, b2⟩ := dd_back hE
  rw [u2] at eS
  rw [u3] at eN
  subst eS eN
  have hG : fsI (ckD (duS (nanos s n + nanos d m)) (duN (nanos s n + nanos d m))) (ckD d m) = 0 := by rw [b1, c2, fs_zero_left]
  obtain ⟨v1, v2, v3⟩ := pp_ok (T := nanos (duS (nanos s n + nanos d m)) (duN (nanos s n + nanos d m)) - nanos d m) hG
  rw [v1, v2, v3, b2, show nanos s n + nanos d m - nanos d m = nanos s n by omega]
  exact dd_self c1
theorem fq_mul {f x : Int} (h : f ≠ 0) : fq (f * x) f = x := by
  unfold fq
  split
  · exact Int.mul_ediv_cancel_left x h
  · rw [← Int.neg_mul]; exact Int.mul_ediv_cancel_left x (by omega)
theorem back_mul {s n f : Int} (h : dpE (ckD s n) (f * nanos s n) = 0) (h0 : f ≠ 0) : ∀ S N, S = dpS (ckD s n) (f * nanos s n) → N = dpN (ckD s n) (f * nanos s n) →
    dpS (dvF S N f) (fq (nanos S N) f) = s ∧ dpN (dvF S N f) (fq (nanos S N) f) = n ∧ dpE (dvF S N f) (fq (nanos S N) f) = 0 := by
  intro S N eS eN
  obtain ⟨hF, hE⟩ := of_dpE h
  obtain ⟨u1, u2, u3⟩ := pp_ok (T := f * nanos s n) hF
  obtain ⟨b1, b2⟩ := dd_back hE
  rw [u2] at eS
  rw [u3] at eN
  subst eS eN
  rw [dvF_not h0, b1, b2, fq_mul h0]
  obtain ⟨v1, v2, v3⟩ := pp_ok (F := 0) (T := nanos s n) rfl
  rw [v1, v2, v3]
  exact dd_self hF
theorem back_neg {s n : Int} (h : dpE (ckD s n) (-nanos s n) = 0) : ∀ S N, S = dpS (ckD s n) (-nanos s n) → N = dpN (ckD s n) (-nanos s n) →
    dpS (ckD S N) (-nanos S N) = s ∧ dpN (ckD S N) (-nanos S N) = n ∧ dpE (ckD S N) (-nanos S N) = 0 := by
  intro S N eS eN
  obtain ⟨hF, hE⟩ := of_dpE h
  obtain ⟨u1, u2, u3⟩ := pp_ok (T := -nanos s n) hF
  obtain ⟨b1, b2⟩ := dd_back hE
  rw [u2] at eS
  rw [u3] at eN
  subst eS eN
  obtain ⟨v1, v2, v3⟩ := pp_ok (T := nanos (duS (-nanos s n)) (duN (-nanos s n))) b1
  rw [b1, b2, show - -nanos s n = nanos s n by omega]
  obtain ⟨v1, v2, v3⟩ := pp_ok (F := 0) (T := nanos s n) rfl
  rw [v1, v2, v3]
  exact dd_self hF
set_option maxHeartbeats 6400000 in
set_option maxRecDepth 100000 in
theorem durBack_000 (s n d m f S1 N1 E1 S2 N2 E2 S3 N3 E3 : Int)
    (H1 : Hid (∀ w, Calls Try.prog 13 #[.agg #[.int .i64 s, .int .i64 n], .agg #[.int .i64 d, .int .i64 m]] w fun e w' => e = .returned (.tuple #[.agg #[.int .i64 S1, .int .i64 N1], .int .i64 E1]) ∧ Below w.heap.size w w'))
    (f1 : (E1 == 0) = false)
    (H3 : Hid (∀ w, Calls Try.prog 21 #[.agg #[.int .i64 s, .int .i64 n], .int .i64 f] w fun e w' => e = .returned (.tuple #[.agg #[.int .i64 S2, .int .i64 N2], .int .i64 E2]) ∧ Below w.heap.size w w'))
    (f2 : (E2 == 0) = false)
    (H5 : Hid (∀ w, Calls Try.prog 17 #[.agg #[.int .i64 s, .int .i64 n]] w fun e w' => e = .returned (.tuple #[.agg #[.int .i64 S3, .int .i64 N3], .int .i64 E3]) ∧ Below w.heap.size w w'))
    (f4 : (E3 == 0) = false)
    (w : World) :
    Calls Try.prog 7 #[.agg #[.int .i64 s, .int .i64 n], .agg #[.int .i64 d, .int .i64 m], .int .i64 f] w fun e w' => e = .returned (.bool true) ∧ Below w.heap.size w w' := by
  have H9 := Lib.hid awake4_any
  go_enter Try.func7, Try.ntmps7
  go_wp2_with fail
  
  refine (H1.out _).mono ?_
  rintro e V1 ⟨rfl, hb1⟩
  have B1 := Lib.hid ((((Below.refl w.heap.size w).alloc (Nat.le_refl _) _).alloc (by simp <;> omega) _).trans (hb1.mono (by first | assumption | (simp <;> omega) | (simp; done))))
  have A1 := Lib.hid (row_call hb1 (row_alloc (heap_alloc_new _ _) _))
  have D1 := Lib.hid (row_at (k' := w.heap.size + 1) (by simp) (row_call hb1 (heap_alloc_new _ _)))
  clear hb1
  have A1_0 : V1.cell? ⟨w.heap.size, 0, none⟩ = some (.int .i64 s) := cell_of_row _ _ _ _ _ _ A1.out
  have A1_1 : V1.cell? ⟨w.heap.size, 1, none⟩ = some (.int .i64 n) := cell_of_row _ _ _ _ _ _ A1.out
  have D1_0 : V1.cell? ⟨w.heap.size + 1, 0, none⟩ = some (.int .i64 d) := cell_of_row _ _ _ _ _ _ D1.out
  have D1_1 : V1.cell? ⟨w.heap.size + 1, 1, none⟩ = some (.int .i64 m) := cell_of_row _ _ _ _ _ _ D1.out
  have zA1 := lt_of_heap A1.out
  have zD1 := lt_of_heap D1.out
  go_simp
  go_wp2_with fail
  refine (H3.out _).mono ?_
  rintro e V2 ⟨rfl, hb2⟩
  clear A1_0 A1_1 zA1 D1_0 D1_1 zD1
  have nA1I1 := Lib.hid (lt_of_heap A1.out)
  have nD1I1 := Lib.hid (lt_of_heap D1.out)
  have B2 := Lib.hid (((B1.out).alloc (B1.out.size) _).trans (hb2.mono (by have := B1.out.size; first | assumption | (simp <;> omega) | (simp; done))))
  replace A1 := Lib.hid (row_call hb2 (row_alloc A1.out _))
  replace D1 := Lib.hid (row_call hb2 (row_alloc D1.out _))
  have I1 := Lib.hid (row_call hb2 (heap_alloc_new _ _))
  clear hb2
  have A1_0 : V2.cell? ⟨w.heap.size, 0, none⟩ = some (.int .i64 s) := cell_of_row _ _ _ _ _ _ A1.out
  have A1_1 : V2.cell? ⟨w.heap.size, 1, none⟩ = some (.int .i64 n) := cell_of_row _ _ _ _ _ _ A1.out
  have D1_0 : V2.cell? ⟨w.heap.size + 1, 0, none⟩ = some (.int .i64 d) := cell_of_row _ _ _ _ _ _ D1.out
  have D1_1 : V2.cell? ⟨w.heap.size + 1, 1, none⟩ = some (.int .i64 m) := cell_of_row _ _ _ _ _ _ D1.out
  have I1_0 : V2.cell? ⟨V1.heap.size, 0, none⟩ = some (.int .i64 S1) := cell_of_row _ _ _ _ _ _ I1.out
  have I1_1 : V2.cell? ⟨V1.heap.size, 1, none⟩ = some (.int .i64 N1) := cell_of_row _ _ _ _ _ _ I1.out
  have zA1 := lt_of_heap A1.out
  have zD1 := lt_of_heap D1.out
  have zI1 := lt_of_heap I1.out
  go_simp
  go_wp2_with fail
  refine (H5.out _).mono ?_
  rintro e V3 ⟨rfl, hb3⟩
  clear A1_0 A1_1 zA1 D1_0 D1_1 zD1 I1_0 I1_1 zI1
  have nA1I2 := Lib.hid (lt_of_heap A1.out)
  have nD1I2 := Lib.hid (lt_of_heap D1.out)
  have nI1I2 := Lib.hid (lt_of_heap I1.out)
  have B3 := Lib.hid (((B2.out).alloc (B2.out.size) _).trans (hb3.mono (by have := B2.out.size; first | assumption | (simp <;> omega) | (simp; done))))
  replace A1 := Lib.hid (row_call hb3 (row_alloc A1.out _))
  replace D1 := Lib.hid (row_call hb3 (row_alloc D1.out _))
  replace I1 := Lib.hid (row_call hb3 (row_alloc I1.out _))
  have I2 := Lib.hid (row_call hb3 (heap_alloc_new _ _))
  clear hb3
  have A1_0 : V3.cell? ⟨w.heap.size, 0, none⟩ = some (.int .i64 s) := cell_of_row _ _ _ _ _ _ A1.out
  have A1_1 : V3.cell? ⟨w.heap.size, 1, none⟩ = some (.int .i64 n) := cell_of_row _ _ _ _ _ _ A1.out
  have D1_0 : V3.cell? ⟨w.heap.size + 1, 0, none⟩ = some (.int .i64 d) := cell_of_row _ _ _ _ _ _ D1.out
  have D1_1 : V3.cell? ⟨w.heap.size + 1, 1, none⟩ = some (.int .i64 m) := cell_of_row _ _ _ _ _ _ D1.out
  have I1_0 : V3.cell? ⟨V1.heap.size, 0, none⟩ = some (.int .i64 S1) := cell_of_row _ _ _ _ _ _ I1.out
  have I1_1 : V3.cell? ⟨V1.heap.size, 1, none⟩ = some (.int .i64 N1) := cell_of_row _ _ _ _ _ _ I1.out
  have I2_0 : V3.cell? ⟨V2.heap.size, 0, none⟩ = some (.int .i64 S2) := cell_of_row _ _ _ _ _ _ I2.out
  have I2_1 : V3.cell? ⟨V2.heap.size, 1, none⟩ = some (.int .i64 N2) := cell_of_row _ _ _ _ _ _ I2.out
  have zA1 := lt_of_heap A1.out
  have zD1 := lt_of_heap D1.out
  have zI1 := lt_of_heap I1.out
  have zI2 := lt_of_heap I2.out
  go_simp
  go_wp2_with fail
  refine (H9.out _).mono ?_
  rintro e V4 ⟨rfl, hb4⟩
  clear A1_0 A1_1 zA1 D1_0 D1_1 zD1 I1_0 I1_1 zI1 I2_0 I2_1 zI2
  have nA1I3 := Lib.hid (lt_of_heap A1.out)
  have nD1I3 := Lib.hid (lt_of_heap D1.out)
  have nI1I3 := Lib.hid (lt_of_heap I1.out)
  have nI2I3 := Lib.hid (lt_of_heap I2.out)
  have B4 := Lib.hid (((B3.out).alloc (B3.out.size) _).trans (hb4.mono (by have := B3.out.size; first | assumption | (simp <;> omega) | (simp; done))))
  replace A1 := Lib.hid (row_call hb4 (row_alloc A1.out _))
  replace D1 := Lib.hid (row_call hb4 (row_alloc D1.out _))
  replace I1 := Lib.hid (row_call hb4 (row_alloc I1.out _))
  replace I2 := Lib.hid (row_call hb4 (row_alloc I2.out _))
  have I3 := Lib.hid (row_call hb4 (heap_alloc_new _ _))
  clear hb4
  have A1_0 : V4.cell? ⟨w.heap.size, 0, none⟩ = some (.int .i64 s) := cell_of_row _ _ _ _ _ _ A1.out
  have A1_1 : V4.cell? ⟨w.heap.size, 1, none⟩ = some (.int .i64 n) := cell_of_row _ _ _ _ _ _ A1.out
  have D1_0 : V4.cell? ⟨w.heap.size + 1, 0, none⟩ = some (.int .i64 d) := cell_of_row _ _ _ _ _ _ D1.out
  have D1_1 : V4.cell? ⟨w.heap.size + 1, 1, none⟩ = some (.int .i64 m) := cell_of_row _ _ _ _ _ _ D1.out
  have I1_0 : V4.cell? ⟨V1.heap.size, 0, none⟩ = some (.int .i64 S1) := cell_of_row _ _ _ _ _ _ I1.out
  have I1_1 : V4.cell? ⟨V1.heap.size, 1, none⟩ = some (.int .i64 N1) := cell_of_row _ _ _ _ _ _ I1.out
  have I2_0 : V4.cell? ⟨V2.heap.size, 0, none⟩ = some (.int .i64 S2) := cell_of_row _ _ _ _ _ _ I2.out
  have I2_1 : V4.cell? ⟨V2.heap.size, 1, none⟩ = some (.int .i64 N2) := cell_of_row _ _ _ _ _ _ I2.out
  have I3_0 : V4.cell? ⟨V3.heap.size, 0, none⟩ = some (.int .i64 S3) := cell_of_row _ _ _ _ _ _ I3.out
  have I3_1 : V4.cell? ⟨V3.heap.size, 1, none⟩ = some (.int .i64 N3) := cell_of_row _ _ _ _ _ _ I3.out
  have zA1 := lt_of_heap A1.out
  have zD1 := lt_of_heap D1.out
  have zI1 := lt_of_heap I1.out
  have zI2 := lt_of_heap I2.out
  have zI3 := lt_of_heap I3.out
  go_simp
  go_wp2
  go_ret
  exact ⟨rfl, by first | exact B4.out | exact B4.out.alloc B4.out.size _⟩
set_option maxHeartbeats 6400000 in
set_option maxRecDepth 100000 in
theorem durBack_001 (s n d m f S1 N1 E1 S2 N2 E2 S3 N3 E3 : Int)
    (H1 : Hid (∀ w, Calls Try.prog 13 #[.agg #[.int .i64 s, .int .i64 n], .agg #[.int .i64 d, .int .i64 m]] w fun e w' => e = .returned (.tuple #[.agg #[.int .i64 S1, .int .i64 N1], .int .i64 E1]) ∧ Below w.heap.size w w'))
    (f1 : (E1 == 0) = false)
    (H3 : Hid (∀ w, Calls Try.prog 21 #[.agg #[.int .i64 s, .int .i64 n], .int .i64 f] w fun e w' => e = .returned (.tuple #[.agg #[.int .i64 S2, .int .i64 N2], .int .i64 E2]) ∧ Below w.heap.size w w'))
    (f2 : (E2 == 0) = false)
    (H5 : Hid (∀ w, Calls Try.prog 17 #[.agg #[.int .i64 s, .int .i64 n]] w fun e w' => e = .returned (.tuple #[.agg #[.int .i64 S3, .int .i64 N3], .int .i64 0]) ∧ Below w.heap.size w w'))
    (H6 : Hid (∀ w, Calls Try.prog 17 #[.agg #[.int .i64 S3, .int .i64 N3]] w fun e w' => e = .returned (.tuple #[.agg #[.int .i64 s, .int .i64 n], .int .i64 0]) ∧ Below w.heap.size w w'))
    (w : World) :
    Calls Try.prog 7 #[.agg #[.int .i64 s, .int .i64 n], .agg #[.int .i64 d, .int .i64 m], .int .i64 f] w fun e w' => e = .returned (.bool true) ∧ Below w.heap.size w w' := by
  have H9 := Lib.hid awake4_any
  go_enter Try.func7, Try.ntmps7
  go_wp2_with fail
  
  refine (H1.out _).mono ?_
  rintro e V1 ⟨rfl, hb1⟩
  have B1 := Lib.hid ((((Below.refl w.heap.size w).alloc (Nat.le_refl _) _).alloc (by simp <;> omega) _).trans (hb1.mono (by first | assumption | (simp <;> omega) | (simp; done))))
  have A1 := Lib.hid (row_call hb1 (row_alloc (heap_alloc_new _ _) _))
  have D1 := Lib.hid (row_at (k' := w.heap.size + 1) (by simp) (row_call hb1 (heap_alloc_new _ _)))
  clear hb1
  have A1_0 : V1.cell? ⟨w.heap.size, 0, none⟩ = some (.int .i64 s) := cell_of_row _ _ _ _ _ _ A1.out
  have A1_1 : V1.cell? ⟨w.heap.size, 1, none⟩ = some (.int .i64 n) := cell_of_row _ _ _ _ _ _ A1.out
  have D1_0 : V1.cell? ⟨w.heap.size + 1, 0, none⟩ = some (.int .i64 d) := cell_of_row _ _ _ _ _ _ D1.out
  have D1_1 : V1.cell? ⟨w.heap.size + 1, 1, none⟩ = some (.int .i64 m) := cell_of_row _ _ _ _ _ _ D1.out
  have zA1 := lt_of_heap A1.out
  have zD1 := lt_of_heap D1.out
  go_simp
  go_wp2_with fail
  refine (H3.out _).mono ?_
  rintro e V2 ⟨rfl, hb2⟩
  clear A1_0 A1_1 zA1 D1_0 D1_1 zD1
  have nA1I1 := Lib.hid (lt_of_heap A1.out)
  have nD1I1 := Lib.hid (lt_of_heap D1.out)
  have B2 := Lib.hid (((B1.out).alloc (B1.out.size) _).trans (hb2.mono (by have := B1.out.size; first | assumption | (simp <;> omega) | (simp; done))))
  replace A1 := Lib.hid (row_call hb2 (row_alloc A1.out _))
  replace D1 := Lib.hid (row_call hb2 (row_alloc D1.out _))
  have I1 := Lib.hid (row_call hb2 (heap_alloc_new _ _))
  clear hb2
  have A1_0 : V2.cell? ⟨w.heap.size, 0, none⟩ = some (.int .i64 s) := cell_of_row _ _ _ _ _ _ A1.out
  have A1_1 : V2.cell? ⟨w.heap.size, 1, none⟩ = some (.int .i64 n) := cell_of_row _ _ _ _ _ _ A1.out
  have D1_0 : V2.cell? ⟨w.heap.size + 1, 0, none⟩ = some (.int .i64 d) := cell_of_row _ _ _ _ _ _ D1.out
  have D1_1 : V2.cell? ⟨w.heap.size + 1, 1, none⟩ = some (.int .i64 m) := cell_of_row _ _ _ _ _ _ D1.out
  have I1_0 : V2.cell? ⟨V1.heap.size, 0, none⟩ = some (.int .i64 S1) := cell_of_row _ _ _ _ _ _ I1.out
  have I1_1 : V2.cell? ⟨V1.heap.size, 1, none⟩ = some (.int .i64 N1) := cell_of_row _ _ _ _ _ _ I1.out
  have zA1 := lt_of_heap A1.out
  have zD1 := lt_of_heap D1.out
  have zI1 := lt_of_heap I1.out
  go_simp
  go_wp2_with fail
  refine (H5.out _).mono ?_
  rintro e V3 ⟨rfl, hb3⟩
  clear A1_0 A1_1 zA1 D1_0 D1_1 zD1 I1_0 I1_1 zI1
  have nA1I2 := Lib.hid (lt_of_heap A1.out)
  have nD1I2 := Lib.hid (lt_of_heap D1.out)
  have nI1I2 := Lib.hid (lt_of_heap I1.out)
  have B3 := Lib.hid (((B2.out).alloc (B2.out.size) _).trans (hb3.mono (by have := B2.out.size; first | assumption | (simp <;> omega) | (simp; done))))
  replace A1 := Lib.hid (row_call hb3 (row_alloc A1.out _))
  replace D1 := Lib.hid (row_call hb3 (row_alloc D1.out _))
  replace I1 := Lib.hid (row_call hb3 (row_alloc I1.out _))
  have I2 := Lib.hid (row_call hb3 (heap_alloc_new _ _))
  clear hb3
  have A1_0 : V3.cell? ⟨w.heap.size, 0, none⟩ = some (.int .i64 s) := cell_of_row _ _ _ _ _ _ A1.out
  have A1_1 : V3.cell? ⟨w.heap.size, 1, none⟩ = some (.int .i64 n) := cell_of_row _ _ _ _ _ _ A1.out
  have D1_0 : V3.cell? ⟨w.heap.size + 1, 0, none⟩ = some (.int .i64 d) := cell_of_row _ _ _ _ _ _ D1.out
  have D1_1 : V3.cell? ⟨w.heap.size + 1, 1, none⟩ = some (.int .i64 m) := cell_of_row _ _ _ _ _ _ D1.out
  have I1_0 : V3.cell? ⟨V1.heap.size, 0, none⟩ = some (.int .i64 S1) := cell_of_row _ _ _ _ _ _ I1.out
  have I1_1 : V3.cell? ⟨V1.heap.size, 1, none⟩ = some (.int .i64 N1) := cell_of_row _ _ _ _ _ _ I1.out
  have I2_0 : V3.cell? ⟨V2.heap.size, 0, none⟩ = some (.int .i64 S2) := cell_of_row _ _ _ _ _ _ I2.out
  have I2_1 : V3.cell? ⟨V2.heap.size, 1, none⟩ = some (.int .i64 N2) := cell_of_row _ _ _ _ _ _ I2.out
  have zA1 := lt_of_heap A1.out
  have zD1 := lt_of_heap D1.out
  have zI1 := lt_of_heap I1.out
  have zI2 := lt_of_heap I2.out
  go_simp
  go_wp2_with fail
  refine (H6.out _).mono ?_
  rintro e V4 ⟨rfl, hb4⟩
  clear A1_0 A1_1 zA1 D1_0 D1_1 zD1 I1_0 I1_1 zI1 I2_0 I2_1 zI2
  have nA1I3 := Lib.hid (lt_of_heap A1.out)
  have nD1I3 := Lib.hid (lt_of_heap D1.out)
  have nI1I3 := Lib.hid (lt_of_heap I1.out)
  have nI2I3 := Lib.hid (lt_of_heap I2.out)
  have B4 := Lib.hid (((B3.out).alloc (B3.out.size) _).trans (hb4.mono (by have := B3.out.size; first | assumption | (simp <;> omega) | (simp; done))))
  replace A1 := Lib.hid (row_call hb4 (row_alloc A1.out _))
  replace D1 := Lib.hid (row_call hb4 (row_alloc D1.out _))
  replace I1 := Lib.hid (row_call hb4 (row_alloc I1.out _))
  replace I2 := Lib.hid (row_call hb4 (row_alloc I2.out _))
  have I3 := Lib.hid (row_call hb4 (heap_alloc_new _ _))
  clear hb4
  have A1_0 : V4.cell? ⟨w.heap.size, 0, none⟩ = some (.int .i64 s) := cell_of_row _ _ _ _ _ _ A1.out
  have A1_1 : V4.cell? ⟨w.heap.size, 1, none⟩ = some (.int .i64 n) := cell_of_row _ _ _ _ _ _ A1.out
  have D1_0 : V4.cell? ⟨w.heap.size + 1, 0, none⟩ = some (.int .i64 d) := cell_of_row _ _ _ _ _ _ D1.out
  have D1_1 : V4.cell? ⟨w.heap.size + 1, 1, none⟩ = some (.int .i64 m) := cell_of_row _ _ _ _ _ _ D1.out
  have I1_0 : V4.cell? ⟨V1.heap.size, 0, none⟩ = some (.int .i64 S1) := cell_of_row _ _ _ _ _ _ I1.out
  have I1_1 : V4.cell? ⟨V1.heap.size, 1, none⟩ = some (.int .i64 N1) := cell_of_row _ _ _ _ _ _ I1.out
  have I2_0 : V4.cell? ⟨V2.heap.size, 0, none⟩ = some (.int .i64 S2) := cell_of_row _ _ _ _ _ _ I2.out
  have I2_1 : V4.cell? ⟨V2.heap.size, 1, none⟩ = some (.int .i64 N2) := cell_of_row _ _ _ _ _ _ I2.out
  have I3_0 : V4.cell? ⟨V3.heap.size, 0, none⟩ = some (.int .i64 S3) := cell_of_row _ _ _ _ _ _ I3.out
  have I3_1 : V4.cell? ⟨V3.heap.size, 1, none⟩ = some (.int .i64 N3) := cell_of_row _ _ _ _ _ _ I3.out
  have zA1 := lt_of_heap A1.out
  have zD1 := lt_of_heap D1.out
  have zI1 := lt_of_heap I1.out
  have zI2 := lt_of_heap I2.out
  have zI3 := lt_of_heap I3.out
  go_simp
  go_wp2_with fail
  refine (H9.out _).mono ?_
  rintro e V5 ⟨rfl, hb5⟩
  clear A1_0 A1_1 zA1 D1_0 D1_1 zD1 I1_0 I1_1 zI1 I2_0 I2_1 zI2 I3_0 I3_1 zI3
  have nA1J3 := Lib.hid (lt_of_heap A1.out)
  have nD1J3 := Lib.hid (lt_of_heap D1.out)
  have nI1J3 := Lib.hid (lt_of_heap I1.out)
  have nI2J3 := Lib.hid (lt_of_heap I2.out)
  have nI3J3 := Lib.hid (lt_of_heap I3.out)
  have B5 := Lib.hid (((B4.out).alloc (B4.out.size) _).trans (hb5.mono (by have := B4.out.size; first | assumption | (simp <;> omega) | (simp; done))))
  replace A1 := Lib.hid (row_call hb5 (row_alloc A1.out _))
  replace D1 := Lib.hid (row_call hb5 (row_alloc D1.out _))
  replace I1 := Lib.hid (row_call hb5 (row_alloc I1.out _))
  replace I2 := Lib.hid (row_call hb5 (row_alloc I2.out _))
  replace I3 := Lib.hid (row_call hb5 (row_alloc I3.out _))
  have J3 := Lib.hid (row_call hb5 (heap_alloc_new _ _))
  clear hb5
  have A1_0 : V5.cell? ⟨w.heap.size, 0, none⟩ = some (.int .i64 s) := cell_of_row _ _ _ _ _ _ A1.out
  have A1_1 : V5.cell? ⟨w.heap.size, 1, none⟩ = some (.int .i64 n) := cell_of_row _ _ _ _ _ _ A1.out
  have D1_0 : V5.cell? ⟨w.heap.size + 1, 0, none⟩ = some (.int .i64 d) := cell_of_row _ _ _ _ _ _ D1.out
  have D1_1 : V5.cell? ⟨w.heap.size + 1, 1, none⟩ = some (.int .i64 m) := cell_of_row _ _ _ _ _ _ D1.out
  have I1_0 : V5.cell? ⟨V1.heap.size, 0, none⟩ = some (.int .i64 S1) := cell_of_row _ _ _ _ _ _ I1.out
  have I1_1 : V5.cell? ⟨V1.heap.size, 1, none⟩ = some (.int .i64 N1) := cell_of_row _ _ _ _ _ _ I1.out
  have I2_0 : V5.cell? ⟨V2.heap.size, 0, none⟩ = some (.int .i64 S2) := cell_of_row _ _ _ _ _ _ I2.out
  have I2_1 : V5.cell? ⟨V2.heap.size, 1, none⟩ = some (.int .i64 N2) := cell_of_row _ _ _ _ _ _ I2.out
  have I3_0 : V5.cell? ⟨V3.heap.size, 0, none⟩ = some (.int .i64 S3) := cell_of_row _ _ _ _ _ _ I3.out
  have I3_1 : V5.cell? ⟨V3.heap.size, 1, none⟩ = some (.int .i64 N3) := cell_of_row _ _ _ _ _ _ I3.out
  have J3_0 : V5.cell? ⟨V4.heap.size, 0, none⟩ = some (.int .i64 s) := cell_of_row _ _ _ _ _ _ J3.out
  have J3_1 : V5.cell? ⟨V4.heap.size, 1, none⟩ = some (.int .i64 n) := cell_of_row _ _ _ _ _ _ J3.out
  have zA1 := lt_of_heap A1.out
  have zD1 := lt_of_heap D1.out
  have zI1 := lt_of_heap I1.out
  have zI2 := lt_of_heap I2.out
  have zI3 := lt_of_heap I3.out
  have zJ3 := lt_of_heap J3.out
  go_simp
  go_wp2
  go_ret
  exact ⟨rfl, by first | exact B5.out | exact B5.out.alloc B5.out.size _⟩
set_option maxHeartbeats 6400000 in
set_option maxRecDepth 100000 in
theorem durBack_010 (s n d m f S1 N1 E1 S2 N2 E2 S3 N3 E3 : Int)
    (H1 : Hid (∀ w, Calls Try.prog 13 #[.agg #[.int .i64 s, .int .i64 n], .agg #[.int .i64 d, .int .i64 m]] w fun e w' => e = .returned (.tuple #[.agg #[.int .i64 S1, .int .i64 N1], .int .i64 E1]) ∧ Below w.heap.size w w'))
    (f1 : (E1 == 0) = false)
    (H3 : Hid (∀ w, Calls Try.prog 21 #[.agg #[.int .i64 s, .int .i64 n], .int .i64 0] w fun e w' => e = .returned (.tuple #[.agg #[.int .i64 S2, .int .i64 N2], .int .i64 0]) ∧ Below w.heap.size w w'))
    (H5 : Hid (∀ w, Calls Try.prog 17 #[.agg #[.int .i64 s, .int .i64 n]] w fun e w' => e = .returned (.tuple #[.agg #[.int .i64 S3, .int .i64 N3], .int .i64 E3]) ∧ Below w.heap.size w w'))
    (f4 : (E3 == 0) = false)
    (w : World) :
    Calls Try.prog 7 #[.agg #[.int .i64 s, .int .i64 n], .agg #[.int .i64 d, .int .i64 m], .int .i64 0] w fun e w' => e = .returned (.bool true) ∧ Below w.heap.size w w' := by
  have H9 := Lib.hid awake4_any
  go_enter Try.func7, Try.ntmps7
  go_wp2_with fail
  
  refine (H1.out _).mono ?_
  rintro e V1 ⟨rfl, hb1⟩
  have B1 := Lib.hid ((((Below.refl w.heap.size w).alloc (Nat.le_refl _) _).alloc (by simp <;> omega) _).trans (hb1.mono (by first | assumption | (simp <;> omega) | (simp; done))))
  have A1 := Lib.hid (row_call hb1 (row_alloc (heap_alloc_new _ _) _))
  have D1 := Lib.hid (row_at (k' := w.heap.size + 1) (by simp) (row_call hb1 (heap_alloc_new _ _)))
  clear hb1
  have A1_0 : V1.cell? ⟨w.heap.size, 0, none⟩ = some (.int .i64 s) := cell_of_row _ _ _ _ _ _ A1.out
  have A1_1 : V1.cell? ⟨w.heap.size, 1, none⟩ = some (.int .i64 n) := cell_of_row _ _ _ _ _ _ A1.out
  have D1_0 : V1.cell? ⟨w.heap.size + 1, 0, none⟩ = some (.int .i64 d) := cell_of_row _ _ _ _ _ _ D1.out
  have D1_1 : V1.cell? ⟨w.heap.size + 1, 1, none⟩ = some (.int .i64 m) := cell_of_row _ _ _ _ _ _ D1.out
  have zA1 := lt_of_heap A1.out
  have zD1 := lt_of_heap D1.out
  go_simp
  go_wp2_with fail
  refine (H3.out _).mono ?_
  rintro e V2 ⟨rfl, hb2⟩
  clear A1_0 A1_1 zA1 D1_0 D1_1 zD1
  have nA1I1 := Lib.hid (lt_of_heap A1.out)
  have nD1I1 := Lib.hid (lt_of_heap D1.out)
  have B2 := Lib.hid (((B1.out).alloc (B1.out.size) _).trans (hb2.mono (by have := B1.out.size; first | assumption | (simp <;> omega) | (simp; done))))
  replace A1 := Lib.hid (row_call hb2 (row_alloc A1.out _))
  replace D1 := Lib.hid (row_call hb2 (row_alloc D1.out _))
  have I1 := Lib.hid (row_call hb2 (heap_alloc_new _ _))
  clear hb2
  have A1_0 : V2.cell? ⟨w.heap.size, 0, none⟩ = some (.int .i64 s) := cell_of_row _ _ _ _ _ _ A1.out
  have A1_1 : V2.cell? ⟨w.heap.size, 1, none⟩ = some (.int .i64 n) := cell_of_row _ _ _ _ _ _ A1.out
  have D1_0 : V2.cell? ⟨w.heap.size + 1, 0, none⟩ = some (.int .i64 d) := cell_of_row _ _ _ _ _ _ D1.out
  have D1_1 : V2.cell? ⟨w.heap.size + 1, 1, none⟩ = some (.int .i64 m) := cell_of_row _ _ _ _ _ _ D1.out
  have I1_0 : V2.cell? ⟨V1.heap.size, 0, none⟩ = some (.int .i64 S1) := cell_of_row _ _ _ _ _ _ I1.out
  have I1_1 : V2.cell? ⟨V1.heap.size, 1, none⟩ = some (.int .i64 N1) := cell_of_row _ _ _ _ _ _ I1.out
  have zA1 := lt_of_heap A1.out
  have zD1 := lt_of_heap D1.out
  have zI1 := lt_of_heap I1.out
  go_simp
  go_wp2_with fail
  refine (H5.out _).mono ?_
  rintro e V3 ⟨rfl, hb3⟩
  clear A1_0 A1_1 zA1 D1_0 D1_1 zD1 I1_0 I1_1 zI1
  have nA1I2 := Lib.hid (lt_of_heap A1.out)
  have nD1I2 := Lib.hid (lt_of_heap D1.out)
  have nI1I2 := Lib.hid (lt_of_heap I1.out)
  have B3 := Lib.hid (((B2.out).alloc (B2.out.size) _).trans (hb3.mono (by have := B2.out.size; first | assumption | (simp <;> omega) | (simp; done))))
  replace A1 := Lib.hid (row_call hb3 (row_alloc A1.out _))
  replace D1 := Lib.hid (row_call hb3 (row_alloc D1.out _))
  replace I1 := Lib.hid (row_call hb3 (row_alloc I1.out _))
  have I2 := Lib.hid (row_call hb3 (heap_alloc_new _ _))
  clear hb3
  have A1_0 : V3.cell? ⟨w.heap.size, 0, none⟩ = some (.int .i64 s) := cell_of_row _ _ _ _ _ _ A1.out
  have A1_1 : V3.cell? ⟨w.heap.size, 1, none⟩ = some (.int .i64 n) := cell_of_row _ _ _ _ _ _ A1.out
  have D1_0 : V3.cell? ⟨w.heap.size + 1, 0, none⟩ = some (.int .i64 d) := cell_of_row _ _ _ _ _ _ D1.out
  have D1_1 : V3.cell? ⟨w.heap.size + 1, 1, none⟩ = some (.int .i64 m) := cell_of_row _ _ _ _ _ _ D1.out
  have I1_0 : V3.cell? ⟨V1.heap.size, 0, none⟩ = some (.int .i64 S1) := cell_of_row _ _ _ _ _ _ I1.out
  have I1_1 : V3.cell? ⟨V1.heap.size, 1, none⟩ = some (.int .i64 N1) := cell_of_row _ _ _ _ _ _ I1.out
  have I2_0 : V3.cell? ⟨V2.heap.size, 0, none⟩ = some (.int .i64 S2) := cell_of_row _ _ _ _ _ _ I2.out
  have I2_1 : V3.cell? ⟨V2.heap.size, 1, none⟩ = some (.int .i64 N2) := cell_of_row _ _ _ _ _ _ I2.out
  have zA1 := lt_of_heap A1.out
  have zD1 := lt_of_heap D1.out
  have zI1 := lt_of_heap I1.out
  have zI2 := lt_of_heap I2.out
  go_simp
  go_wp2_with fail
  refine (H9.out _).mono ?_
  rintro e V4 ⟨rfl, hb4⟩
  clear A1_0 A1_1 zA1 D1_0 D1_1 zD1 I1_0 I1_1 zI1 I2_0 I2_1 zI2
  have nA1I3 := Lib.hid (lt_of_heap A1.out)
  have nD1I3 := Lib.hid (lt_of_heap D1.out)
  have nI1I3 := Lib.hid (lt_of_heap I1.out)
  have nI2I3 := Lib.hid (lt_of_heap I2.out)
  have B4 := Lib.hid (((B3.out).alloc (B3.out.size) _).trans (hb4.mono (by have := B3.out.size; first | assumption | (simp <;> omega) | (simp; done))))
  replace A1 := Lib.hid (row_call hb4 (row_alloc A1.out _))
  replace D1 := Lib.hid (row_call hb4 (row_alloc D1.out _))
  replace I1 := Lib.hid (row_call hb4 (row_alloc I1.out _))
  replace I2 := Lib.hid (row_call hb4 (row_alloc I2.out _))
  have I3 := Lib.hid (row_call hb4 (heap_alloc_new _ _))
  clear hb4
  have A1_0 : V4.cell? ⟨w.heap.size, 0, none⟩ = some (.int .i64 s) := cell_of_row _ _ _ _ _ _ A1.out
  have A1_1 : V4.cell? ⟨w.heap.size, 1, none⟩ = some (.int .i64 n) := cell_of_row _ _ _ _ _ _ A1.out
  have D1_0 : V4.cell? ⟨w.heap.size + 1, 0, none⟩ = some (.int .i64 d) := cell_of_row _ _ _ _ _ _ D1.out
  have D1_1 : V4.cell? ⟨w.heap.size + 1, 1, none⟩ = some (.int .i64 m) := cell_of_row _ _ _ _ _ _ D1.out
  have I1_0 : V4.cell? ⟨V1.heap.size, 0, none⟩ = some (.int .i64 S1) := cell_of_row _ _ _ _ _ _ I1.out
  have I1_1 : V4.cell? ⟨V1.heap.size, 1, none⟩ = some (.int .i64 N1) := cell_of_row _ _ _ _ _ _ I1.out
  have I2_0 : V4.cell? ⟨V2.heap.size, 0, none⟩ = some (.int .i64 S2) := cell_of_row _ _ _ _ _ _ I2.out
  have I2_1 : V4.cell? ⟨V2.heap.size, 1, none⟩ = some (.int .i64 N2) := cell_of_row _ _ _ _ _ _ I2.out
  have I3_0 : V4.cell? ⟨V3.heap.size, 0, none⟩ = some (.int .i64 S3) := cell_of_row _ _ _ _ _ _ I3.out
  have I3_1 : V4.cell? ⟨V3.heap.size, 1, none⟩ = some (.int .i64 N3) := cell_of_row _ _ _ _ _ _ I3.out
  have zA1 := lt_of_heap A1.out
  have zD1 := lt_of_heap D1.out
  have zI1 := lt_of_heap I1.out
  have zI2 := lt_of_heap I2.out
  have zI3 := lt_of_heap I3.out
  go_simp
  go_wp2
  go_ret
  exact ⟨rfl, by first | exact B4.out | exact B4.out.alloc B4.out.size _⟩
set_option maxHeartbeats 6400000 in
set_option maxRecDepth 100000 in
theorem durBack_011 (s n d m f S1 N1 E1 S2 N2 E2 S3 N3 E3 : Int)
    (H1 : Hid (∀ w, Calls Try.prog 13 #[.agg #[.int .i64 s, .int .i64 n], .agg #[.int .i64 d, .int .i64 m]] w fun e w' => e = .returned (.tuple #[.agg #[.int .i64 S1, .int .i64 N1], .int .i64 E1]) ∧ Below w.heap.size w w'))
    (f1 : (E1 == 0) = false)
    (H3 : Hid (∀ w, Calls Try.prog 21 #[.agg #[.int .i64 s, .int .i64 n], .int .i64 0] w fun e w' => e = .returned (.tuple #[.agg #[.int .i64 S2, .int .i64 N2], .int .i64 0]) ∧ Below w.heap.size w w'))
    (H5 : Hid (∀ w, Calls Try.prog 17 #[.agg #[.int .i64 s, .int .i64 n]] w fun e w' => e = .returned (.tuple #[.agg #[.int .i64 S3, .int .i64 N3], .int .i64 0]) ∧ Below w.heap.size w w'))
    (H6 : Hid (∀ w, Calls Try.prog 17 #[.agg #[.int .i64 S3, .int .i64 N3]] w fun e w' => e = .returned (.tuple #[.agg #[.int .i64 s, .int .i64 n], .int .i64 0]) ∧ Below w.heap.size w w'))
    (w : World) :
    Calls Try.prog 7 #[.agg #[.int .i64 s, .int .i64 n], .agg #[.int .i64 d, .int .i64 m], .int .i64 0] w fun e w' => e = .returned (.bool true) ∧ Below w.heap.size w w' := by
  have H9 := Lib.hid awake4_any
  go_enter Try.func7, Try.ntmps7
  go_wp2_with fail
  
  refine (H1.out _).mono ?_
  rintro e V1 ⟨rfl, hb1⟩
  have B1 := Lib.hid ((((Below.refl w.heap.size w).alloc (Nat.le_refl _) _).alloc (by simp <;> omega) _).trans (hb1.mono (by first | assumption | (simp <;> omega) | (simp; done))))
  have A1 := Lib.hid (row_call hb1 (row_alloc (heap_alloc_new _ _) _))
  have D1 := Lib.hid (row_at (k' := w.heap.size + 1) (by simp) (row_call hb1 (heap_alloc_new _ _)))
  clear hb1
  have A1_0 : V1.cell? ⟨w.heap.size, 0, none⟩ = some (.int .i64 s) := cell_of_row _ _ _ _ _ _ A1.out
  have A1_1 : V1.cell? ⟨w.heap.size, 1, none⟩ = some (.int .i64 n) := cell_of_row _ _ _ _ _ _ A1.out
  have D1_0 : V1.cell? ⟨w.heap.size + 1, 0, none⟩ = some (.int .i64 d) := cell_of_row _ _ _ _ _ _ D1.out
  have D1_1 : V1.cell? ⟨w.heap.size + 1, 1, none⟩ = some (.int .i64 m) := cell_of_row _ _ _ _ _ _ D1.out
  have zA1 := lt_of_heap A1.out
  have zD1 := lt_of_heap D1.out
  go_simp
  go_wp2_with fail
  refine (H3.out _).mono ?_
  rintro e V2 ⟨rfl, hb2⟩
  clear A1_0 A1_1 zA1 D1_0 D1_1 zD1
  have nA1I1 := Lib.hid (lt_of_heap A1.out)
  have nD1I1 := Lib.hid (lt_of_heap D1.out)
  have B2 := Lib.hid (((B1.out).alloc (B1.out.size) _).trans (hb2.mono (by have := B1.out.size; first | assumption | (simp <;> omega) | (simp; done))))
  replace A1 := Lib.hid (row_call hb2 (row_alloc A1.out _))
  replace D1 := Lib.hid (row_call hb2 (row_alloc D1.out _))
  have I1 := Lib.hid (row_call hb2 (heap_alloc_new _ _))
  clear hb2
  have A1_0 : V2.cell? ⟨w.heap.size, 0, none⟩ = some (.int .i64 s) := cell_of_row _ _ _ _ _ _ A1.out
  have A1_1 : V2.cell? ⟨w.heap.size, 1, none⟩ = some (.int .i64 n) := cell_of_row _ _ _ _ _ _ A1.out
  have D1_0 : V2.cell? ⟨w.heap.size + 1, 0, none⟩ = some (.int .i64 d) := cell_of_row _ _ _ _ _ _ D1.out
  have D1_1 : V2.cell? ⟨w.heap.size + 1, 1, none⟩ = some (.int .i64 m) := cell_of_row _ _ _ _ _ _ D1.out
  have I1_0 : V2.cell? ⟨V1.heap.size, 0, none⟩ = some (.int .i64 S1) := cell_of_row _ _ _ _ _ _ I1.out
  have I1_1 : V2.cell? ⟨V1.heap.size, 1, none⟩ = some (.int .i64 N1) := cell_of_row _ _ _ _ _ _ I1.out
  have zA1 := lt_of_heap A1.out
  have zD1 := lt_of_heap D1.out
  have zI1 := lt_of_heap I1.out
  go_simp
  go_wp2_with fail
  refine (H5.out _).mono ?_
  rintro e V3 ⟨rfl, hb3⟩
  clear A1_0 A1_1 zA1 D1_0 D1_1 zD1 I1_0 I1_1 zI1
  have nA1I2 := Lib.hid (lt_of_heap A1.out)
  have nD1I2 := Lib.hid (lt_of_heap D1.out)
  have nI1I2 := Lib.hid (lt_of_heap I1.out)
  have B3 := Lib.hid (((B2.out).alloc (B2.out.size) _).trans (hb3.mono (by have := B2.out.size; first | assumption | (simp <;> omega) | (simp; done))))
  replace A1 := Lib.hid (row_call hb3 (row_alloc A1.out _))
  replace D1 := Lib.hid (row_call hb3 (row_alloc D1.out _))
  replace I1 := Lib.hid (row_call hb3 (row_alloc I1.out _))
  have I2 := Lib.hid (row_call hb3 (heap_alloc_new _ _))
  clear hb3
  have A1_0 : V3.cell? ⟨w.heap.size, 0, none⟩ = some (.int .i64 s) := cell_of_row _ _ _ _ _ _ A1.out
  have A1_1 : V3.cell? ⟨w.heap.size, 1, none⟩ = some (.int .i64 n) := cell_of_row _ _ _ _ _ _ A1.out
  have D1_0 : V3.cell? ⟨w.heap.size + 1, 0, none⟩ = some (.int .i64 d) := cell_of_row _ _ _ _ _ _ D1.out
  have D1_1 : V3.cell? ⟨w.heap.size + 1, 1, none⟩ = some (.int .i64 m) := cell_of_row _ _ _ _ _ _ D1.out
  have I1_0 : V3.cell? ⟨V1.heap.size, 0, none⟩ = some (.int .i64 S1) := cell_of_row _ _ _ _ _ _ I1.out
  have I1_1 : V3.cell? ⟨V1.heap.size, 1, none⟩ = some (.int .i64 N1) := cell_of_row _ _ _ _ _ _ I1.out
  have I2_0 : V3.cell? ⟨V2.heap.size, 0, none⟩ = some (.int .i64 S2) := cell_of_row _ _ _ _ _ _ I2.out
  have I2_1 : V3.cell? ⟨V2.heap.size, 1, none⟩ = some (.int .i64 N2) := cell_of_row _ _ _ _ _ _ I2.out
  have zA1 := lt_of_heap A1.out
  have zD1 := lt_of_heap D1.out
  have zI1 := lt_of_heap I1.out
  have zI2 := lt_of_heap I2.out
  go_simp
  go_wp2_with fail
  refine (H6.out _).mono ?_
  rintro e V4 ⟨rfl, hb4⟩
  clear A1_0 A1_1 zA1 D1_0 D1_1 zD1 I1_0 I1_1 zI1 I2_0 I2_1 zI2
  have nA1I3 := Lib.hid (lt_of_heap A1.out)
  have nD1I3 := Lib.hid (lt_of_heap D1.out)
  have nI1I3 := Lib.hid (lt_of_heap I1.out)
  have nI2I3 := Lib.hid (lt_of_heap I2.out)
  have B4 := Lib.hid (((B3.out).alloc (B3.out.size) _).trans (hb4.mono (by have := B3.out.size; first | assumption | (simp <;> omega) | (simp; done))))
  replace A1 := Lib.hid (row_call hb4 (row_alloc A1.out _))
  replace D1 := Lib.hid (row_call hb4 (row_alloc D1.out _))
  replace I1 := Lib.hid (row_call hb4 (row_alloc I1.out _))
  replace I2 := Lib.hid (row_call hb4 (row_alloc I2.out _))
  have I3 := Lib.hid (row_call hb4 (heap_alloc_new _ _))
  clear hb4
  have A1_0 : V4.cell? ⟨w.heap.size, 0, none⟩ = some (.int .i64 s) := cell_of_row _ _ _ _ _ _ A1.out
  have A1_1 : V4.cell? ⟨w.heap.size, 1, none⟩ = some (.int .i64 n) := cell_of_row _ _ _ _ _ _ A1.out
  have D1_0 : V4.cell? ⟨w.heap.size + 1, 0, none⟩ = some (.int .i64 d) := cell_of_row _ _ _ _ _ _ D1.out
  have D1_1 : V4.cell? ⟨w.heap.size + 1, 1, none⟩ = some (.int .i64 m) := cell_of_row _ _ _ _ _ _ D1.out
  have I1_0 : V4.cell? ⟨V1.heap.size, 0, none⟩ = some (.int .i64 S1) := cell_of_row _ _ _ _ _ _ I1.out
  have I1_1 : V4.cell? ⟨V1.heap.size, 1, none⟩ = some (.int .i64 N1) := cell_of_row _ _ _ _ _ _ I1.out
  have I2_0 : V4.cell? ⟨V2.heap.size, 0, none⟩ = some (.int .i64 S2) := cell_of_row _ _ _ _ _ _ I2.out
  have I2_1 : V4.cell? ⟨V2.heap.size, 1, none⟩ = some (.int .i64 N2) := cell_of_row _ _ _ _ _ _ I2.out
  have I3_0 : V4.cell? ⟨V3.heap.size, 0, none⟩ = some (.int .i64 S3) := cell_of_row _ _ _ _ _ _ I3.out
  have I3_1 : V4.cell? ⟨V3.heap.size, 1, none⟩ = some (.int .i64 N3) := cell_of_row _ _ _ _ _ _ I3.out
  have zA1 := lt_of_heap A1.out
  have zD1 := lt_of_heap D1.out
  have zI1 := lt_of_heap I1.out
  have zI2 := lt_of_heap I2.out
  have zI3 := lt_of_heap I3.out
  go_simp
  go_wp2_with fail
  refine (H9.out _).mono ?_
  rintro e V5 ⟨rfl, hb5⟩
  clear A1_0 A1_1 zA1 D1_0 D1_1 zD1 I1_0 I1_1 zI1 I2_0 I2_1 zI2 I3_0 I3_1 zI3
  have nA1J3 := Lib.hid (lt_of_heap A1.out)
  have nD1J3 := Lib.hid (lt_of_heap D1.out)
  have nI1J3 := Lib.hid (lt_of_heap I1.out)
  have nI2J3 := Lib.hid (lt_of_heap I2.out)
  have nI3J3 := Lib.hid (lt_of_heap I3.out)
  have B5 := Lib.hid (((B4.out).alloc (B4.out.size) _).trans (hb5.mono (by have := B4.out.size; first | assumption | (simp <;> omega) | (simp; done))))
  replace A1 := Lib.hid (row_call hb5 (row_alloc A1.out _))
  replace D1 := Lib.hid (row_call hb5 (row_alloc D1.out _))
  replace I1 := Lib.hid (row_call hb5 (row_alloc I1.out _))
  replace I2 := Lib.hid (row_call hb5 (row_alloc I2.out _))
  replace I3 := Lib.hid (row_call hb5 (row_alloc I3.out _))
  have J3 := Lib.hid (row_call hb5 (heap_alloc_new _ _))
  clear hb5
  have A1_0 : V5.cell? ⟨w.heap.size, 0, none⟩ = some (.int .i64 s) := cell_of_row _ _ _ _ _ _ A1.out
  have A1_1 : V5.cell? ⟨w.heap.size, 1, none⟩ = some (.int .i64 n) := cell_of_row _ _ _ _ _ _ A1.out
  have D1_0 : V5.cell? ⟨w.heap.size + 1, 0, none⟩ = some (.int .i64 d) := cell_of_row _ _ _ _ _ _ D1.out
  have D1_1 : V5.cell? ⟨w.heap.size + 1, 1, none⟩ = some (.int .i64 m) := cell_of_row _ _ _ _ _ _ D1.out
  have I1_0 : V5.cell? ⟨V1.heap.size, 0, none⟩ = some (.int .i64 S1) := cell_of_row _ _ _ _ _ _ I1.out
  have I1_1 : V5.cell? ⟨V1.heap.size, 1, none⟩ = some (.int .i64 N1) := cell_of_row _ _ _ _ _ _ I1.out
  have I2_0 : V5.cell? ⟨V2.heap.size, 0, none⟩ = some (.int .i64 S2) := cell_of_row _ _ _ _ _ _ I2.out
  have I2_1 : V5.cell? ⟨V2.heap.size, 1, none⟩ = some (.int .i64 N2) := cell_of_row _ _ _ _ _ _ I2.out
  have I3_0 : V5.cell? ⟨V3.heap.size, 0, none⟩ = some (.int .i64 S3) := cell_of_row _ _ _ _ _ _ I3.out
  have I3_1 : V5.cell? ⟨V3.heap.size, 1, none⟩ = some (.int .i64 N3) := cell_of_row _ _ _ _ _ _ I3.out
  have J3_0 : V5.cell? ⟨V4.heap.size, 0, none⟩ = some (.int .i64 s) := cell_of_row _ _ _ _ _ _ J3.out
  have J3_1 : V5.cell? ⟨V4.heap.size, 1, none⟩ = some (.int .i64 n) := cell_of_row _ _ _ _ _ _ J3.out
  have zA1 := lt_of_heap A1.out
  have zD1 := lt_of_heap D1.out
  have zI1 := lt_of_heap I1.out
  have zI2 := lt_of_heap I2.out
  have zI3 := lt_of_heap I3.out
  have zJ3 := lt_of_heap J3.out
  go_simp
  go_wp2
  go_ret
  exact ⟨rfl, by first | exact B5.out | exact B5.out.alloc B5.out.size _⟩
set_option maxHeartbeats 6400000 in
set_option maxRecDepth 100000 in
theorem durBack_020 (s n d m f S1 N1 E1 S2 N2 E2 S3 N3 E3 : Int)
    (H1 : Hid (∀ w, Calls Try.prog 13 #[.agg #[.int .i64 s, .int .i64 n], .agg #[.int .i64 d, .int .i64 m]] w fun e w' => e = .returned (.tuple #[.agg #[.int .i64 S1, .int .i64 N1], .int .i64 E1]) ∧ Below w.heap.size w w'))
    (f1 : (E1 == 0) = false)
    (H3 : Hid (∀ w, Calls Try.prog 21 #[.agg #[.int .i64 s, .int .i64 n], .int .i64 f] w fun e w' => e = .returned (.tuple #[.agg #[.int .i64 S2, .int .i64 N2], .int .i64 0]) ∧ Below w.heap.size w w'))
    (H4 : Hid (∀ w, Calls Try.prog 23 #[.agg #[.int .i64 S2, .int .i64 N2], .int .i64 f] w fun e w' => e = .returned (.tuple #[.agg #[.int .i64 s, .int .i64 n], .int .i64 0]) ∧ Below w.heap.size w w'))
    (f3 : (f != 0) = true)
    (H5 : Hid (∀ w, Calls Try.prog 17 #[.agg #[.int .i64 s, .int .i64 n]] w fun e w' => e = .returned (.tuple #[.agg #[.int .i64 S3, .int .i64 N3], .int .i64 E3]) ∧ Below w.heap.size w w'))
    (f4 : (E3 == 0) = false)
    (w : World) :
    Calls Try.prog 7 #[.agg #[.int .i64 s, .int .i64 n], .agg #[.int .i64 d, .int .i64 m], .int .i64 f] w fun e w' => e = .returned (.bool true) ∧ Below w.heap.size w w' := by
  have H9 := Lib.hid awake4_any
  go_enter Try.func7, Try.ntmps7
  go_wp2_with fail
  
  refine (H1.out _).mono ?_
  rintro e V1 ⟨rfl, hb1⟩
  have B1 := Lib.hid ((((Below.refl w.heap.size w).alloc (Nat.le_refl _) _).alloc (by simp <;> omega) _).trans (hb1.mono (by first | assumption | (simp <;> omega) | (simp; done))))
  have A1 := Lib.hid (row_call hb1 (row_alloc (heap_alloc_new _ _) _))
  have D1 := Lib.hid (row_at (k' := w.heap.size + 1) (by simp) (row_call hb1 (heap_alloc_new _ _)))
  clear hb1
  have A1_0 : V1.cell? ⟨w.heap.size, 0, none⟩ = some (.int .i64 s) := cell_of_row _ _ _ _ _ _ A1.out
  have A1_1 : V1.cell? ⟨w.heap.size, 1, none⟩ = some (.int .i64 n) := cell_of_row _ _ _ _ _ _ A1.out
  have D1_0 : V1.cell? ⟨w.heap.size + 1, 0, none⟩ = some (.int .i64 d) := cell_of_row _ _ _ _ _ _ D1.out
  have D1_1 : V1.cell? ⟨w.heap.size + 1, 1, none⟩ = some (.int .i64 m) := cell_of_row _ _ _ _ _ _ D1.out
  have zA1 := lt_of_heap A1.out
  have zD1 := lt_of_heap D1.out
  go_simp
  go_wp2_with fail
  refine (H3.out _).mono ?_
  rintro e V2 ⟨rfl, hb2⟩
  clear A1_0 A1_1 zA1 D1_0 D1_1 zD1
  have nA1I1 := Lib.hid (lt_of_heap A1.out)
  have nD1I1 := Lib.hid (lt_of_heap D1.out)
  have B2 := Lib.hid (((B1.out).alloc (B1.out.size) _).trans (hb2.mono (by have := B1.out.size; first | assumption | (simp <;> omega) | (simp; done))))
  replace A1 := Lib.hid (row_call hb2 (row_alloc A1.out _))
  replace D1 := Lib.hid (row_call hb2 (row_alloc D1.out _))
  have I1 := Lib.hid (row_call hb2 (heap_alloc_new _ _))
  clear hb2
  have A1_0 : V2.cell? ⟨w.heap.size, 0, none⟩ = some (.int .i64 s) := cell_of_row _ _ _ _ _ _ A1.out
  have A1_1 : V2.cell? ⟨w.heap.size, 1, none⟩ = some (.int .i64 n) := cell_of_row _ _ _ _ _ _ A1.out
  have D1_0 : V2.cell? ⟨w.heap.size + 1, 0, none⟩ = some (.int .i64 d) := cell_of_row _ _ _ _ _ _ D1.out
  have D1_1 : V2.cell? ⟨w.heap.size + 1, 1, none⟩ = some (.int .i64 m) := cell_of_row _ _ _ _ _ _ D1.out
  have I1_0 : V2.cell? ⟨V1.heap.size, 0, none⟩ = some (.int .i64 S1) := cell_of_row _ _ _ _ _ _ I1.out
  have I1_1 : V2.cell? ⟨V1.heap.size, 1, none⟩ = some (.int .i64 N1) := cell_of_row _ _ _ _ _ _ I1.out
  have zA1 := lt_of_heap A1.out
  have zD1 := lt_of_heap D1.out
  have zI1 := lt_of_heap I1.out
  go_simp
  go_wp2_with fail
  refine (H4.out _).mono ?_
  rintro e V3 ⟨rfl, hb3⟩
  clear A1_0 A1_1 zA1 D1_0 D1_1 zD1 I1_0 I1_1 zI1
  have nA1I2 := Lib.hid (lt_of_heap A1.out)
  have nD1I2 := Lib.hid (lt_of_heap D1.out)
  have nI1I2 := Lib.hid (lt_of_heap I1.out)
  have B3 := Lib.hid (((B2.out).alloc (B2.out.size) _).trans (hb3.mono (by have := B2.out.size; first | assumption | (simp <;> omega) | (simp; done))))
  replace A1 := Lib.hid (row_call hb3 (row_alloc A1.out _))
  replace D1 := Lib.hid (row_call hb3 (row_alloc D1.out _))
  replace I1 := Lib.hid (row_call hb3 (row_alloc I1.out _))
  have I2 := Lib.hid (row_call hb3 (heap_alloc_new _ _))
  clear hb3
  have A1_0 : V3.cell? ⟨w.heap.size, 0, none⟩ = some (.int .i64 s) := cell_of_row _ _ _ _ _ _ A1.out
  have A1_1 : V3.cell? ⟨w.heap.size, 1, none⟩ = some (.int .i64 n) := cell_of_row _ _ _ _ _ _ A1.out
  have D1_0 : V3.cell? ⟨w.heap.size + 1, 0, none⟩ = some (.int .i64 d) := cell_of_row _ _ _ _ _ _ D1.out
  have D1_1 : V3.cell? ⟨w.heap.size + 1, 1, none⟩ = some (.int .i64 m) := cell_of_row _ _ _ _ _ _ D1.out
  have I1_0 : V3.cell? ⟨V1.heap.size, 0, none⟩ = some (.int .i64 S1) := cell_of_row _ _ _ _ _ _ I1.out
  have I1_1 : V3.cell? ⟨V1.heap.size, 1, none⟩ = some (.int .i64 N1) := cell_of_row _ _ _ _ _ _ I1.out
  have I2_0 : V3.cell? ⟨V2.heap.size, 0, none⟩ = some (.int .i64 S2) := cell_of_row _ _ _ _ _ _ I2.out
  have I2_1 : V3.cell? ⟨V2.heap.size, 1, none⟩ = some (.int .i64 N2) := cell_of_row _ _ _ _ _ _ I2.out
  have zA1 := lt_of_heap A1.out
  have zD1 := lt_of_heap D1.out
  have zI1 := lt_of_heap I1.out
  have zI2 := lt_of_heap I2.out
  go_simp
  go_wp2_with fail
  refine (H5.out _).mono ?_
  rintro e V4 ⟨rfl, hb4⟩
  clear A1_0 A1_1 zA1 D1_0 D1_1 zD1 I1_0 I1_1 zI1 I2_0 I2_1 zI2
  have nA1J2 := Lib.hid (lt_of_heap A1.out)
  have nD1J2 := Lib.hid (lt_of_heap D1.out)
  have nI1J2 := Lib.hid (lt_of_heap I1.out)
  have nI2J2 := Lib.hid (lt_of_heap I2.out)
  have B4 := Lib.hid (((B3.out).alloc (B3.out.size) _).trans (hb4.mono (by have := B3.out.size; first | assumption | (simp <;> omega) | (simp; done))))
  replace A1 := Lib.hid (row_call hb4 (row_alloc A1.out _))
  replace D1 := Lib.hid (row_call hb4 (row_alloc D1.out _))
  replace I1 := Lib.hid (row_call hb4 (row_alloc I1.out _))
  replace I2 := Lib.hid (row_call hb4 (row_alloc I2.out _))
  have J2 := Lib.hid (row_call hb4 (heap_alloc_new _ _))
  clear hb4
  have A1_0 : V4.cell? ⟨w.heap.size, 0, none⟩ = some (.int .i64 s) := cell_of_row _ _ _ _ _ _ A1.out
  have A1_1 : V4.cell? ⟨w.heap.size, 1, none⟩ = some (.int .i64 n) := cell_of_row _ _ _ _ _ _ A1.out
  have D1_0 : V4.cell? ⟨w.heap.size + 1, 0, none⟩ = some (.int .i64 d) := cell_of_row _ _ _ _ _ _ D1.out
  have D1_1 : V4.cell? ⟨w.heap.size + 1, 1, none⟩ = some (.int .i64 m) := cell_of_row _ _ _ _ _ _ D1.out
  have I1_0 : V4.cell? ⟨V1.heap.size, 0, none⟩ = some (.int .i64 S1) := cell_of_row _ _ _ _ _ _ I1.out
  have I1_1 : V4.cell? ⟨V1.heap.size, 1, none⟩ = some (.int .i64 N1) := cell_of_row _ _ _ _ _ _ I1.out
  have I2_0 : V4.cell? ⟨V2.heap.size, 0, none⟩ = some (.int .i64 S2) := cell_of_row _ _ _ _ _ _ I2.out
  have I2_1 : V4.cell? ⟨V2.heap.size, 1, none⟩ = some (.int .i64 N2) := cell_of_row _ _ _ _ _ _ I2.out
  have J2_0 : V4.cell? ⟨V3.heap.size, 0, none⟩ = some (.int .i64 s) := cell_of_row _ _ _ _ _ _ J2.out
  have J2_1 : V4.cell? ⟨V3.heap.size, 1, none⟩ = some (.int .i64 n) := cell_of_row _ _ _ _ _ _ J2.out
  have zA1 := lt_of_heap A1.out
  have zD1 := lt_of_heap D1.out
  have zI1 := lt_of_heap I1.out
  have zI2 := lt_of_heap I2.out
  have zJ2 := lt_of_heap J2.out
  go_simp
  go_wp2_with fail
  refine (H9.out _).mono ?_
  rintro e V5 ⟨rfl, hb5⟩
  clear A1_0 A1_1 zA1 D1_0 D1_1 zD1 I1_0 I1_1 zI1 I2_0 I2_1 zI2 J2_0 J2_1 zJ2
  have nA1I3 := Lib.hid (lt_of_heap A1.out)
  have nD1I3 := Lib.hid (lt_of_heap D1.out)
  have nI1I3 := Lib.hid (lt_of_heap I1.out)
  have nI2I3 := Lib.hid (lt_of_heap I2.out)
  have nJ2I3 := Lib.hid (lt_of_heap J2.out)
  have B5 := Lib.hid (((B4.out).alloc (B4.out.size) _).trans (hb5.mono (by have := B4.out.size; first | assumption | (simp <;> omega) | (simp; done))))
  replace A1 := Lib.hid (row_call hb5 (row_alloc A1.out _))
  replace D1 := Lib.hid (row_call hb5 (row_alloc D1.out _))
  replace I1 := Lib.hid (row_call hb5 (row_alloc I1.out _))
  replace I2 := Lib.hid (row_call hb5 (row_alloc I2.out _))
  replace J2 := Lib.hid (row_call hb5 (row_alloc J2.out _))
  have I3 := Lib.hid (row_call hb5 (heap_alloc_new _ _))
  clear hb5
  have A1_0 : V5.cell? ⟨w.heap.size, 0, none⟩ = some (.int .i64 s) := cell_of_row _ _ _ _ _ _ A1.out
  have A1_1 : V5.cell? ⟨w.heap.size, 1, none⟩ = some (.int .i64 n) := cell_of_row _ _ _ _ _ _ A1.out
  have D1_0 : V5.cell? ⟨w.heap.size + 1, 0, none⟩ = some (.int .i64 d) := cell_of_row _ _ _ _ _ _ D1.out
  have D1_1 : V5.cell? ⟨w.heap.size + 1, 1, none⟩ = some (.int .i64 m) := cell_of_row _ _ _ _ _ _ D1.out
  have I1_0 : V5.cell? ⟨V1.heap.size, 0, none⟩ = some (.int .i64 S1) := cell_of_row _ _ _ _ _ _ I1.out
  have I1_1 : V5.cell? ⟨V1.heap.size, 1, none⟩ = some (.int .i64 N1) := cell_of_row _ _ _ _ _ _ I1.out
  have I2_0 : V5.cell? ⟨V2.heap.size, 0, none⟩ = some (.int .i64 S2) := cell_of_row _ _ _ _ _ _ I2.out
  have I2_1 : V5.cell? ⟨V2.heap.size, 1, none⟩ = some (.int .i64 N2) := cell_of_row _ _ _ _ _ _ I2.out
  have J2_0 : V5.cell? ⟨V3.heap.size, 0, none⟩ = some (.int .i64 s) := cell_of_row _ _ _ _ _ _ J2.out
  have J2_1 : V5.cell? ⟨V3.heap.size, 1, none⟩ = some (.int .i64 n) := cell_of_row _ _ _ _ _ _ J2.out
  have I3_0 : V5.cell? ⟨V4.heap.size, 0, none⟩ = some (.int .i64 S3) := cell_of_row _ _ _ _ _ _ I3.out
  have I3_1 : V5.cell? ⟨V4.heap.size, 1, none⟩ = some (.int .i64 N3) := cell_of_row _ _ _ _ _ _ I3.out
  have zA1 := lt_of_heap A1.out
  have zD1 := lt_of_heap D1.out
  have zI1 := lt_of_heap I1.out
  have zI2 := lt_of_heap I2.out
  have zJ2 := lt_of_heap J2.out
  have zI3 := lt_of_heap I3.out
  go_simp
  go_wp2
  go_ret
  exact ⟨rfl, by first | exact B5.out | exact B5.out.alloc B5.out.size _⟩
set_option maxHeartbeats 6400000 in
set_option maxRecDepth 100000 in
theorem durBack_021 (s n d m f S1 N1 E1 S2 N2 E2 S3 N3 E3 : Int)
    (H1 : Hid (∀ w, Calls Try.prog 13 #[.agg #[.int .i64 s, .int .i64 n], .agg #[.int .i64 d, .int .i64 m]] w fun e w' => e = .returned (.tuple #[.agg #[.int .i64 S1, .int .i64 N1], .int .i64 E1]) ∧ Below w.heap.size w w'))
    (f1 : (E1 == 0) = false)
    (H3 : Hid (∀ w, Calls Try.prog 21 #[.agg #[.int .i64 s, .int .i64 n], .int .i64 f] w fun e w' => e = .returned (.tuple #[.agg #[.int .i64 S2, .int .i64 N2], .int .i64 0]) ∧ Below w.heap.size w w'))
    (H4 : Hid (∀ w, Calls Try.prog 23 #[.agg #[.int .i64 S2, .int .i64 N2], .int .i64 f] w fun e w' => e = .returned (.tuple #[.agg #[.int .i64 s, .int .i64 n], .int .i64 0]) ∧ Below w.heap.size w w'))
    (f3 : (f != 0) = true)
    (H5 : Hid (∀ w, Calls Try.prog 17 #[.agg #[.int .i64 s, .int .i64 n]] w fun e w' => e = .returned (.tuple #[.agg #[.int .i64 S3, .int .i64 N3], .int .i64 0]) ∧ Below w.heap.size w w'))
    (H6 : Hid (∀ w, Calls Try.prog 17 #[.agg #[.int .i64 S3, .int .i64 N3]] w fun e w' => e = .returned (.tuple #[.agg #[.int .i64 s, .int .i64 n], .int .i64 0]) ∧ Below w.heap.size w w'))
    (w : World) :
    Calls Try.prog 7 #[.agg #[.int .i64 s, .int .i64 n], .agg #[.int .i64 d, .int .i64 m], .int .i64 f] w fun e w' => e = .returned (.bool true) ∧ Below w.heap.size w w' := by
  have H9 := Lib.hid awake4_any
  go_enter Try.func7, Try.ntmps7
  go_wp2_with fail
  
  refine (H1.out _).mono ?_
  rintro e V1 ⟨rfl, hb1⟩
  have B1 := Lib.hid ((((Below.refl w.heap.size w).alloc (Nat.le_refl _) _).alloc (by simp <;> omega) _).trans (hb1.mono (by first | assumption | (simp <;> omega) | (simp; done))))
  have A1 := Lib.hid (row_call hb1 (row_alloc (heap_alloc_new _ _) _))
  have D1 := Lib.hid (row_at (k' := w.heap.size + 1) (by simp) (row_call hb1 (heap_alloc_new _ _)))
  clear hb1
  have A1_0 : V1.cell? ⟨w.heap.size, 0, none⟩ = some (.int .i64 s) := cell_of_row _ _ _ _ _ _ A1.out
  have A1_1 : V1.cell? ⟨w.heap.size, 1, none⟩ = some (.int .i64 n) := cell_of_row _ _ _ _ _ _ A1.out
  have D1_0 : V1.cell? ⟨w.heap.size + 1, 0, none⟩ = some (.int .i64 d) := cell_of_row _ _ _ _ _ _ D1.out
  have D1_1 : V1.cell? ⟨w.heap.size + 1, 1, none⟩ = some (.int .i64 m) := cell_of_row _ _ _ _ _ _ D1.out
  have zA1 := lt_of_heap A1.out
  have zD1 := lt_of_heap D1.out
  go_simp
  go_wp2_with fail
  refine (H3.out _).mono ?_
  rintro e V2 ⟨rfl, hb2⟩
  clear A1_0 A1_1 zA1 D1_0 D1_1 zD1
  have nA1I1 := Lib.hid (lt_of_heap A1.out)
  have nD1I1 := Lib.hid (lt_of_heap D1.out)
  have B2 := Lib.hid (((B1.out).alloc (B1.out.size) _).trans (hb2.mono (by have := B1.out.size; first | assumption | (simp <;> omega) | (simp; done))))
  replace A1 := Lib.hid (row_call hb2 (row_alloc A1.out _))
  replace D1 := Lib.hid (row_call hb2 (row_alloc D1.out _))
  have I1 := Lib.hid (row_call hb2 (heap_alloc_new _ _))
  clear hb2
  have A1_0 : V2.cell? ⟨w.heap.size, 0, none⟩ = some (.int .i64 s) := cell_of_row _ _ _ _ _ _ A1.out
  have A1_1 : V2.cell? ⟨w.heap.size, 1, none⟩ = some (.int .i64 n) := cell_of_row _ _ _ _ _ _ A1.out
  have D1_0 : V2.cell? ⟨w.heap.size + 1, 0, none⟩ = some (.int .i64 d) := cell_of_row _ _ _ _ _ _ D1.out
  have D1_1 : V2.cell? ⟨w.heap.size + 1, 1, none⟩ = some (.int .i64 m) := cell_of_row _ _ _ _ _ _ D1.out
  have I1_0 : V2.cell? ⟨V1.heap.size, 0, none⟩ = some (.int .i64 S1) := cell_of_row _ _ _ _ _ _ I1.out
  have I1_1 : V2.cell? ⟨V1.heap.size, 1, none⟩ = some (.int .i64 N1) := cell_of_row _ _ _ _ _ _ I1.out
  have zA1 := lt_of_heap A1.out
  have zD1 := lt_of_heap D1.out
  have zI1 := lt_of_heap I1.out
  go_simp
  go_wp2_with fail
  refine (H4.out _).mono ?_
  rintro e V3 ⟨rfl, hb3⟩
  clear A1_0 A1_1 zA1 D1_0 D1_1 zD1 I1_0 I1_1 zI1
  have nA1I2 := Lib.hid (lt_of_heap A1.out)
  have nD1I2 := Lib.hid (lt_of_heap D1.out)
  have nI1I2 := Lib.hid (lt_of_heap I1.out)
  have B3 := Lib.hid (((B2.out).alloc (B2.out.size) _).trans (hb3.mono (by have := B2.out.size; first | assumption | (simp <;> omega) | (simp; done))))
  replace A1 := Lib.hid (row_call hb3 (row_alloc A1.out _))
  replace D1 := Lib.hid (row_call hb3 (row_alloc D1.out _))
  replace I1 := Lib.hid (row_call hb3 (row_alloc I1.out _))
  have I2 := Lib.hid (row_call hb3 (heap_alloc_new _ _))
  clear hb3
  have A1_0 : V3.cell? ⟨w.heap.size, 0, none⟩ = some (.int .i64 s) := cell_of_row _ _ _ _ _ _ A1.out
  have A1_1 : V3.cell? ⟨w.heap.size, 1, none⟩ = some (.int .i64 n) := cell_of_row _ _ _ _ _ _ A1.out
  have D1_0 : V3.cell? ⟨w.heap.size + 1, 0, none⟩ = some (.int .i64 d) := cell_of_row _ _ _ _ _ _ D1.out
  have D1_1 : V3.cell? ⟨w.heap.size + 1, 1, none⟩ = some (.int .i64 m) := cell_of_row _ _ _ _ _ _ D1.out
  have I1_0 : V3.cell? ⟨V1.heap.size, 0, none⟩ = some (.int .i64 S1) := cell_of_row _ _ _ _ _ _ I1.out
  have I1_1 : V3.cell? ⟨V1.heap.size, 1, none⟩ = some (.int .i64 N1) := cell_of_row _ _ _ _ _ _ I1.out
  have I2_0 : V3.cell? ⟨V2.heap.size, 0, none⟩ = some (.int .i64 S2) := cell_of_row _ _ _ _ _ _ I2.out
  have I2_1 : V3.cell? ⟨V2.heap.size, 1, none⟩ = some (.int .i64 N2) := cell_of_row _ _ _ _ _ _ I2.out
  have zA1 := lt_of_heap A1.out
  have zD1 := lt_of_heap D1.out
  have zI1 := lt_of_heap I1.out
  have zI2 := lt_of_heap I2.out
  go_simp
  go_wp2_with fail
  refine (H5.out _).mono ?_
  rintro e V4 ⟨rfl, hb4⟩
  clear A1_0 A1_1 zA1 D1_0 D1_1 zD1 I1_0 I1_1 zI1 I2_0 I2_1 zI2
  have nA1J2 := Lib.hid (lt_of_heap A1.out)
  have nD1J2 := Lib.hid (lt_of_heap D1.out)
  have nI1J2 := Lib.hid (lt_of_heap I1.out)
  have nI2J2 := Lib.hid (lt_of_heap I2.out)
  have B4 := Lib.hid (((B3.out).alloc (B3.out.size) _).trans (hb4.mono (by have := B3.out.size; first | assumption | (simp <;> omega) | (simp; done))))
  replace A1 := Lib.hid (row_call hb4 (row_alloc A1.out _))
  replace D1 := Lib.hid (row_call hb4 (row_alloc D1.out _))
  replace I1 := Lib.hid (row_call hb4 (row_alloc I1.out _))
  replace I2 := Lib.hid (row_call hb4 (row_alloc I2.out _))
  have J2 := Lib.hid (row_call hb4 (heap_alloc_new _ _))
  clear hb4
  have A1_0 : V4.cell? ⟨w.heap.size, 0, none⟩ = some (.int .i64 s) := cell_of_row _ _ _ _ _ _ A1.out
  have A1_1 : V4.cell? ⟨w.heap.size, 1, none⟩ = some (.int .i64 n) := cell_of_row _ _ _ _ _ _ A1.out
  have D1_0 : V4.cell? ⟨w.heap.size + 1, 0, none⟩ = some (.int .i64 d) := cell_of_row _ _ _ _ _ _ D1.out
  have D1_1 : V4.cell? ⟨w.heap.size + 1, 1, none⟩ = some (.int .i64 m) := cell_of_row _ _ _ _ _ _ D1.out
  have I1_0 : V4.cell? ⟨V1.heap.size, 0, none⟩ = some (.int .i64 S1) := cell_of_row _ _ _ _ _ _ I1.out
  have I1_1 : V4.cell? ⟨V1.heap.size, 1, none⟩ = some (.int .i64 N1) := cell_of_row _ _ _ _ _ _ I1.out
  have I2_0 : V4.cell? ⟨V2.heap.size, 0, none⟩ = some (.int .i64 S2) := cell_of_row _ _ _ _ _ _ I2.out
  have I2_1 : V4.cell? ⟨V2.heap.size, 1, none⟩ = some (.int .i64 N2) := cell_of_row _ _ _ _ _ _ I2.out
  have J2_0 : V4.cell? ⟨V3.heap.size, 0, none⟩ = some (.int .i64 s) := cell_of_row _ _ _ _ _ _ J2.out
  have J2_1 : V4.cell? ⟨V3.heap.size, 1, none⟩ = some (.int .i64 n) := cell_of_row _ _ _ _ _ _ J2.out
  have zA1 := lt_of_heap A1.out
  have zD1 := lt_of_heap D1.out
  have zI1 := lt_of_heap I1.out
  have zI2 := lt_of_heap I2.out
  have zJ2 := lt_of_heap J2.out
  go_simp
  go_wp2_with fail
  refine (H6.out _).mono ?_
  rintro e V5 ⟨rfl, hb5⟩
  clear A1_0 A1_1 zA1 D1_0 D1_1 zD1 I1_0 I1_1 zI1 I2_0 I2_1 zI2 J2_0 J2_1 zJ2
  have nA1I3 := Lib.hid (lt_of_heap A1.out)
  have nD1I3 := Lib.hid (lt_of_heap D1.out)
  have nI1I3 := Lib.hid (lt_of_heap I1.out)
  have nI2I3 := Lib.hid (lt_of_heap I2.out)
  have nJ2I3 := Lib.hid (lt_of_heap J2.out)
  have B5 := Lib.hid (((B4.out).alloc (B4.out.size) _).trans (hb5.mono (by have := B4.out.size; first | assumption | (simp <;> omega) | (simp; done))))
  replace A1 := Lib.hid (row_call hb5 (row_alloc A1.out _))
  replace D1 := Lib.hid (row_call hb5 (row_alloc D1.out _))
  replace I1 := Lib.hid (row_call hb5 (row_alloc I1.out _))
  replace I2 := Lib.hid (row_call hb5 (row_alloc I2.out _))
  replace J2 := Lib.hid (row_call hb5 (row_alloc J2.out _))
  have I3 := Lib.hid (row_call hb5 (heap_alloc_new _ _))
  clear hb5
  have A1_0 : V5.cell? ⟨w.heap.size, 0, none⟩ = some (.int .i64 s) := cell_of_row _ _ _ _ _ _ A1.out
  have A1_1 : V5.cell? ⟨w.heap.size, 1, none⟩ = some (.int .i64 n) := cell_of_row _ _ _ _ _ _ A1.out
  have D1_0 : V5.cell? ⟨w.heap.size + 1, 0, none⟩ = some (.int .i64 d) := cell_of_row _ _ _ _ _ _ D1.out
  have D1_1 : V5.cell? ⟨w.heap.size + 1, 1, none⟩ = some (.int .i64 m) := cell_of_row _ _ _ _ _ _ D1.out
  have I1_0 : V5.cell? ⟨V1.heap.size, 0, none⟩ = some (.int .i64 S1) := cell_of_row _ _ _ _ _ _ I1.out
  have I1_1 : V5.cell? ⟨V1.heap.size, 1, none⟩ = some (.int .i64 N1) := cell_of_row _ _ _ _ _ _ I1.out
  have I2_0 : V5.cell? ⟨V2.heap.size, 0, none⟩ = some (.int .i64 S2) := cell_of_row _ _ _ _ _ _ I2.out
  have I2_1 : V5.cell? ⟨V2.heap.size, 1, none⟩ = some (.int .i64 N2) := cell_of_row _ _ _ _ _ _ I2.out
  have J2_0 : V5.cell? ⟨V3.heap.size, 0, none⟩ = some (.int .i64 s) := cell_of_row _ _ _ _ _ _ J2.out
  have J2_1 : V5.cell? ⟨V3.heap.size, 1, none⟩ = some (.int .i64 n) := cell_of_row _ _ _ _ _ _ J2.out
  have I3_0 : V5.cell? ⟨V4.heap.size, 0, none⟩ = some (.int .i64 S3) := cell_of_row _ _ _ _ _ _ I3.out
  have I3_1 : V5.cell? ⟨V4.heap.size, 1, none⟩ = some (.int .i64 N3) := cell_of_row _ _ _ _ _ _ I3.out
  have zA1 := lt_of_heap A1.out
  have zD1 := lt_of_heap D1.out
  have zI1 := lt_of_heap I1.out
  have zI2 := lt_of_heap I2.out
  have zJ2 := lt_of_heap J2.out
  have zI3 := lt_of_heap I3.out
  go_simp
  go_wp2_with fail
  refine (H9.out _).mono ?_
  rintro e V6 ⟨rfl, hb6⟩
  clear A1_0 A1_1 zA1 D1_0 D1_1 zD1 I1_0 I1_1 zI1 I2_0 I2_1 zI2 J2_0 J2_1 zJ2 I3_0 I3_1 zI3
  have nA1J3 := Lib.hid (lt_of_heap A1.out)
  have nD1J3 := Lib.hid (lt_of_heap D1.out)
  have nI1J3 := Lib.hid (lt_of_heap I1.out)
  have nI2J3 := Lib.hid (lt_of_heap I2.out)
  have nJ2J3 := Lib.hid (lt_of_heap J2.out)
  have nI3J3 := Lib.hid (lt_of_heap I3.out)
  have B6 := Lib.hid (((B5.out).alloc (B5.out.size) _).trans (hb6.mono (by have := B5.out.size; first | assumption | (simp <;> omega) | (simp; done))))
  replace A1 := Lib.hid (row_call hb6 (row_alloc A1.out _))
  replace D1 := Lib.hid (row_call hb6 (row_alloc D1.out _))
  replace I1 := Lib.hid (row_call hb6 (row_alloc I1.out _))
  replace I2 := Lib.hid (row_call hb6 (row_alloc I2.out _))
  replace J2 := Lib.hid (row_call hb6 (row_alloc J2.out _))
  replace I3 := Lib.hid (row_call hb6 (row_alloc I3.out _))
  have J3 := Lib.hid (row_call hb6 (heap_alloc_new _ _))
  clear hb6
  have A1_0 : V6.cell? ⟨w.heap.size, 0, none⟩ = some (.int .i64 s) := cell_of_row _ _ _ _ _ _ A1.out
  have A1_1 : V6.cell? ⟨w.heap.size, 1, none⟩ = some (.int .i64 n) := cell_of_row _ _ _ _ _ _ A1.out
  have D1_0 : V6.cell? ⟨w.heap.size + 1, 0, none⟩ = some (.int .i64 d) := cell_of_row _ _ _ _ _ _ D1.out
  have D1_1 : V6.cell? ⟨w.heap.size + 1, 1, none⟩ = some (.int .i64 m) := cell_of_row _ _ _ _ _ _ D1.out
  have I1_0 : V6.cell? ⟨V1.heap.size, 0, none⟩ = some (.int .i64 S1) := cell_of_row _ _ _ _ _ _ I1.out
  have I1_1 : V6.cell? ⟨V1.heap.size, 1, none⟩ = some (.int .i64 N1) := cell_of_row _ _ _ _ _ _ I1.out
  have I2_0 : V6.cell? ⟨V2.heap.size, 0, none⟩ = some (.int .i64 S2) := cell_of_row _ _ _ _ _ _ I2.out
  have I2_1 : V6.cell? ⟨V2.heap.size, 1, none⟩ = some (.int .i64 N2) := cell_of_row _ _ _ _ _ _ I2.out
  have J2_0 : V6.cell? ⟨V3.heap.size, 0, none⟩ = some (.int .i64 s) := cell_of_row _ _ _ _ _ _ J2.out
  have J2_1 : V6.cell? ⟨V3.heap.size, 1, none⟩ = some (.int .i64 n) := cell_of_row _ _ _ _ _ _ J2.out
  have I3_0 : V6.cell? ⟨V4.heap.size, 0, none⟩ = some (.int .i64 S3) := cell_of_row _ _ _ _ _ _ I3.out
  have I3_1 : V6.cell? ⟨V4.heap.size, 1, none⟩ = some (.int .i64 N3) := cell_of_row _ _ _ _ _ _ I3.out
  have J3_0 : V6.cell? ⟨V5.heap.size, 0, none⟩ = some (.int .i64 s) := cell_of_row _ _ _ _ _ _ J3.out
  have J3_1 : V6.cell? ⟨V5.heap.size, 1, none⟩ = some (.int .i64 n) := cell_of_row _ _ _ _ _ _ J3.out
  have zA1 := lt_of_heap A1.out
  have zD1 := lt_of_heap D1.out
  have zI1 := lt_of_heap I1.out
  have zI2 := lt_of_heap I2.out
  have zJ2 := lt_of_heap J2.out
  have zI3 := lt_of_heap I3.out
  have zJ3 := lt_of_heap J3.out
  go_simp
  go_wp2
  go_ret
  exact ⟨rfl, by first | exact B6.out | exact B6.out.alloc B6.out.size _⟩
set_option maxHeartbeats 6400000 in
set_option maxRecDepth 100000 in
theorem durBack_100 (s n d m f S1 N1 E1 S2 N2 E2 S3 N3 E3 : Int)
    (H1 : Hid (∀ w, Calls Try.prog 13 #[.agg #[.int .i64 s, .int .i64 n], .agg #[.int .i64 d, .int .i64 m]] w fun e w' => e = .returned (.tuple #[.agg #[.int .i64 S1, .int .i64 N1], .int .i64 0]) ∧ Below w.heap.size w w'))
    (H2 : Hid (∀ w, Calls Try.prog 15 #[.agg #[.int .i64 S1, .int .i64 N1], .agg #[.int .i64 d, .int .i64 m]] w fun e w' => e = .returned (.tuple #[.agg #[.int .i64 s, .int .i64 n], .int .i64 0]) ∧ Below w.heap.size w w'))
    (H3 : Hid (∀ w, Calls Try.prog 21 #[.agg #[.int .i64 s, .int .i64 n], .int .i64 f] w fun e w' => e = .returned (.tuple #[.agg #[.int .i64 S2, .int .i64 N2], .int .i64 E2]) ∧ Below w.heap.size w w'))
    (f2 : (E2 == 0) = false)
    (H5 : Hid (∀ w, Calls Try.prog 17 #[.agg #[.int .i64 s, .int .i64 n]] w fun e w' => e = .returned (.tuple #[.agg #[.int .i64 S3, .int .i64 N3], .int .i64 E3]) ∧ Below w.heap.size w w'))
    (f4 : (E3 == 0) = false)
    (w : World) :
    Calls Try.prog 7 #[.agg #[.int .i64 s, .int .i64 n], .agg #[.int .i64 d, .int .i64 m], .int .i64 f] w fun e w' => e = .returned (.bool true) ∧ Below w.heap.size w w' := by
  have H9 := Lib.hid awake4_any
  go_enter Try.func7, Try.ntmps7
  go_wp2_with fail
  
  refine (H1.out _).mono ?_
  rintro e V1 ⟨rfl, hb1⟩
  have B1 := Lib.hid ((((Below.refl w.heap.size w).alloc (Nat.le_refl _) _).alloc (by simp <;> omega) _).trans (hb1.mono (by first | assumption | (simp <;> omega) | (simp; done))))
  have A1 := Lib.hid (row_call hb1 (row_alloc (heap_alloc_new _ _) _))
  have D1 := Lib.hid (row_at (k' := w.heap.size + 1) (by simp) (row_call hb1 (heap_alloc_new _ _)))
  clear hb1
  have A1_0 : V1.cell? ⟨w.heap.size, 0, none⟩ = some (.int .i64 s) := cell_of_row _ _ _ _ _ _ A1.out
  have A1_1 : V1.cell? ⟨w.heap.size, 1, none⟩ = some (.int .i64 n) := cell_of_row _ _ _ _ _ _ A1.out
  have D1_0 : V1.cell? ⟨w.heap.size + 1, 0, none⟩ = some (.int .i64 d) := cell_of_row _ _ _ _ _ _ D1.out
  have D1_1 : V1.cell? ⟨w.heap.size + 1, 1, none⟩ = some (.int .i64 m) := cell_of_row _ _ _ _ _ _ D1.out
  have zA1 := lt_of_heap A1.out
  have zD1 := lt_of_heap D1.out
  go_simp
  go_wp2_with fail
  refine (H2.out _).mono ?_
  rintro e V2 ⟨rfl, hb2⟩
  clear A1_0 A1_1 zA1 D1_0 D1_1 zD1
  have nA1I1 := Lib.hid (lt_of_heap A1.out)
  have nD1I1 := Lib.hid (lt_of_heap D1.out)
  have B2 := Lib.hid (((B1.out).alloc (B1.out.size) _).trans (hb2.mono (by have := B1.out.size; first | assumption | (simp <;> omega) | (simp; done))))
  replace A1 := Lib.hid (row_call hb2 (row_alloc A1.out _))
  replace D1 := Lib.hid (row_call hb2 (row_alloc D1.out _))
  have I1 := Lib.hid (row_call hb2 (heap_alloc_new _ _))
  clear hb2
  have A1_0 : V2.cell? ⟨w.heap.size, 0, none⟩ = some (.int .i64 s) := cell_of_row _ _ _ _ _ _ A1.out
  have A1_1 : V2.cell? ⟨w.heap.size, 1, none⟩ = some (.int .i64 n) := cell_of_row _ _ _ _ _ _ A1.out
  have D1_0 : V2.cell? ⟨w.heap.size + 1, 0, none⟩ = some (.int .i64 d) := cell_of_row _ _ _ _ _ _ D1.out
  have D1_1 : V2.cell? ⟨w.heap.size + 1, 1, none⟩ = some (.int .i64 m) := cell_of_row _ _ _ _ _ _ D1.out
  have I1_0 : V2.cell? ⟨V1.heap.size, 0, none⟩ = some (.int .i64 S1) := cell_of_row _ _ _ _ _ _ I1.out
  have I1_1 : V2.cell? ⟨V1.heap.size, 1, none⟩ = some (.int .i64 N1) := cell_of_row _ _ _ _ _ _ I1.out
  have zA1 := lt_of_heap A1.out
  have zD1 := lt_of_heap D1.out
  have zI1 := lt_of_heap I1.out
  go_simp
  go_wp2_with fail
  refine (H3.out _).mono ?_
  rintro e V3 ⟨rfl, hb3⟩
  clear A1_0 A1_1 zA1 D1_0 D1_1 zD1 I1_0 I1_1 zI1
  have nA1J1 := Lib.hid (lt_of_heap A1.out)
  have nD1J1 := Lib.hid (lt_of_heap D1.out)
  have nI1J1 := Lib.hid (lt_of_heap I1.out)
  have B3 := Lib.hid (((B2.out).alloc (B2.out.size) _).trans (hb3.mono (by have := B2.out.size; first | assumption | (simp <;> omega) | (simp; done))))
  replace A1 := Lib.hid (row_call hb3 (row_alloc A1.out _))
  replace D1 := Lib.hid (row_call hb3 (row_alloc D1.out _))
  replace I1 := Lib.hid (row_call hb3 (row_alloc I1.out _))
  have J1 := Lib.hid (row_call hb3 (heap_alloc_new _ _))
  clear hb3
  have A1_0 : V3.cell? ⟨w.heap.size, 0, none⟩ = some (.int .i64 s) := cell_of_row _ _ _ _ _ _ A1.out
  have A1_1 : V3.cell? ⟨w.heap.size, 1, none⟩ = some (.int .i64 n) := cell_of_row _ _ _ _ _ _ A1.out
  have D1_0 : V3.cell? ⟨w.heap.size + 1, 0, none⟩ = some (.int .i64 d) := cell_of_row _ _ _ _ _ _ D1.out
  have D1_1 : V3.cell? ⟨w.heap.size + 1, 1, none⟩ = some (.int .i64 m) := cell_of_row _ _ _ _ _ _ D1.out
  have I1_0 : V3.cell? ⟨V1.heap.size, 0, none⟩ = some (.int .i64 S1) := cell_of_row _ _ _ _ _ _ I1.out
  have I1_1 : V3.cell? ⟨V1.heap.size, 1, none⟩ = some (.int .i64 N1) := cell_of_row _ _ _ _ _ _ I1.out
  have J1_0 : V3.cell? ⟨V2.heap.size, 0, none⟩ = some (.int .i64 s) := cell_of_row _ _ _ _ _ _ J1.out
  have J1_1 : V3.cell? ⟨V2.heap.size, 1, none⟩ = some (.int .i64 n) := cell_of_row _ _ _ _ _ _ J1.out
  have zA1 := lt_of_heap A1.out
  have zD1 := lt_of_heap D1.out
  have zI1 := lt_of_heap I1.out
  have zJ1 := lt_of_heap J1.out
  go_simp
  go_wp2_with fail
  refine (H5.out _).mono ?_
  rintro e V4 ⟨rfl, hb4⟩
  clear A1_0 A1_1 zA1 D1_0 D1_1 zD1 I1_0 I1_1 zI1 J1_0 J1_1 zJ1
  have nA1I2 := Lib.hid (lt_of_heap A1.out)
  have nD1I2 := Lib.hid (lt_of_heap D1.out)
  have nI1I2 := Lib.hid (lt_of_heap I1.out)
  have nJ1I2 := Lib.hid (lt_of_heap J1.out)
  have B4 := Lib.hid (((B3.out).alloc (B3.out.size) _).trans (hb4.mono (by have := B3.out.size; first | assumption | (simp <;> omega) | (simp; done))))
  replace A1 := Lib.hid (row_call hb4 (row_alloc A1.out _))
  replace D1 := Lib.hid (row_call hb4 (row_alloc D1.out _))
  replace I1 := Lib.hid (row_call hb4 (row_alloc I1.out _))
  replace J1 := Lib.hid (row_call hb4 (row_alloc J1.out _))
  have I2 := Lib.hid (row_call hb4 (heap_alloc_new _ _))
  clear hb4
  have A1_0 : V4.cell? ⟨w.heap.size, 0, none⟩ = some (.int .i64 s) := cell_of_row _ _ _ _ _ _ A1.out
  have A1_1 : V4.cell? ⟨w.heap.size, 1, none⟩ = some (.int .i64 n) := cell_of_row _ _ _ _ _ _ A1.out
  have D1_0 : V4.cell? ⟨w.heap.size + 1, 0, none⟩ = some (.int .i64 d) := cell_of_row _ _ _ _ _ _ D1.out
  have D1_1 : V4.cell? ⟨w.heap.size + 1, 1, none⟩ = some (.int .i64 m) := cell_of_row _ _ _ _ _ _ D1.out
  have I1_0 : V4.cell? ⟨V1.heap.size, 0, none⟩ = some (.int .i64 S1) := cell_of_row _ _ _ _ _ _ I1.out
  have I1_1 : V4.cell? ⟨V1.heap.size, 1, none⟩ = some (.int .i64 N1) := cell_of_row _ _ _ _ _ _ I1.out
  have J1_0 : V4.cell? ⟨V2.heap.size, 0, none⟩ = some (.int .i64 s) := cell_of_row _ _ _ _ _ _ J1.out
  have J1_1 : V4.cell? ⟨V2.heap.size, 1, none⟩ = some (.int .i64 n) := cell_of_row _ _ _ _ _ _ J1.out
  have I2_0 : V4.cell? ⟨V3.heap.size, 0, none⟩ = some (.int .i64 S2) := cell_of_row _ _ _ _ _ _ I2.out
  have I2_1 : V4.cell? ⟨V3.heap.size, 1, none⟩ = some (.int .i64 N2) := cell_of_row _ _ _ _ _ _ I2.out
  have zA1 := lt_of_heap A1.out
  have zD1 := lt_of_heap D1.out
  have zI1 := lt_of_heap I1.out
  have zJ1 := lt_of_heap J1.out
  have zI2 := lt_of_heap I2.out
  go_simp
  go_wp2_with fail
  refine (H9.out _).mono ?_
  rintro e V5 ⟨rfl, hb5⟩
  clear A1_0 A1_1 zA1 D1_0 D1_1 zD1 I1_0 I1_1 zI1 J1_0 J1_1 zJ1 I2_0 I2_1 zI2
  have nA1I3 := Lib.hid (lt_of_heap A1.out)
  have nD1I3 := Lib.hid (lt_of_heap D1.out)
  have nI1I3 := Lib.hid (lt_of_heap I1.out)
  have nJ1I3 := Lib.hid (lt_of_heap J1.out)
  have nI2I3 := Lib.hid (lt_of_heap I2.out)
  have B5 := Lib.hid (((B4.out).alloc (B4.out.size) _).trans (hb5.mono (by have := B4.out.size; first | assumption | (simp <;> omega) | (simp; done))))
  replace A1 := Lib.hid (row_call hb5 (row_alloc A1.out _))
  replace D1 := Lib.hid (row_call hb5 (row_alloc D1.out _))
  replace I1 := Lib.hid (row_call hb5 (row_alloc I1.out _))
  replace J1 := Lib.hid (row_call hb5 (row_alloc J1.out _))
  replace I2 := Lib.hid (row_call hb5 (row_alloc I2.out _))
  have I3 := Lib.hid (row_call hb5 (heap_alloc_new _ _))
  clear hb5
  have A1_0 : V5.cell? ⟨w.heap.size, 0, none⟩ = some (.int .i64 s) := cell_of_row _ _ _ _ _ _ A1.out
  have A1_1 : V5.cell? ⟨w.heap.size, 1, none⟩ = some (.int .i64 n) := cell_of_row _ _ _ _ _ _ A1.out
  have D1_0 : V5.cell? ⟨w.heap.size + 1, 0, none⟩ = some (.int .i64 d) := cell_of_row _ _ _ _ _ _ D1.out
  have D1_1 : V5.cell? ⟨w.heap.size + 1, 1, none⟩ = some (.int .i64 m) := cell_of_row _ _ _ _ _ _ D1.out
  have I1_0 : V5.cell? ⟨V1.heap.size, 0, none⟩ = some (.int .i64 S1) := cell_of_row _ _ _ _ _ _ I1.out
  have I1_1 : V5.cell? ⟨V1.heap.size, 1, none⟩ = some (.int .i64 N1) := cell_of_row _ _ _ _ _ _ I1.out
  have J1_0 : V5.cell? ⟨V2.heap.size, 0, none⟩ = some (.int .i64 s) := cell_of_row _ _ _ _ _ _ J1.out
  have J1_1 : V5.cell? ⟨V2.heap.size, 1, none⟩ = some (.int .i64 n) := cell_of_row _ _ _ _ _ _ J1.out
  have I2_0 : V5.cell? ⟨V3.heap.size, 0, none⟩ = some (.int .i64 S2) := cell_of_row _ _ _ _ _ _ I2.out
  have I2_1 : V5.cell? ⟨V3.heap.size, 1, none⟩ = some (.int .i64 N2) := cell_of_row _ _ _ _ _ _ I2.out
  have I3_0 : V5.cell? ⟨V4.heap.size, 0, none⟩ = some (.int .i64 S3) := cell_of_row _ _ _ _ _ _ I3.out
  have I3_1 : V5.cell? ⟨V4.heap.size, 1, none⟩ = some (.int .i64 N3) := cell_of_row _ _ _ _ _ _ I3.out
  have zA1 := lt_of_heap A1.out
  have zD1 := lt_of_heap D1.out
  have zI1 := lt_of_heap I1.out
  have zJ1 := lt_of_heap J1.out
  have zI2 := lt_of_heap I2.out
  have zI3 := lt_of_heap I3.out
  go_simp
  go_wp2
  go_ret
  exact ⟨rfl, by first | exact B5.out | exact B5.out.alloc B5.out.size _⟩
set_option maxHeartbeats 6400000 in
set_option maxRecDepth 100000 in
theorem durBack_101 (s n d m f S1 N1 E1 S2 N2 E2 S3 N3 E3 : Int)
    (H1 : Hid (∀ w, Calls Try.prog 13 #[.agg #[.int .i64 s, .int .i64 n], .agg #[.int .i64 d, .int .i64 m]] w fun e w' => e = .returned (.tuple #[.agg #[.int .i64 S1, .int .i64 N1], .int .i64 0]) ∧ Below w.heap.size w w'))
    (H2 : Hid (∀ w, Calls Try.prog 15 #[.agg #[.int .i64 S1, .int .i64 N1], .agg #[.int .i64 d, .int .i64 m]] w fun e w' => e = .returned (.tuple #[.agg #[.int .i64 s, .int .i64 n], .int .i64 0]) ∧ Below w.heap.size w w'))
    (H3 : Hid (∀ w, Calls Try.prog 21 #[.agg #[.int .i64 s, .int .i64 n], .int .i64 f] w fun e w' => e = .returned (.tuple #[.agg #[.int .i64 S2, .int .i64 N2], .int .i64 E2]) ∧ Below w.heap.size w w'))
    (f2 : (E2 == 0) = false)
    (H5 : Hid (∀ w, Calls Try.prog 17 #[.agg #[.int .i64 s, .int .i64 n]] w fun e w' => e = .returned (.tuple #[.agg #[.int .i64 S3, .int .i64 N3], .int .i64 0]) ∧ Below w.heap.size w w'))
    (H6 : Hid (∀ w, Calls Try.prog 17 #[.agg #[.int .i64 S3, .int .i64 N3]] w fun e w' => e = .returned (.tuple #[.agg #[.int .i64 s, .int .i64 n], .int .i64 0]) ∧ Below w.heap.size w w'))
    (w : World) :
    Calls Try.prog 7 #[.agg #[.int .i64 s, .int .i64 n], .agg #[.int .i64 d, .int .i64 m], .int .i64 f] w fun e w' => e = .returned (.bool true) ∧ Below w.heap.size w w' := by
  have H9 := Lib.hid awake4_any
  go_enter Try.func7, Try.ntmps7
  go_wp2_with fail
  
  refine (H1.out _).mono ?_
  rintro e V1 ⟨rfl, hb1⟩
  have B1 := Lib.hid ((((Below.refl w.heap.size w).alloc (Nat.le_refl _) _).alloc (by simp <;> omega) _).trans (hb1.mono (by first | assumption | (simp <;> omega) | (simp; done))))
  have A1 := Lib.hid (row_call hb1 (row_alloc (heap_alloc_new _ _) _))
  have D1 := Lib.hid (row_at (k' := w.heap.size + 1) (by simp) (row_call hb1 (heap_alloc_new _ _)))
  clear hb1
  have A1_0 : V1.cell? ⟨w.heap.size, 0, none⟩ = some (.int .i64 s) := cell_of_row _ _ _ _ _ _ A1.out
  have A1_1 : V1.cell? ⟨w.heap.size, 1, none⟩ = some (.int .i64 n) := cell_of_row _ _ _ _ _ _ A1.out
  have D1_0 : V1.cell? ⟨w.heap.size + 1, 0, none⟩ = some (.int .i64 d) := cell_of_row _ _ _ _ _ _ D1.out
  have D1_1 : V1.cell? ⟨w.heap.size + 1, 1, none⟩ = some (.int .i64 m) := cell_of_row _ _ _ _ _ _ D1.out
  have zA1 := lt_of_heap A1.out
  have zD1 := lt_of_heap D1.out
  go_simp
  go_wp2_with fail
  refine (H2.out _).mono ?_
  rintro e V2 ⟨rfl, hb2⟩
  clear A1_0 A1_1 zA1 D1_0 D1_1 zD1
  have nA1I1 := Lib.hid (lt_of_heap A1.out)
  have nD1I1 := Lib.hid (lt_of_heap D1.out)
  have B2 := Lib.hid (((B1.out).alloc (B1.out.size) _).trans (hb2.mono (by have := B1.out.size; first | assumption | (simp <;> omega) | (simp; done))))
  replace A1 := Lib.hid (row_call hb2 (row_alloc A1.out _))
  replace D1 := Lib.hid (row_call hb2 (row_alloc D1.out _))
  have I1 := Lib.hid (row_call hb2 (heap_alloc_new _ _))
  clear hb2
  have A1_0 : V2.cell? ⟨w.heap.size, 0, none⟩ = some (.int .i64 s) := cell_of_row _ _ _ _ _ _ A1.out
  have A1_1 : V2.cell? ⟨w.heap.size, 1, none⟩ = some (.int .i64 n) := cell_of_row _ _ _ _ _ _ A1.out
  have D1_0 : V2.cell? ⟨w.heap.size + 1, 0, none⟩ = some (.int .i64 d) := cell_of_row _ _ _ _ _ _ D1.out
  have D1_1 : V2.cell? ⟨w.heap.size + 1, 1, none⟩ = some (.int .i64 m) := cell_of_row _ _ _ _ _ _ D1.out
  have I1_0 : V2.cell? ⟨V1.heap.size, 0, none⟩ = some (.int .i64 S1) := cell_of_row _ _ _ _ _ _ I1.out
  have I1_1 : V2.cell? ⟨V1.heap.size, 1, none⟩ = some (.int .i64 N1) := cell_of_row _ _ _ _ _ _ I1.out
  have zA1 := lt_of_heap A1.out
  have zD1 := lt_of_heap D1.out
  have zI1 := lt_of_heap I1.out
  go_simp
  go_wp2_with fail
  refine (H3.out _).mono ?_
  rintro e V3 ⟨rfl, hb3⟩
  clear A1_0 A1_1 zA1 D1_0 D1_1 zD1 I1_0 I1_1 zI1
  have nA1J1 := Lib.hid (lt_of_heap A1.out)
  have nD1J1 := Lib.hid (lt_of_heap D1.out)
  have nI1J1 := Lib.hid (lt_of_heap I1.out)
  have B3 := Lib.hid (((B2.out).alloc (B2.out.size) _).trans (hb3.mono (by have := B2.out.size; first | assumption | (simp <;> omega) | (simp; done))))
  replace A1 := Lib.hid (row_call hb3 (row_alloc A1.out _))
  replace D1 := Lib.hid (row_call hb3 (row_alloc D1.out _))
  replace I1 := Lib.hid (row_call hb3 (row_alloc I1.out _))
  have J1 := Lib.hid (row_call hb3 (heap_alloc_new _ _))
  clear hb3
  have A1_0 : V3.cell? ⟨w.heap.size, 0, none⟩ = some (.int .i64 s) := cell_of_row _ _ _ _ _ _ A1.out
  have A1_1 : V3.cell? ⟨w.heap.size, 1, none⟩ = some (.int .i64 n) := cell_of_row _ _ _ _ _ _ A1.out
  have D1_0 : V3.cell? ⟨w.heap.size + 1, 0, none⟩ = some (.int .i64 d) := cell_of_row _ _ _ _ _ _ D1.out
  have D1_1 : V3.cell? ⟨w.heap.size + 1, 1, none⟩ = some (.int .i64 m) := cell_of_row _ _ _ _ _ _ D1.out
  have I1_0 : V3.cell? ⟨V1.heap.size, 0, none⟩ = some (.int .i64 S1) := cell_of_row _ _ _ _ _ _ I1.out
  have I1_1 : V3.cell? ⟨V1.heap.size, 1, none⟩ = some (.int .i64 N1) := cell_of_row _ _ _ _ _ _ I1.out
  have J1_0 : V3.cell? ⟨V2.heap.size, 0, none⟩ = some (.int .i64 s) := cell_of_row _ _ _ _ _ _ J1.out
  have J1_1 : V3.cell? ⟨V2.heap.size, 1, none⟩ = some (.int .i64 n) := cell_of_row _ _ _ _ _ _ J1.out
  have zA1 := lt_of_heap A1.out
  have zD1 := lt_of_heap D1.out
  have zI1 := lt_of_heap I1.out
  have zJ1 := lt_of_heap J1.out
  go_simp
  go_wp2_with fail
  refine (H5.out _).mono ?_
  rintro e V4 ⟨rfl, hb4⟩
  clear A1_0 A1_1 zA1 D1_0 D1_1 zD1 I1_0 I1_1 zI1 J1_0 J1_1 zJ1
  have nA1I2 := Lib.hid (lt_of_heap A1.out)
  have nD1I2 := Lib.hid (lt_of_heap D1.out)
  have nI1I2 := Lib.hid (lt_of_heap I1.out)
  have nJ1I2 := Lib.hid (lt_of_heap J1.out)
  have B4 := Lib.hid (((B3.out).alloc (B3.out.size) _).trans (hb4.mono (by have := B3.out.size; first | assumption | (simp <;> omega) | (simp; done))))
  replace A1 := Lib.hid (row_call hb4 (row_alloc A1.out _))
  replace D1 := Lib.hid (row_call hb4 (row_alloc D1.out _))
  replace I1 := Lib.hid (row_call hb4 (row_alloc I1.out _))
  replace J1 := Lib.hid (row_call hb4 (row_alloc J1.out _))
  have I2 := Lib.hid (row_call hb4 (heap_alloc_new _ _))
  clear hb4
  have A1_0 : V4.cell? ⟨w.heap.size, 0, none⟩ = some (.int .i64 s) := cell_of_row _ _ _ _ _ _ A1.out
  have A1_1 : V4.cell? ⟨w.heap.size, 1, none⟩ = some (.int .i64 n) := cell_of_row _ _ _ _ _ _ A1.out
  have D1_0 : V4.cell? ⟨w.heap.size + 1, 0, none⟩ = some (.int .i64 d) := cell_of_row _ _ _ _ _ _ D1.out
  have D1_1 : V4.cell? ⟨w.heap.size + 1, 1, none⟩ = some (.int .i64 m) := cell_of_row _ _ _ _ _ _ D1.out
  have I1_0 : V4.cell? ⟨V1.heap.size, 0, none⟩ = some (.int .i64 S1) := cell_of_row _ _ _ _ _ _ I1.out
  have I1_1 : V4.cell? ⟨V1.heap.size, 1, none⟩ = some (.int .i64 N1) := cell_of_row _ _ _ _ _ _ I1.out
  have J1_0 : V4.cell? ⟨V2.heap.size, 0, none⟩ = some (.int .i64 s) := cell_of_row _ _ _ _ _ _ J1.out
  have J1_1 : V4.cell? ⟨V2.heap.size, 1, none⟩ = some (.int .i64 n) := cell_of_row _ _ _ _ _ _ J1.out
  have I2_0 : V4.cell? ⟨V3.heap.size, 0, none⟩ = some (.int .i64 S2) := cell_of_row _ _ _ _ _ _ I2.out
  have I2_1 : V4.cell? ⟨V3.heap.size, 1, none⟩ = some (.int .i64 N2) := cell_of_row _ _ _ _ _ _ I2.out
  have zA1 := lt_of_heap A1.out
  have zD1 := lt_of_heap D1.out
  have zI1 := lt_of_heap I1.out
  have zJ1 := lt_of_heap J1.out
  have zI2 := lt_of_heap I2.out
  go_simp
  go_wp2_with fail
  refine (H6.out _).mono ?_
  rintro e V5 ⟨rfl, hb5⟩
  clear A1_0 A1_1 zA1 D1_0 D1_1 zD1 I1_0 I1_1 zI1 J1_0 J1_1 zJ1 I2_0 I2_1 zI2
  have nA1I3 := Lib.hid (lt_of_heap A1.out)
  have nD1I3 := Lib.hid (lt_of_heap D1.out)
  have nI1I3 := Lib.hid (lt_of_heap I1.out)
  have nJ1I3 := Lib.hid (lt_of_heap J1.out)
  have nI2I3 := Lib.hid (lt_of_heap I2.out)
  have B5 := Lib.hid (((B4.out).alloc (B4.out.size) _).trans (hb5.mono (by have := B4.out.size; first | assumption | (simp <;> omega) | (simp; done))))
  replace A1 := Lib.hid (row_call hb5 (row_alloc A1.out _))
  replace D1 := Lib.hid (row_call hb5 (row_alloc D1.out _))
  replace I1 := Lib.hid (row_call hb5 (row_alloc I1.out _))
  replace J1 := Lib.hid (row_call hb5 (row_alloc J1.out _))
  replace I2 := Lib.hid (row_call hb5 (row_alloc I2.out _))
  have I3 := Lib.hid (row_call hb5 (heap_alloc_new _ _))
  clear hb5
  have A1_0 : V5.cell? ⟨w.heap.size, 0, none⟩ = some (.int .i64 s) := cell_of_row _ _ _ _ _ _ A1.out
  have A1_1 : V5.cell? ⟨w.heap.size, 1, none⟩ = some (.int .i64 n) := cell_of_row _ _ _ _ _ _ A1.out
  have D1_0 : V5.cell? ⟨w.heap.size + 1, 0, none⟩ = some (.int .i64 d) := cell_of_row _ _ _ _ _ _ D1.out
  have D1_1 : V5.cell? ⟨w.heap.size + 1, 1, none⟩ = some (.int .i64 m) := cell_of_row _ _ _ _ _ _ D1.out
  have I1_0 : V5.cell? ⟨V1.heap.size, 0, none⟩ = some (.int .i64 S1) := cell_of_row _ _ _ _ _ _ I1.out
  have I1_1 : V5.cell? ⟨V1.heap.size, 1, none⟩ = some (.int .i64 N1) := cell_of_row _ _ _ _ _ _ I1.out
  have J1_0 : V5.cell? ⟨V2.heap.size, 0, none⟩ = some (.int .i64 s) := cell_of_row _ _ _ _ _ _ J1.out
  have J1_1 : V5.cell? ⟨V2.heap.size, 1, none⟩ = some (.int .i64 n) := cell_of_row _ _ _ _ _ _ J1.out
  have I2_0 : V5.cell? ⟨V3.heap.size, 0, none⟩ = some (.int .i64 S2) := cell_of_row _ _ _ _ _ _ I2.out
  have I2_1 : V5.cell? ⟨V3.heap.size, 1, none⟩ = some (.int .i64 N2) := cell_of_row _ _ _ _ _ _ I2.out
  have I3_0 : V5.cell? ⟨V4.heap.size, 0, none⟩ = some (.int .i64 S3) := cell_of_row _ _ _ _ _ _ I3.out
  have I3_1 : V5.cell? ⟨V4.heap.size, 1, none⟩ = some (.int .i64 N3) := cell_of_row _ _ _ _ _ _ I3.out
  have zA1 := lt_of_heap A1.out
  have zD1 := lt_of_heap D1.out
  have zI1 := lt_of_heap I1.out
  have zJ1 := lt_of_heap J1.out
  have zI2 := lt_of_heap I2.out
  have zI3 := lt_of_heap I3.out
  go_simp
  go_wp2_with fail
  refine (H9.out _).mono ?_
  rintro e V6 ⟨rfl, hb6⟩
  clear A1_0 A1_1 zA1 D1_0 D1_1 zD1 I1_0 I1_1 zI1 J1_0 J1_1 zJ1 I2_0 I2_1 zI2 I3_0 I3_1 zI3
  have nA1J3 := Lib.hid (lt_of_heap A1.out)
  have nD1J3 := Lib.hid (lt_of_heap D1.out)
  have nI1J3 := Lib.hid (lt_of_heap I1.out)
  have nJ1J3 := Lib.hid (lt_of_heap J1.out)
  have nI2J3 := Lib.hid (lt_of_heap I2.out)
  have nI3J3 := Lib.hid (lt_of_heap I3.out)
  have B6 := Lib.hid (((B5.out).alloc (B5.out.size) _).trans (hb6.mono (by have := B5.out.size; first | assumption | (simp <;> omega) | (simp; done))))
  replace A1 := Lib.hid (row_call hb6 (row_alloc A1.out _))
  replace D1 := Lib.hid (row_call hb6 (row_alloc D1.out _))
  replace I1 := Lib.hid (row_call hb6 (row_alloc I1.out _))
  replace J1 := Lib.hid (row_call hb6 (row_alloc J1.out _))
  replace I2 := Lib.hid (row_call hb6 (row_alloc I2.out _))
  replace I3 := Lib.hid (row_call hb6 (row_alloc I3.out _))
  have J3 := Lib.hid (row_call hb6 (heap_alloc_new _ _))
  clear hb6
  have A1_0 : V6.cell? ⟨w.heap.size, 0, none⟩ = some (.int .i64 s) := cell_of_row _ _ _ _ _ _ A1.out
  have A1_1 : V6.cell? ⟨w.heap.size, 1, none⟩ = some (.int .i64 n) := cell_of_row _ _ _ _ _ _ A1.out
  have D1_0 : V6.cell? ⟨w.heap.size + 1, 0, none⟩ = some (.int .i64 d) := cell_of_row _ _ _ _ _ _ D1.out
  have D1_1 : V6.cell? ⟨w.heap.size + 1, 1, none⟩ = some (.int .i64 m) := cell_of_row _ _ _ _ _ _ D1.out
  have I1_0 : V6.cell? ⟨V1.heap.size, 0, none⟩ = some (.int .i64 S1) := cell_of_row _ _ _ _ _ _ I1.out
  have I1_1 : V6.cell? ⟨V1.heap.size, 1, none⟩ = some (.int .i64 N1) := cell_of_row _ _ _ _ _ _ I1.out
  have J1_0 : V6.cell? ⟨V2.heap.size, 0, none⟩ = some (.int .i64 s) := cell_of_row _ _ _ _ _ _ J1.out
  have J1_1 : V6.cell? ⟨V2.heap.size, 1, none⟩ = some (.int .i64 n) := cell_of_row _ _ _ _ _ _ J1.out
  have I2_0 : V6.cell? ⟨V3.heap.size, 0, none⟩ = some (.int .i64 S2) := cell_of_row _ _ _ _ _ _ I2.out
  have I2_1 : V6.cell? ⟨V3.heap.size, 1, none⟩ = some (.int .i64 N2) := cell_of_row _ _ _ _ _ _ I2.out
  have I3_0 : V6.cell? ⟨V4.heap.size, 0, none⟩ = some (.int .i64 S3) := cell_of_row _ _ _ _ _ _ I3.out
  have I3_1 : V6.cell? ⟨V4.heap.size, 1, none⟩ = some (.int .i64 N3) := cell_of_row _ _ _ _ _ _ I3.out
  have J3_0 : V6.cell? ⟨V5.heap.size, 0, none⟩ = some (.int .i64 s) := cell_of_row _ _ _ _ _ _ J3.out
  have J3_1 : V6.cell? ⟨V5.heap.size, 1, none⟩ = some (.int .i64 n) := cell_of_row _ _ _ _ _ _ J3.out
  have zA1 := lt_of_heap A1.out
  have zD1 := lt_of_heap D1.out
  have zI1 := lt_of_heap I1.out
  have zJ1 := lt_of_heap J1.out
  have zI2 := lt_of_heap I2.out
  have zI3 := lt_of_heap I3.out
  have zJ3 := lt_of_heap J3.out
  go_simp
  go_wp2
  go_ret
  exact ⟨rfl, by first | exact B6.out | exact B6.out.alloc B6.out.size _⟩
set_option maxHeartbeats 6400000 in
set_option maxRecDepth 100000 in
theorem durBack_110 (s n d m f S1 N1 E1 S2 N2 E2 S3 N3 E3 : Int)
    (H1 : Hid (∀ w, Calls Try.prog 13 #[.agg #[.int .i64 s, .int .i64 n], .agg #[.int .i64 d, .int .i64 m]] w fun e w' => e = .returned (.tuple #[.agg #[.int .i64 S1, .int .i64 N1], .int .i64 0]) ∧ Below w.heap.size w w'))
    (H2 : Hid (∀ w, Calls Try.prog 15 #[.agg #[.int .i64 S1, .int .i64 N1], .agg #[.int .i64 d, .int .i64 m]] w fun e w' => e = .returned (.tuple #[.agg #[.int .i64 s, .int .i64 n], .int .i64 0]) ∧ Below w.heap.size w w'))
    (H3 : Hid (∀ w, Calls Try.prog 21 #[.agg #[.int .i64 s, .int .i64 n], .int .i64 0] w fun e w' => e = .returned (.tuple #[.agg #[.int .i64 S2, .int .i64 N2], .int .i64 0]) ∧ Below w.heap.size w w'))
    (H5 : Hid (∀ w, Calls Try.prog 17 #[.agg #[.int .i64 s, .int .i64 n]] w fun e w' => e = .returned (.tuple #[.agg #[.int .i64 S3, .int .i64 N3], .int .i64 E3]) ∧ Below w.heap.size w w'))
    (f4 : (E3 == 0) = false)
    (w : World) :
    Calls Try.prog 7 #[.agg #[.int .i64 s, .int .i64 n], .agg #[.int .i64 d, .int .i64 m], .int .i64 0] w fun e w' => e = .returned (.bool true) ∧ Below w.heap.size w w' := by
  have H9 := Lib.hid awake4_any
  go_enter Try.func7, Try.ntmps7
  go_wp2_with fail
  
  refine (H1.out _).mono ?_
  rintro e V1 ⟨rfl, hb1⟩
  have B1 := Lib.hid ((((Below.refl w.heap.size w).alloc (Nat.le_refl _) _).alloc (by simp <;> omega) _).trans (hb1.mono (by first | assumption | (simp <;> omega) | (simp; done))))
  have A1 := Lib.hid (row_call hb1 (row_alloc (heap_alloc_new _ _) _))
  have D1 := Lib.hid (row_at (k' := w.heap.size + 1) (by simp) (row_call hb1 (heap_alloc_new _ _)))
  clear hb1
  have A1_0 : V1.cell? ⟨w.heap.size, 0, none⟩ = some (.int .i64 s) := cell_of_row _ _ _ _ _ _ A1.out
  have A1_1 : V1.cell? ⟨w.heap.size, 1, none⟩ = some (.int .i64 n) := cell_of_row _ _ _ _ _ _ A1.out
  have D1_0 : V1.cell? ⟨w.heap.size + 1, 0, none⟩ = some (.int .i64 d) := cell_of_row _ _ _ _ _ _ D1.out
  have D1_1 : V1.cell? ⟨w.heap.size + 1, 1, none⟩ = some (.int .i64 m) := cell_of_row _ _ _ _ _ _ D1.out
  have zA1 := lt_of_heap A1.out
  have zD1 := lt_of_heap D1.out
  go_simp
  go_wp2_with fail
  refine (H2.out _).mono ?_
  rintro e V2 ⟨rfl, hb2⟩
  clear A1_0 A1_1 zA1 D1_0 D1_1 zD1
  have nA1I1 := Lib.hid (lt_of_heap A1.out)
  have nD1I1 := Lib.hid (lt_of_heap D1.out)
  have B2 := Lib.hid (((B1.out).alloc (B1.out.size) _).trans (hb2.mono (by have := B1.out.size; first | assumption | (simp <;> omega) | (simp; done))))
  replace A1 := Lib.hid (row_call hb2 (row_alloc A1.out _))
  replace D1 := Lib.hid (row_call hb2 (row_alloc D1.out _))
  have I1 := Lib.hid (row_call hb2 (heap_alloc_new _ _))
  clear hb2
  have A1_0 : V2.cell? ⟨w.heap.size, 0, none⟩ = some (.int .i64 s) := cell_of_row _ _ _ _ _ _ A1.out
  have A1_1 : V2.cell? ⟨w.heap.size, 1, none⟩ = some (.int .i64 n) := cell_of_row _ _ _ _ _ _ A1.out
  have D1_0 : V2.cell? ⟨w.heap.size + 1, 0, none⟩ = some (.int .i64 d) := cell_of_row _ _ _ _ _ _ D1.out
  have D1_1 : V2.cell? ⟨w.heap.size + 1, 1, none⟩ = some (.int .i64 m) := cell_of_row _ _ _ _ _ _ D1.out
  have I1_0 : V2.cell? ⟨V1.heap.size, 0, none⟩ = some (.int .i64 S1) := cell_of_row _ _ _ _ _ _ I1.out
  have I1_1 : V2.cell? ⟨V1.heap.size, 1, none⟩ = some (.int .i64 N1) := cell_of_row _ _ _ _ _ _ I1.out
  have zA1 := lt_of_heap A1.out
  have zD1 := lt_of_heap D1.out
  have zI1 := lt_of_heap I1.out
  go_simp
  go_wp2_with fail
  refine (H3.out _).mono ?_
  rintro e V3 ⟨rfl, hb3⟩
  clear A1_0 A1_1 zA1 D1_0 D1_1 zD1 I1_0 I1_1 zI1
  have nA1J1 := Lib.hid (lt_of_heap A1.out)
  have nD1J1 := Lib.hid (lt_of_heap D1.out)
  have nI1J1 := Lib.hid (lt_of_heap I1.out)
  have B3 := Lib.hid (((B2.out).alloc (B2.out.size) _).trans (hb3.mono (by have := B2.out.size; first | assumption | (simp <;> omega) | (simp; done))))
  replace A1 := Lib.hid (row_call hb3 (row_alloc A1.out _))
  replace D1 := Lib.hid (row_call hb3 (row_alloc D1.out _))
  replace I1 := Lib.hid (row_call hb3 (row_alloc I1.out _))
  have J1 := Lib.hid (row_call hb3 (heap_alloc_new _ _))
  clear hb3
  have A1_0 : V3.cell? ⟨w.heap.size, 0, none⟩ = some (.int .i64 s) := cell_of_row _ _ _ _ _ _ A1.out
  have A1_1 : V3.cell? ⟨w.heap.size, 1, none⟩ = some (.int .i64 n) := cell_of_row _ _ _ _ _ _ A1.out
  have D1_0 : V3.cell? ⟨w.heap.size + 1, 0, none⟩ = some (.int .i64 d) := cell_of_row _ _ _ _ _ _ D1.out
  have D1_1 : V3.cell? ⟨w.heap.size + 1, 1, none⟩ = some (.int .i64 m) := cell_of_row _ _ _ _ _ _ D1.out
  have I1_0 : V3.cell? ⟨V1.heap.size, 0, none⟩ = some (.int .i64 S1) := cell_of_row _ _ _ _ _ _ I1.out
  have I1_1 : V3.cell? ⟨V1.heap.size, 1, none⟩ = some (.int .i64 N1) := cell_of_row _ _ _ _ _ _ I1.out
  have J1_0 : V3.cell? ⟨V2.heap.size, 0, none⟩ = some (.int .i64 s) := cell_of_row _ _ _ _ _ _ J1.out
  have J1_1 : V3.cell? ⟨V2.heap.size, 1, none⟩ = some (.int .i64 n) := cell_of_row _ _ _ _ _ _ J1.out
  have zA1 := lt_of_heap A1.out
  have zD1 := lt_of_heap D1.out
  have zI1 := lt_of_heap I1.out
  have zJ1 := lt_of_heap J1.out
  go_simp
  go_wp2_with fail
  refine (H5.out _).mono ?_
  rintro e V4 ⟨rfl, hb4⟩
  clear A1_0 A1_1 zA1 D1_0 D1_1 zD1 I1_0 I1_1 zI1 J1_0 J1_1 zJ1
  have nA1I2 := Lib.hid (lt_of_heap A1.out)
  have nD1I2 := Lib.hid (lt_of_heap D1.out)
  have nI1I2 := Lib.hid (lt_of_heap I1.out)
  have nJ1I2 := Lib.hid (lt_of_heap J1.out)
  have B4 := Lib.hid (((B3.out).alloc (B3.out.size) _).trans (hb4.mono (by have := B3.out.size; first | assumption | (simp <;> omega) | (simp; done))))
  replace A1 := Lib.hid (row_call hb4 (row_alloc A1.out _))
  replace D1 := Lib.hid (row_call hb4 (row_alloc D1.out _))
  replace I1 := Lib.hid (row_call hb4 (row_alloc I1.out _))
  replace J1 := Lib.hid (row_call hb4 (row_alloc J1.out _))
  have I2 := Lib.hid (row_call hb4 (heap_alloc_new _ _))
  clear hb4
  have A1_0 : V4.cell? ⟨w.heap.size, 0, none⟩ = some (.int .i64 s) := cell_of_row _ _ _ _ _ _ A1.out
  have A1_1 : V4.cell? ⟨w.heap.size, 1, none⟩ = some (.int .i64 n) := cell_of_row _ _ _ _ _ _ A1.out
  have D1_0 : V4.cell? ⟨w.heap.size + 1, 0, none⟩ = some (.int .i64 d) := cell_of_row _ _ _ _ _ _ D1.out
  have D1_1 : V4.cell? ⟨w.heap.size + 1, 1, none⟩ = some (.int .i64 m) := cell_of_row _ _ _ _ _ _ D1.out
  have I1_0 : V4.cell? ⟨V1.heap.size, 0, none⟩ = some (.int .i64 S1) := cell_of_row _ _ _ _ _ _ I1.out
  have I1_1 : V4.cell? ⟨V1.heap.size, 1, none⟩ = some (.int .i64 N1) := cell_of_row _ _ _ _ _ _ I1.out
  have J1_0 : V4.cell? ⟨V2.heap.size, 0, none⟩ = some (.int .i64 s) := cell_of_row _ _ _ _ _ _ J1.out
  have J1_1 : V4.cell? ⟨V2.heap.size, 1, none⟩ = some (.int .i64 n) := cell_of_row _ _ _ _ _ _ J1.out
  have I2_0 : V4.cell? ⟨V3.heap.size, 0, none⟩ = some (.int .i64 S2) := cell_of_row _ _ _ _ _ _ I2.out
  have I2_1 : V4.cell? ⟨V3.heap.size, 1, none⟩ = some (.int .i64 N2) := cell_of_row _ _ _ _ _ _ I2.out
  have zA1 := lt_of_heap A1.out
  have zD1 := lt_of_heap D1.out
  have zI1 := lt_of_heap I1.out
  have zJ1 := lt_of_heap J1.out
  have zI2 := lt_of_heap I2.out
  go_simp
  go_wp2_with fail
  refine (H9.out _).mono ?_
  rintro e V5 ⟨rfl, hb5⟩
  clear A1_0 A1_1 zA1 D1_0 D1_1 zD1 I1_0 I1_1 zI1 J1_0 J1_1 zJ1 I2_0 I2_1 zI2
  have nA1I3 := Lib.hid (lt_of_heap A1.out)
  have nD1I3 := Lib.hid (lt_of_heap D1.out)
  have nI1I3 := Lib.hid (lt_of_heap I1.out)
  have nJ1I3 := Lib.hid (lt_of_heap J1.out)
  have nI2I3 := Lib.hid (lt_of_heap I2.out)
  have B5 := Lib.hid (((B4.out).alloc (B4.out.size) _).trans (hb5.mono (by have := B4.out.size; first | assumption | (simp <;> omega) | (simp; done))))
  replace A1 := Lib.hid (row_call hb5 (row_alloc A1.out _))
  replace D1 := Lib.hid (row_call hb5 (row_alloc D1.out _))
  replace I1 := Lib.hid (row_call hb5 (row_alloc I1.out _))
  replace J1 := Lib.hid (row_call hb5 (row_alloc J1.out _))
  replace I2 := Lib.hid (row_call hb5 (row_alloc I2.out _))
  have I3 := Lib.hid (row_call hb5 (heap_alloc_new _ _))
  clear hb5
  have A1_0 : V5.cell? ⟨w.heap.size, 0, none⟩ = some (.int .i64 s) := cell_of_row _ _ _ _ _ _ A1.out
  have A1_1 : V5.cell? ⟨w.heap.size, 1, none⟩ = some (.int .i64 n) := cell_of_row _ _ _ _ _ _ A1.out
  have D1_0 : V5.cell? ⟨w.heap.size + 1, 0, none⟩ = some (.int .i64 d) := cell_of_row _ _ _ _ _ _ D1.out
  have D1_1 : V5.cell? ⟨w.heap.size + 1, 1, none⟩ = some (.int .i64 m) := cell_of_row _ _ _ _ _ _ D1.out
  have I1_0 : V5.cell? ⟨V1.heap.size, 0, none⟩ = some (.int .i64 S1) := cell_of_row _ _ _ _ _ _ I1.out
  have I1_1 : V5.cell? ⟨V1.heap.size, 1, none⟩ = some (.int .i64 N1) := cell_of_row _ _ _ _ _ _ I1.out
  have J1_0 : V5.cell? ⟨V2.heap.size, 0, none⟩ = some (.int .i64 s) := cell_of_row _ _ _ _ _ _ J1.out
  have J1_1 : V5.cell? ⟨V2.heap.size, 1, none⟩ = some (.int .i64 n) := cell_of_row _ _ _ _ _ _ J1.out
  have I2_0 : V5.cell? ⟨V3.heap.size, 0, none⟩ = some (.int .i64 S2) := cell_of_row _ _ _ _ _ _ I2.out
  have I2_1 : V5.cell? ⟨V3.heap.size, 1, none⟩ = some (.int .i64 N2) := cell_of_row _ _ _ _ _ _ I2.out
  have I3_0 : V5.cell? ⟨V4.heap.size, 0, none⟩ = some (.int .i64 S3) := cell_of_row _ _ _ _ _ _ I3.out
  have I3_1 : V5.cell? ⟨V4.heap.size, 1, none⟩ = some (.int .i64 N3) := cell_of_row _ _ _ _ _ _ I3.out
  have zA1 := lt_of_heap A1.out
  have zD1 := lt_of_heap D1.out
  have zI1 := lt_of_heap I1.out
  have zJ1 := lt_of_heap J1.out
  have zI2 := lt_of_heap I2.out
  have zI3 := lt_of_heap I3.out
  go_simp
  go_wp2
  go_ret
  exact ⟨rfl, by first | exact B5.out | exact B5.out.alloc B5.out.size _⟩
set_option maxHeartbeats 6400000 in
set_option maxRecDepth 100000 in
theorem durBack_111 (s n d m f S1 N1 E1 S2 N2 E2 S3 N3 E3 : Int)
    (H1 : Hid (∀ w, Calls Try.prog 13 #[.agg #[.int .i64 s, .int .i64 n], .agg #[.int .i64 d, .int .i64 m]] w fun e w' => e = .returned (.tuple #[.agg #[.int .i64 S1, .int .i64 N1], .int .i64 0]) ∧ Below w.heap.size w w'))
    (H2 : Hid (∀ w, Calls Try.prog 15 #[.agg #[.int .i64 S1, .int .i64 N1], .agg #[.int .i64 d, .int .i64 m]] w fun e w' => e = .returned (.tuple #[.agg #[.int .i64 s, .int .i64 n], .int .i64 0]) ∧ Below w.heap.size w w'))
    (H3 : Hid (∀ w, Calls Try.prog 21 #[.agg #[.int .i64 s, .int .i64 n], .int .i64 0] w fun e w' => e = .returned (.tuple #[.agg #[.int .i64 S2, .int .i64 N2], .int .i64 0]) ∧ Below w.heap.size w w'))
    (H5 : Hid (∀ w, Calls Try.prog 17 #[.agg #[.int .i64 s, .int .i64 n]] w fun e w' => e = .returned (.tuple #[.agg #[.int .i64 S3, .int .i64 N3], .int .i64 0]) ∧ Below w.heap.size w w'))
    (H6 : Hid (∀ w, Calls Try.prog 17 #[.agg #[.int .i64 S3, .int .i64 N3]] w fun e w' => e = .returned (.tuple #[.agg #[.int .i64 s, .int .i64 n], .int .i64 0]) ∧ Below w.heap.size w w'))
    (w : World) :
    Calls Try.prog 7 #[.agg #[.int .i64 s, .int .i64 n], .agg #[.int .i64 d, .int .i64 m], .int .i64 0] w fun e w' => e = .returned (.bool true) ∧ Below w.heap.size w w' := by
  have H9 := Lib.hid awake4_any
  go_enter Try.func7, Try.ntmps7
  go_wp2_with fail
  
  refine (H1.out _).mono ?_
  rintro e V1 ⟨rfl, hb1⟩
  have B1 := Lib.hid ((((Below.refl w.heap.size w).alloc (Nat.le_refl _) _).alloc (by simp <;> omega) _).trans (hb1.mono (by first | assumption | (simp <;> omega) | (simp; done))))
  have A1 := Lib.hid (row_call hb1 (row_alloc (heap_alloc_new _ _) _))
  have D1 := Lib.hid (row_at (k' := w.heap.size + 1) (by simp) (row_call hb1 (heap_alloc_new _ _)))
  clear hb1
  have A1_0 : V1.cell? ⟨w.heap.size, 0, none⟩ = some (.int .i64 s) := cell_of_row _ _ _ _ _ _ A1.out
  have A1_1 : V1.cell? ⟨w.heap.size, 1, none⟩ = some (.int .i64 n) := cell_of_row _ _ _ _ _ _ A1.out
  have D1_0 : V1.cell? ⟨w.heap.size + 1, 0, none⟩ = some (.int .i64 d) := cell_of_row _ _ _ _ _ _ D1.out
  have D1_1 : V1.cell? ⟨w.heap.size + 1, 1, none⟩ = some (.int .i64 m) := cell_of_row _ _ _ _ _ _ D1.out
  have zA1 := lt_of_heap A1.out
  have zD1 := lt_of_heap D1.out
  go_simp
  go_wp2_with fail
  refine (H2.out _).mono ?_
  rintro e V2 ⟨rfl, hb2⟩
  clear A1_0 A1_1 zA1 D1_0 D1_1 zD1
  have nA1I1 := Lib.hid (lt_of_heap A1.out)
  have nD1I1 := Lib.hid (lt_of_heap D1.out)
  have B2 := Lib.hid (((B1.out).alloc (B1.out.size) _).trans (hb2.mono (by have := B1.out.size; first | assumption | (simp <;> omega) | (simp; done))))
  replace A1 := Lib.hid (row_call hb2 (row_alloc A1.out _))
  replace D1 := Lib.hid (row_call hb2 (row_alloc D1.out _))
  have I1 := Lib.hid (row_call hb2 (heap_alloc_new _ _))
  clear hb2
  have A1_0 : V2.cell? ⟨w.heap.size, 0, none⟩ = some (.int .i64 s) := cell_of_row _ _ _ _ _ _ A1.out
  have A1_1 : V2.cell? ⟨w.heap.size, 1, none⟩ = some (.int .i64 n) := cell_of_row _ _ _ _ _ _ A1.out
  have D1_0 : V2.cell? ⟨w.heap.size + 1, 0, none⟩ = some (.int .i64 d) := cell_of_row _ _ _ _ _ _ D1.out
  have D1_1 : V2.cell? ⟨w.heap.size + 1, 1, none⟩ = some (.int .i64 m) := cell_of_row _ _ _ _ _ _ D1.out
  have I1_0 : V2.cell? ⟨V1.heap.size, 0, none⟩ = some (.int .i64 S1) := cell_of_row _ _ _ _ _ _ I1.out
  have I1_1 : V2.cell? ⟨V1.heap.size, 1, none⟩ = some (.int .i64 N1) := cell_of_row _ _ _ _ _ _ I1.out
  have zA1 := lt_of_heap A1.out
  have zD1 := lt_of_heap D1.out
  have zI1 := lt_of_heap I1.out
  go_simp
  go_wp2_with fail
  refine (H3.out _).mono ?_
  rintro e V3 ⟨rfl, hb3⟩
  clear A1_0 A1_1 zA1 D1_0 D1_1 zD1 I1_0 I1_1 zI1
  have nA1J1 := Lib.hid (lt_of_heap A1.out)
  have nD1J1 := Lib.hid (lt_of_heap D1.out)
  have nI1J1 := Lib.hid (lt_of_heap I1.out)
  have B3 := Lib.hid (((B2.out).alloc (B2.out.size) _).trans (hb3.mono (by have := B2.out.size; first | assumption | (simp <;> omega) | (simp; done))))
  replace A1 := Lib.hid (row_call hb3 (row_alloc A1.out _))
  replace D1 := Lib.hid (row_call hb3 (row_alloc D1.out _))
  replace I1 := Lib.hid (row_call hb3 (row_alloc I1.out _))
  have J1 := Lib.hid (row_call hb3 (heap_alloc_new _ _))
  clear hb3
  have A1_0 : V3.cell? ⟨w.heap.size, 0, none⟩ = some (.int .i64 s) := cell_of_row _ _ _ _ _ _ A1.out
  have A1_1 : V3.cell? ⟨w.heap.size, 1, none⟩ = some (.int .i64 n) := cell_of_row _ _ _ _ _ _ A1.out
  have D1_0 : V3.cell? ⟨w.heap.size + 1, 0, none⟩ = some (.int .i64 d) := cell_of_row _ _ _ _ _ _ D1.out
  have D1_1 : V3.cell? ⟨w.heap.size + 1, 1, none⟩ = some (.int .i64 m) := cell_of_row _ _ _ _ _ _ D1.out
  have I1_0 : V3.cell? ⟨V1.heap.size, 0, none⟩ = some (.int .i64 S1) := cell_of_row _ _ _ _ _ _ I1.out
  have I1_1 : V3.cell? ⟨V1.heap.size, 1, none⟩ = some (.int .i64 N1) := cell_of_row _ _ _ _ _ _ I1.out
  have J1_0 : V3.cell? ⟨V2.heap.size, 0, none⟩ = some (.int .i64 s) := cell_of_row _ _ _ _ _ _ J1.out
  have J1_1 : V3.cell? ⟨V2.heap.size, 1, none⟩ = some (.int .i64 n) := cell_of_row _ _ _ _ _ _ J1.out
  have zA1 := lt_of_heap A1.out
  have zD1 := lt_of_heap D1.out
  have zI1 := lt_of_heap I1.out
  have zJ1 := lt_of_heap J1.out
  go_simp
  go_wp2_with fail
  refine (H5.out _).mono ?_
  rintro e V4 ⟨rfl, hb4⟩
  clear A1_0 A1_1 zA1 D1_0 D1_1 zD1 I1_0 I1_1 zI1 J1_0 J1_1 zJ1
  have nA1I2 := Lib.hid (lt_of_heap A1.out)
  have nD1I2 := Lib.hid (lt_of_heap D1.out)
  have nI1I2 := Lib.hid (lt_of_heap I1.out)
  have nJ1I2 := Lib.hid (lt_of_heap J1.out)
  have B4 := Lib.hid (((B3.out).alloc (B3.out.size) _).trans (hb4.mono (by have := B3.out.size; first | assumption | (simp <;> omega) | (simp; done))))
  replace A1 := Lib.hid (row_call hb4 (row_alloc A1.out _))
  replace D1 := Lib.hid (row_call hb4 (row_alloc D1.out _))
  replace I1 := Lib.hid (row_call hb4 (row_alloc I1.out _))
  replace J1 := Lib.hid (row_call hb4 (row_alloc J1.out _))
  have I2 := Lib.hid (row_call hb4 (heap_alloc_new _ _))
  clear hb4
  have A1_0 : V4.cell? ⟨w.heap.size, 0, none⟩ = some (.int .i64 s) := cell_of_row _ _ _ _ _ _ A1.out
  have A1_1 : V4.cell? ⟨w.heap.size, 1, none⟩ = some (.int .i64 n) := cell_of_row _ _ _ _ _ _ A1.out
  have D1_0 : V4.cell? ⟨w.heap.size + 1, 0, none⟩ = some (.int .i64 d) := cell_of_row _ _ _ _ _ _ D1.out
  have D1_1 : V4.cell? ⟨w.heap.size + 1, 1, none⟩ = some (.int .i64 m) := cell_of_row _ _ _ _ _ _ D1.out
  have I1_0 : V4.cell? ⟨V1.heap.size, 0, none⟩ = some (.int .i64 S1) := cell_of_row _ _ _ _ _ _ I1.out
  have I1_1 : V4.cell? ⟨V1.heap.size, 1, none⟩ = some (.int .i64 N1) := cell_of_row _ _ _ _ _ _ I1.out
  have J1_0 : V4.cell? ⟨V2.heap.size, 0, none⟩ = some (.int .i64 s) := cell_of_row _ _ _ _ _ _ J1.out
  have J1_1 : V4.cell? ⟨V2.heap.size, 1, none⟩ = some (.int .i64 n) := cell_of_row _ _ _ _ _ _ J1.out
  have I2_0 : V4.cell? ⟨V3.heap.size, 0, none⟩ = some (.int .i64 S2) := cell_of_row _ _ _ _ _ _ I2.out
  have I2_1 : V4.cell? ⟨V3.heap.size, 1, none⟩ = some (.int .i64 N2) := cell_of_row _ _ _ _ _ _ I2.out
  have zA1 := lt_of_heap A1.out
  have zD1 := lt_of_heap D1.out
  have zI1 := lt_of_heap I1.out
  have zJ1 := lt_of_heap J1.out
  have zI2 := lt_of_heap I2.out
  go_simp
  go_wp2_with fail
  refine (H6.out _).mono ?_
  rintro e V5 ⟨rfl, hb5⟩
  clear A1_0 A1_1 zA1 D1_0 D1_1 zD1 I1_0 I1_1 zI1 J1_0 J1_1 zJ1 I2_0 I2_1 zI2
  have nA1I3 := Lib.hid (lt_of_heap A1.out)
  have nD1I3 := Lib.hid (lt_of_heap D1.out)
  have nI1I3 := Lib.hid (lt_of_heap I1.out)
  have nJ1I3 := Lib.hid (lt_of_heap J1.out)
  have nI2I3 := Lib.hid (lt_of_heap I2.out)
  have B5 := Lib.hid (((B4.out).alloc (B4.out.size) _).trans (hb5.mono (by have := B4.out.size; first | assumption | (simp <;> omega) | (simp; done))))
  replace A1 := Lib.hid (row_call hb5 (row_alloc A1.out _))
  replace D1 := Lib.hid (row_call hb5 (row_alloc D1.out _))
  replace I1 := Lib.hid (row_call hb5 (row_alloc I1.out _))
  replace J1 := Lib.hid (row_call hb5 (row_alloc J1.out _))
  replace I2 := Lib.hid (row_call hb5 (row_alloc I2.out _))
  have I3 := Lib.hid (row_call hb5 (heap_alloc_new _ _))
  clear hb5
  have A1_0 : V5.cell? ⟨w.heap.size, 0, none⟩ = some (.int .i64 s) := cell_of_row _ _ _ _ _ _ A1.out
  have A1_1 : V5.cell? ⟨w.heap.size, 1, none⟩ = some (.int .i64 n) := cell_of_row _ _ _ _ _ _ A1.out
  have D1_0 : V5.cell? ⟨w.heap.size + 1, 0, none⟩ = some (.int .i64 d) := cell_of_row _ _ _ _ _ _ D1.out
  have D1_1 : V5.cell? ⟨w.heap.size + 1, 1, none⟩ = some (.int .i64 m) := cell_of_row _ _ _ _ _ _ D1.out
  have I1_0 : V5.cell? ⟨V1.heap.size, 0, none⟩ = some (.int .i64 S1) := cell_of_row _ _ _ _ _ _ I1.out
  have I1_1 : V5.cell? ⟨V1.heap.size, 1, none⟩ = some (.int .i64 N1) := cell_of_row _ _ _ _ _ _ I1.out
  have J1_0 : V5.cell? ⟨V2.heap.size, 0, none⟩ = some (.int .i64 s) := cell_of_row _ _ _ _ _ _ J1.out
  have J1_1 : V5.cell? ⟨V2.heap.size, 1, none⟩ = some (.int .i64 n) := cell_of_row _ _ _ _ _ _ J1.out
  have I2_0 : V5.cell? ⟨V3.heap.size, 0, none⟩ = some (.int .i64 S2) := cell_of_row _ _ _ _ _ _ I2.out
  have I2_1 : V5.cell? ⟨V3.heap.size, 1, none⟩ = some (.int .i64 N2) := cell_of_row _ _ _ _ _ _ I2.out
  have I3_0 : V5.cell? ⟨V4.heap.size, 0, none⟩ = some (.int .i64 S3) := cell_of_row _ _ _ _ _ _ I3.out
  have I3_1 : V5.cell? ⟨V4.heap.size, 1, none⟩ = some (.int .i64 N3) := cell_of_row _ _ _ _ _ _ I3.out
  have zA1 := lt_of_heap A1.out
  have zD1 := lt_of_heap D1.out
  have zI1 := lt_of_heap I1.out
  have zJ1 := lt_of_heap J1.out
  have zI2 := lt_of_heap I2.out
  have zI3 := lt_of_heap I3.out
  go_simp
  go_wp2_with fail
  refine (H9.out _).mono ?_
  rintro e V6 ⟨rfl, hb6⟩
  clear A1_0 A1_1 zA1 D1_0 D1_1 zD1 I1_0 I1_1 zI1 J1_0 J1_1 zJ1 I2_0 I2_1 zI2 I3_0 I3_1 zI3
  have nA1J3 := Lib.hid (lt_of_heap A1.out)
  have nD1J3 := Lib.hid (lt_of_heap D1.out)
  have nI1J3 := Lib.hid (lt_of_heap I1.out)
  have nJ1J3 := Lib.hid (lt_of_heap J1.out)
  have nI2J3 := Lib.hid (lt_of_heap I2.out)
  have nI3J3 := Lib.hid (lt_of_heap I3.out)
  have B6 := Lib.hid (((B5.out).alloc (B5.out.size) _).trans (hb6.mono (by have := B5.out.size; first | assumption | (simp <;> omega) | (simp; done))))
  replace A1 := Lib.hid (row_call hb6 (row_alloc A1.out _))
  replace D1 := Lib.hid (row_call hb6 (row_alloc D1.out _))
  replace I1 := Lib.hid (row_call hb6 (row_alloc I1.out _))
  replace J1 := Lib.hid (row_call hb6 (row_alloc J1.out _))
  replace I2 := Lib.hid (row_call hb6 (row_alloc I2.out _))
  replace I3 := Lib.hid (row_call hb6 (row_alloc I3.out _))
  have J3 := Lib.hid (row_call hb6 (heap_alloc_new _ _))
  clear hb6
  have A1_0 : V6.cell? ⟨w.heap.size, 0, none⟩ = some (.int .i64 s) := cell_of_row _ _ _ _ _ _ A1.out
  have A1_1 : V6.cell? ⟨w.heap.size, 1, none⟩ = some (.int .i64 n) := cell_of_row _ _ _ _ _ _ A1.out
  have D1_0 : V6.cell? ⟨w.heap.size + 1, 0, none⟩ = some (.int .i64 d) := cell_of_row _ _ _ _ _ _ D1.out
  have D1_1 : V6.cell? ⟨w.heap.size + 1, 1, none⟩ = some (.int .i64 m) := cell_of_row _ _ _ _ _ _ D1.out
  have I1_0 : V6.cell? ⟨V1.heap.size, 0, none⟩ = some (.int .i64 S1) := cell_of_row _ _ _ _ _ _ I1.out
  have I1_1 : V6.cell? ⟨V1.heap.size, 1, none⟩ = some (.int .i64 N1) := cell_of_row _ _ _ _ _ _ I1.out
  have J1_0 : V6.cell? ⟨V2.heap.size, 0, none⟩ = some (.int .i64 s) := cell_of_row _ _ _ _ _ _ J1.out
  have J1_1 : V6.cell? ⟨V2.heap.size, 1, none⟩ = some (.int .i64 n) := cell_of_row _ _ _ _ _ _ J1.out
  have I2_0 : V6.cell? ⟨V3.heap.size, 0, none⟩ = some (.int .i64 S2) := cell_of_row _ _ _ _ _ _ I2.out
  have I2_1 : V6.cell? ⟨V3.heap.size, 1, none⟩ = some (.int .i64 N2) := cell_of_row _ _ _ _ _ _ I2.out
  have I3_0 : V6.cell? ⟨V4.heap.size, 0, none⟩ = some (.int .i64 S3) := cell_of_row _ _ _ _ _ _ I3.out
  have I3_1 : V6.cell? ⟨V4.heap.size, 1, none⟩ = some (.int .i64 N3) := cell_of_row _ _ _ _ _ _ I3.out
  have J3_0 : V6.cell? ⟨V5.heap.size, 0, none⟩ = some (.int .i64 s) := cell_of_row _ _ _ _ _ _ J3.out
  have J3_1 : V6.cell? ⟨V5.heap.size, 1, none⟩ = some (.int .i64 n) := cell_of_row _ _ _ _ _ _ J3.out
  have zA1 := lt_of_heap A1.out
  have zD1 := lt_of_heap D1.out
  have zI1 := lt_of_heap I1.out
  have zJ1 := lt_of_heap J1.out
  have zI2 := lt_of_heap I2.out
  have zI3 := lt_of_heap I3.out
  have zJ3 := lt_of_heap J3.out
  go_simp
  go_wp2
  go_ret
  exact ⟨rfl, by first | exact B6.out | exact B6.out.alloc B6.out.size _⟩
set_option maxHeartbeats 6400000 in
set_option maxRecDepth 100000 in
theorem durBack_120 (s n d m f S1 N1 E1 S2 N2 E2 S3 N3 E3 : Int)
    (H1 : Hid (∀ w, Calls Try.prog 13 #[.agg #[.int .i64 s, .int .i64 n], .agg #[.int .i64 d, .int .i64 m]] w fun e w' => e = .returned (.tuple #[.agg #[.int .i64 S1, .int .i64 N1], .int .i64 0]) ∧ Below w.heap.size w w'))
    (H2 : Hid (∀ w, Calls Try.prog 15 #[.agg #[.int .i64 S1, .int .i64 N1], .agg #[.int .i64 d, .int .i64 m]] w fun e w' => e = .returned (.tuple #[.agg #[.int .i64 s, .int .i64 n], .int .i64 0]) ∧ Below w.heap.size w w'))
    (H3 : Hid (∀ w, Calls Try.prog 21 #[.agg #[.int .i64 s, .int .i64 n], .int .i64 f] w fun e w' => e = .returned (.tuple #[.agg #[.int .i64 S2, .int .i64 N2], .int .i64 0]) ∧ Below w.heap.size w w'))
    (H4 : Hid (∀ w, Calls Try.prog 23 #[.agg #[.int .i64 S2, .int .i64 N2], .int .i64 f] w fun e w' => e = .returned (.tuple #[.agg #[.int .i64 s, .int .i64 n], .int .i64 0]) ∧ Below w.heap.size w w'))
    (f3 : (f != 0) = true)
    (H5 : Hid (∀ w, Calls Try.prog 17 #[.agg #[.int .i64 s, .int .i64 n]] w fun e w' => e = .returned (.tuple #[.agg #[.int .i64 S3, .int .i64 N3], .int .i64 E3]) ∧ Below w.heap.size w w'))
    (f4 : (E3 == 0) = false)
    (w : World) :
    Calls Try.prog 7 #[.agg #[.int .i64 s, .int .i64 n], .agg #[.int .i64 d, .int .i64 m], .int .i64 f] w fun e w' => e = .returned (.bool true) ∧ Below w.heap.size w w' := by
  have H9 := Lib.hid awake4_any
  go_enter Try.func7, Try.ntmps7
  go_wp2_with fail
  
  refine (H1.out _).mono ?_
  rintro e V1 ⟨rfl, hb1⟩
  have B1 := Lib.hid ((((Below.refl w.heap.size w).alloc (Nat.le_refl _) _).alloc (by simp <;> omega) _).trans (hb1.mono (by first | assumption | (simp <;> omega) | (simp; done))))
  have A1 := Lib.hid (row_call hb1 (row_alloc (heap_alloc_new _ _) _))
  have D1 := Lib.hid (row_at (k' := w.heap.size + 1) (by simp) (row_call hb1 (heap_alloc_new _ _)))
  clear hb1
  have A1_0 : V1.cell? ⟨w.heap.size, 0, none⟩ = some (.int .i64 s) := cell_of_row _ _ _ _ _ _ A1.out
  have A1_1 : V1.cell? ⟨w.heap.size, 1, none⟩ = some (.int .i64 n) := cell_of_row _ _ _ _ _ _ A1.out
  have D1_0 : V1.cell? ⟨w.heap.size + 1, 0, none⟩ = some (.int .i64 d) := cell_of_row _ _ _ _ _ _ D1.out
  have D1_1 : V1.cell? ⟨w.heap.size + 1, 1, none⟩ = some (.int .i64 m) := cell_of_row _ _ _ _ _ _ D1.out
  have zA1 := lt_of_heap A1.out
  have zD1 := lt_of_heap D1.out
  go_simp
  go_wp2_with fail
  refine (H2.out _).mono ?_
  rintro e V2 ⟨rfl, hb2⟩
  clear A1_0 A1_1 zA1 D1_0 D1_1 zD1
  have nA1I1 := Lib.hid (lt_of_heap A1.out)
  have nD1I1 := Lib.hid (lt_of_heap D1.out)
  have B2 := Lib.hid (((B1.out).alloc (B1.out.size) _).trans (hb2.mono (by have := B1.out.size; first | assumption | (simp <;> omega) | (simp; done))))
  replace A1 := Lib.hid (row_call hb2 (row_alloc A1.out _))
  replace D1 := Lib.hid (row_call hb2 (row_alloc D1.out _))
  have I1 := Lib.hid (row_call hb2 (heap_alloc_new _ _))
  clear hb2
  have A1_0 : V2.cell? ⟨w.heap.size, 0, none⟩ = some (.int .i64 s) := cell_of_row _ _ _ _ _ _ A1.out
  have A1_1 : V2.cell? ⟨w.heap.size, 1, none⟩ = some (.int .i64 n) := cell_of_row _ _ _ _ _ _ A1.out
  have D1_0 : V2.cell? ⟨w.heap.size + 1, 0, none⟩ = some (.int .i64 d) := cell_of_row _ _ _ _ _ _ D1.out
  have D1_1 : V2.cell? ⟨w.heap.size + 1, 1, none⟩ = some (.int .i64 m) := cell_of_row _ _ _ _ _ _ D1.out
  have I1_0 : V2.cell? ⟨V1.heap.size, 0, none⟩ = some (.int .i64 S1) := cell_of_row _ _ _ _ _ _ I1.out
  have I1_1 : V2.cell? ⟨V1.heap.size, 1, none⟩ = some (.int .i64 N1) := cell_of_row _ _ _ _ _ _ I1.out
  have zA1 := lt_of_heap A1.out
  have zD1 := lt_of_heap D1.out
  have zI1 := lt_of_heap I1.out
  go_simp
  go_wp2_with fail
  refine (H3.out _).mono ?_
  rintro e V3 ⟨rfl, hb3⟩
  clear A1_0 A1_1 zA1 D1_0 D1_1 zD1 I1_0 I1_1 zI1
  have nA1J1 := Lib.hid (lt_of_heap A1.out)
  have nD1J1 := Lib.hid (lt_of_heap D1.out)
  have nI1J1 := Lib.hid (lt_of_heap I1.out)
  have B3 := Lib.hid (((B2.out).alloc (B2.out.size) _).trans (hb3.mono (by have := B2.out.size; first | assumption | (simp <;> omega) | (simp; done))))
  replace A1 := Lib.hid (row_call hb3 (row_alloc A1.out _))
  replace D1 := Lib.hid (row_call hb3 (row_alloc D1.out _))
  replace I1 := Lib.hid (row_call hb3 (row_alloc I1.out _))
  have J1 := Lib.hid (row_call hb3 (heap_alloc_new _ _))
  clear hb3
  have A1_0 : V3.cell? ⟨w.heap.size, 0, none⟩ = some (.int .i64 s) := cell_of_row _ _ _ _ _ _ A1.out
  have A1_1 : V3.cell? ⟨w.heap.size, 1, none⟩ = some (.int .i64 n) := cell_of_row _ _ _ _ _ _ A1.out
  have D1_0 : V3.cell? ⟨w.heap.size + 1, 0, none⟩ = some (.int .i64 d) := cell_of_row _ _ _ _ _ _ D1.out
  have D1_1 : V3.cell? ⟨w.heap.size + 1, 1, none⟩ = some (.int .i64 m) := cell_of_row _ _ _ _ _ _ D1.out
  have I1_0 : V3.cell? ⟨V1.heap.size, 0, none⟩ = some (.int .i64 S1) := cell_of_row _ _ _ _ _ _ I1.out
  have I1_1 : V3.cell? ⟨V1.heap.size, 1, none⟩ = some (.int .i64 N1) := cell_of_row _ _ _ _ _ _ I1.out
  have J1_0 : V3.cell? ⟨V2.heap.size, 0, none⟩ = some (.int .i64 s) := cell_of_row _ _ _ _ _ _ J1.out
  have J1_1 : V3.cell? ⟨V2.heap.size, 1, none⟩ = some (.int .i64 n) := cell_of_row _ _ _ _ _ _ J1.out
  have zA1 := lt_of_heap A1.out
  have zD1 := lt_of_heap D1.out
  have zI1 := lt_of_heap I1.out
  have zJ1 := lt_of_heap J1.out
  go_simp
  go_wp2_with fail
  refine (H4.out _).mono ?_
  rintro e V4 ⟨rfl, hb4⟩
  clear A1_0 A1_1 zA1 D1_0 D1_1 zD1 I1_0 I1_1 zI1 J1_0 J1_1 zJ1
  have nA1I2 := Lib.hid (lt_of_heap A1.out)
  have nD1I2 := Lib.hid (lt_of_heap D1.out)
  have nI1I2 := Lib.hid (lt_of_heap I1.out)
  have nJ1I2 := Lib.hid (lt_of_heap J1.out)
  have B4 := Lib.hid (((B3.out).alloc (B3.out.size) _).trans (hb4.mono (by have := B3.out.size; first | assumption | (simp <;> omega) | (simp; done))))
  replace A1 := Lib.hid (row_call hb4 (row_alloc A1.out _))
  replace D1 := Lib.hid (row_call hb4 (row_alloc D1.out _))
  replace I1 := Lib.hid (row_call hb4 (row_alloc I1.out _))
  replace J1 := Lib.hid (row_call hb4 (row_alloc J1.out _))
  have I2 := Lib.hid (row_call hb4 (heap_alloc_new _ _))
  clear hb4
  have A1_0 : V4.cell? ⟨w.heap.size, 0, none⟩ = some (.int .i64 s) := cell_of_row _ _ _ _ _ _ A1.out
  have A1_1 : V4.cell? ⟨w.heap.size, 1, none⟩ = some (.int .i64 n) := cell_of_row _ _ _ _ _ _ A1.out
  have D1_0 : V4.cell? ⟨w.heap.size + 1, 0, none⟩ = some (.int .i64 d) := cell_of_row _ _ _ _ _ _ D1.out
  have D1_1 : V4.cell? ⟨w.heap.size + 1, 1, none⟩ = some (.int .i64 m) := cell_of_row _ _ _ _ _ _ D1.out
  have I1_0 : V4.cell? ⟨V1.heap.size, 0, none⟩ = some (.int .i64 S1) := cell_of_row _ _ _ _ _ _ I1.out
  have I1_1 : V4.cell? ⟨V1.heap.size, 1, none⟩ = some (.int .i64 N1) := cell_of_row _ _ _ _ _ _ I1.out
  have J1_0 : V4.cell? ⟨V2.heap.size, 0, none⟩ = some (.int .i64 s) := cell_of_row _ _ _ _ _ _ J1.out
  have J1_1 : V4.cell? ⟨V2.heap.size, 1, none⟩ = some (.int .i64 n) := cell_of_row _ _ _ _ _ _ J1.out
  have I2_0 : V4.cell? ⟨V3.heap.size, 0, none⟩ = some (.int .i64 S2) := cell_of_row _ _ _ _ _ _ I2.out
  have I2_1 : V4.cell? ⟨V3.heap.size, 1, none⟩ = some (.int .i64 N2) := cell_of_row _ _ _ _ _ _ I2.out
  have zA1 := lt_of_heap A1.out
  have zD1 := lt_of_heap D1.out
  have zI1 := lt_of_heap I1.out
  have zJ1 := lt_of_heap J1.out
  have zI2 := lt_of_heap I2.out
  go_simp
  go_wp2_with fail
  refine (H5.out _).mono ?_
  rintro e V5 ⟨rfl, hb5⟩
  clear A1_0 A1_1 zA1 D1_0 D1_1 zD1 I1_0 I1_1 zI1 J1_0 J1_1 zJ1 I2_0 I2_1 zI2
  have nA1J2 := Lib.hid (lt_of_heap A1.out)
  have nD1J2 := Lib.hid (lt_of_heap D1.out)
  have nI1J2 := Lib.hid (lt_of_heap I1.out)
  have nJ1J2 := Lib.hid (lt_of_heap J1.out)
  have nI2J2 := Lib.hid (lt_of_heap I2.out)
  have B5 := Lib.hid (((B4.out).alloc (B4.out.size) _).trans (hb5.mono (by have := B4.out.size; first | assumption | (simp <;> omega) | (simp; done))))
  replace A1 := Lib.hid (row_call hb5 (row_alloc A1.out _))
  replace D1 := Lib.hid (row_call hb5 (row_alloc D1.out _))
  replace I1 := Lib.hid (row_call hb5 (row_alloc I1.out _))
  replace J1 := Lib.hid (row_call hb5 (row_alloc J1.out _))
  replace I2 := Lib.hid (row_call hb5 (row_alloc I2.out _))
  have J2 := Lib.hid (row_call hb5 (heap_alloc_new _ _))
  clear hb5
  have A1_0 : V5.cell? ⟨w.heap.size, 0, none⟩ = some (.int .i64 s) := cell_of_row _ _ _ _ _ _ A1.out
  have A1_1 : V5.cell? ⟨w.heap.size, 1, none⟩ = some (.int .i64 n) := cell_of_row _ _ _ _ _ _ A1.out
  have D1_0 : V5.cell? ⟨w.heap.size + 1, 0, none⟩ = some (.int .i64 d) := cell_of_row _ _ _ _ _ _ D1.out
  have D1_1 : V5.cell? ⟨w.heap.size + 1, 1, none⟩ = some (.int .i64 m) := cell_of_row _ _ _ _ _ _ D1.out
  have I1_0 : V5.cell? ⟨V1.heap.size, 0, none⟩ = some (.int .i64 S1) := cell_of_row _ _ _ _ _ _ I1.out
  have I1_1 : V5.cell? ⟨V1.heap.size, 1, none⟩ = some (.int .i64 N1) := cell_of_row _ _ _ _ _ _ I1.out
  have J1_0 : V5.cell? ⟨V2.heap.size, 0, none⟩ = some (.int .i64 s) := cell_of_row _ _ _ _ _ _ J1.out
  have J1_1 : V5.cell? ⟨V2.heap.size, 1, none⟩ = some (.int .i64 n) := cell_of_row _ _ _ _ _ _ J1.out
  have I2_0 : V5.cell? ⟨V3.heap.size, 0, none⟩ = some (.int .i64 S2) := cell_of_row _ _ _ _ _ _ I2.out
  have I2_1 : V5.cell? ⟨V3.heap.size, 1, none⟩ = some (.int .i64 N2) := cell_of_row _ _ _ _ _ _ I2.out
  have J2_0 : V5.cell? ⟨V4.heap.size, 0, none⟩ = some (.int .i64 s) := cell_of_row _ _ _ _ _ _ J2.out
  have J2_1 : V5.cell? ⟨V4.heap.size, 1, none⟩ = some (.int .i64 n) := cell_of_row _ _ _ _ _ _ J2.out
  have zA1 := lt_of_heap A1.out
  have zD1 := lt_of_heap D1.out
  have zI1 := lt_of_heap I1.out
  have zJ1 := lt_of_heap J1.out
  have zI2 := lt_of_heap I2.out
  have zJ2 := lt_of_heap J2.out
  go_simp
  go_wp2_with fail
  refine (H9.out _).mono ?_
  rintro e V6 ⟨rfl, hb6⟩
  clear A1_0 A1_1 zA1 D1_0 D1_1 zD1 I1_0 I1_1 zI1 J1_0 J1_1 zJ1 I2_0 I2_1 zI2 J2_0 J2_1 zJ2
  have nA1I3 := Lib.hid (lt_of_heap A1.out)
  have nD1I3 := Lib.hid (lt_of_heap D1.out)
  have nI1I3 := Lib.hid (lt_of_heap I1.out)
  have nJ1I3 := Lib.hid (lt_of_heap J1.out)
  have nI2I3 := Lib.hid (lt_of_heap I2.out)
  have nJ2I3 := Lib.hid (lt_of_heap J2.out)
  have B6 := Lib.hid (((B5.out).alloc (B5.out.size) _).trans (hb6.mono (by have := B5.out.size; first | assumption | (simp <;> omega) | (simp; done))))
  replace A1 := Lib.hid (row_call hb6 (row_alloc A1.out _))
  replace D1 := Lib.hid (row_call hb6 (row_alloc D1.out _))
  replace I1 := Lib.hid (row_call hb6 (row_alloc I1.out _))
  replace J1 := Lib.hid (row_call hb6 (row_alloc J1.out _))
  replace I2 := Lib.hid (row_call hb6 (row_alloc I2.out _))
  replace J2 := Lib.hid (row_call hb6 (row_alloc J2.out _))
  have I3 := Lib.hid (row_call hb6 (heap_alloc_new _ _))
  clear hb6
  have A1_0 : V6.cell? ⟨w.heap.size, 0, none⟩ = some (.int .i64 s) := cell_of_row _ _ _ _ _ _ A1.out
  have A1_1 : V6.cell? ⟨w.heap.size, 1, none⟩ = some (.int .i64 n) := cell_of_row _ _ _ _ _ _ A1.out
  have D1_0 : V6.cell? ⟨w.heap.size + 1, 0, none⟩ = some (.int .i64 d) := cell_of_row _ _ _ _ _ _ D1.out
  have D1_1 : V6.cell? ⟨w.heap.size + 1, 1, none⟩ = some (.int .i64 m) := cell_of_row _ _ _ _ _ _ D1.out
  have I1_0 : V6.cell? ⟨V1.heap.size, 0, none⟩ = some (.int .i64 S1) := cell_of_row _ _ _ _ _ _ I1.out
  have I1_1 : V6.cell? ⟨V1.heap.size, 1, none⟩ = some (.int .i64 N1) := cell_of_row _ _ _ _ _ _ I1.out
  have J1_0 : V6.cell? ⟨V2.heap.size, 0, none⟩ = some (.int .i64 s) := cell_of_row _ _ _ _ _ _ J1.out
  have J1_1 : V6.cell? ⟨V2.heap.size, 1, none⟩ = some (.int .i64 n) := cell_of_row _ _ _ _ _ _ J1.out
  have I2_0 : V6.cell? ⟨V3.heap.size, 0, none⟩ = some (.int .i64 S2) := cell_of_row _ _ _ _ _ _ I2.out
  have I2_1 : V6.cell? ⟨V3.heap.size, 1, none⟩ = some (.int .i64 N2) := cell_of_row _ _ _ _ _ _ I2.out
  have J2_0 : V6.cell? ⟨V4.heap.size, 0, none⟩ = some (.int .i64 s) := cell_of_row _ _ _ _ _ _ J2.out
  have J2_1 : V6.cell? ⟨V4.heap.size, 1, none⟩ = some (.int .i64 n) := cell_of_row _ _ _ _ _ _ J2.out
  have I3_0 : V6.cell? ⟨V5.heap.size, 0, none⟩ = some (.int .i64 S3) := cell_of_row _ _ _ _ _ _ I3.out
  have I3_1 : V6.cell? ⟨V5.heap.size, 1, none⟩ = some (.int .i64 N3) := cell_of_row _ _ _ _ _ _ I3.out
  have zA1 := lt_of_heap A1.out
  have zD1 := lt_of_heap D1.out
  have zI1 := lt_of_heap I1.out
  have zJ1 := lt_of_heap J1.out
  have zI2 := lt_of_heap I2.out
  have zJ2 := lt_of_heap J2.out
  have zI3 := lt_of_heap I3.out
  go_simp
  go_wp2
  go_ret
  exact ⟨rfl, by first | exact B6.out | exact B6.out.alloc B6.out.size _⟩
set_option maxHeartbeats 6400000 in
set_option maxRecDepth 100000 in
theorem durBack_121 (s n d m f S1 N1 E1 S2 N2 E2 S3 N3 E3 : Int)
    (H1 : Hid (∀ w, Calls Try.prog 13 #[.agg #[.int .i64 s, .int .i64 n], .agg #[.int .i64 d, .int .i64 m]] w fun e w' => e = .returned (.tuple #[.agg #[.int .i64 S1, .int .i64 N1], .int .i64 0]) ∧ Below w.heap.size w w'))
    (H2 : Hid (∀ w, Calls Try.prog 15 #[.agg #[.int .i64 S1, .int .i64 N1], .agg #[.int .i64 d, .int .i64 m]] w fun e w' => e = .returned (.tuple #[.agg #[.int .i64 s, .int .i64 n], .int .i64 0]) ∧ Below w.heap.size w w'))
    (H3 : Hid (∀ w, Calls Try.prog 21 #[.agg #[.int .i64 s, .int .i64 n], .int .i64 f] w fun e w' => e = .returned (.tuple #[.agg #[.int .i64 S2, .int .i64 N2], .int .i64 0]) ∧ Below w.heap.size w w'))
    (H4 : Hid (∀ w, Calls Try.prog 23 #[.agg #[.int .i64 S2, .int .i64 N2], .int .i64 f] w fun e w' => e = .returned (.tuple #[.agg #[.int .i64 s, .int .i64 n], .int .i64 0]) ∧ Below w.heap.size w w'))
    (f3 : (f != 0) = true)
    (H5 : Hid (∀ w, Calls Try.prog 17 #[.agg #[.int .i64 s, .int .i64 n]] w fun e w' => e = .returned (.tuple #[.agg #[.int .i64 S3, .int .i64 N3], .int .i64 0]) ∧ Below w.heap.size w w'))
    (H6 : Hid (∀ w, Calls Try.prog 17 #[.agg #[.int .i64 S3, .int .i64 N3]] w fun e w' => e = .returned (.tuple #[.agg #[.int .i64 s, .int .i64 n], .int .i64 0]) ∧ Below w.heap.size w w'))
    (w : World) :
    Calls Try.prog 7 #[.agg #[.int .i64 s, .int .i64 n], .agg #[.int .i64 d, .int .i64 m], .int .i64 f] w fun e w' => e = .returned (.bool true) ∧ Below w.heap.size w w' := by
  have H9 := Lib.hid awake4_any
  go_enter Try.func7, Try.ntmps7
  go_wp2_with fail
  
  refine (H1.out _).mono ?_
  rintro e V1 ⟨rfl, hb1⟩
  have B1 := Lib.hid ((((Below.refl w.heap.size w).alloc (Nat.le_refl _) _).alloc (by simp <;> omega) _).trans (hb1.mono (by first | assumption | (simp <;> omega) | (simp; done))))
  have A1 := Lib.hid (row_call hb1 (row_alloc (heap_alloc_new _ _) _))
  have D1 := Lib.hid (row_at (k' := w.heap.size + 1) (by simp) (row_call hb1 (heap_alloc_new _ _)))
  clear hb1
  have A1_0 : V1.cell? ⟨w.heap.size, 0, none⟩ = some (.int .i64 s) := cell_of_row _ _ _ _ _ _ A1.out
  have A1_1 : V1.cell? ⟨w.heap.size, 1, none⟩ = some (.int .i64 n) := cell_of_row _ _ _ _ _ _ A1.out
  have D1_0 : V1.cell? ⟨w.heap.size + 1, 0, none⟩ = some (.int .i64 d) := cell_of_row _ _ _ _ _ _ D1.out
  have D1_1 : V1.cell? ⟨w.heap.size + 1, 1, none⟩ = some (.int .i64 m) := cell_of_row _ _ _ _ _ _ D1.out
  have zA1 := lt_of_heap A1.out
  have zD1 := lt_of_heap D1.out
  go_simp
  go_wp2_with fail
  refine (H2.out _).mono ?_
  rintro e V2 ⟨rfl, hb2⟩
  clear A1_0 A1_1 zA1 D1_0 D1_1 zD1
  have nA1I1 := Lib.hid (lt_of_heap A1.out)
  have nD1I1 := Lib.hid (lt_of_heap D1.out)
  have B2 := Lib.hid (((B1.out).alloc (B1.out.size) _).trans (hb2.mono (by have := B1.out.size; first | assumption | (simp <;> omega) | (simp; done))))
  replace A1 := Lib.hid (row_call hb2 (row_alloc A1.out _))
  replace D1 := Lib.hid (row_call hb2 (row_alloc D1.out _))
  have I1 := Lib.hid (row_call hb2 (heap_alloc_new _ _))
  clear hb2
  have A1_0 : V2.cell? ⟨w.heap.size, 0, none⟩ = some (.int .i64 s) := cell_of_row _ _ _ _ _ _ A1.out
  have A1_1 : V2.cell? ⟨w.heap.size, 1, none⟩ = some (.int .i64 n) := cell_of_row _ _ _ _ _ _ A1.out
  have D1_0 : V2.cell? ⟨w.heap.size + 1, 0, none⟩ = some (.int .i64 d) := cell_of_row _ _ _ _ _ _ D1.out
  have D1_1 : V2.cell? ⟨w.heap.size + 1, 1, none⟩ = some (.int .i64 m) := cell_of_row _ _ _ _ _ _ D1.out
  have I1_0 : V2.cell? ⟨V1.heap.size, 0, none⟩ = some (.int .i64 S1) := cell_of_row _ _ _ _ _ _ I1.out
  have I1_1 : V2.cell? ⟨V1.heap.size, 1, none⟩ = some (.int .i64 N1) := cell_of_row _ _ _ _ _ _ I1.out
  have zA1 := lt_of_heap A1.out
  have zD1 := lt_of_heap D1.out
  have zI1 := lt_of_heap I1.out
  go_simp
  go_wp2_with fail
  refine (H3.out _).mono ?_
  rintro e V3 ⟨rfl, hb3⟩
  clear A1_0 A1_1 zA1 D1_0 D1_1 zD1 I1_0 I1_1 zI1
  have nA1J1 := Lib.hid (lt_of_heap A1.out)
  have nD1J1 := Lib.hid (lt_of_heap D1.out)
  have nI1J1 := Lib.hid (lt_of_heap I1.out)
  have B3 := Lib.hid (((B2.out).alloc (B2.out.size) _).trans (hb3.mono (by have := B2.out.size; first | assumption | (simp <;> omega) | (simp; done))))
  replace A1 := Lib.hid (row_call hb3 (row_alloc A1.out _))
  replace D1 := Lib.hid (row_call hb3 (row_alloc D1.out _))
  replace I1 := Lib.hid (row_call hb3 (row_alloc I1.out _))
  have J1 := Lib.hid (row_call hb3 (heap_alloc_new _ _))
  clear hb3
  have A1_0 : V3.cell? ⟨w.heap.size, 0, none⟩ = some (.int .i64 s) := cell_of_row _ _ _ _ _ _ A1.out
  have A1_1 : V3.cell? ⟨w.heap.size, 1, none⟩ = some (.int .i64 n) := cell_of_row _ _ _ _ _ _ A1.out
  have D1_0 : V3.cell? ⟨w.heap.size + 1, 0, none⟩ = some (.int .i64 d) := cell_of_row _ _ _ _ _ _ D1.out
  have D1_1 : V3.cell? ⟨w.heap.size + 1, 1, none⟩ = some (.int .i64 m) := cell_of_row _ _ _ _ _ _ D1.out
  have I1_0 : V3.cell? ⟨V1.heap.size, 0, none⟩ = some (.int .i64 S1) := cell_of_row _ _ _ _ _ _ I1.out
  have I1_1 : V3.cell? ⟨V1.heap.size, 1, none⟩ = some (.int .i64 N1) := cell_of_row _ _ _ _ _ _ I1.out
  have J1_0 : V3.cell? ⟨V2.heap.size, 0, none⟩ = some (.int .i64 s) := cell_of_row _ _ _ _ _ _ J1.out
  have J1_1 : V3.cell? ⟨V2.heap.size, 1, none⟩ = some (.int .i64 n) := cell_of_row _ _ _ _ _ _ J1.out
  have zA1 := lt_of_heap A1.out
  have zD1 := lt_of_heap D1.out
  have zI1 := lt_of_heap I1.out
  have zJ1 := lt_of_heap J1.out
  go_simp
  go_wp2_with fail
  refine (H4.out _).mono ?_
  rintro e V4 ⟨rfl, hb4⟩
  clear A1_0 A1_1 zA1 D1_0 D1_1 zD1 I1_0 I1_1 zI1 J1_0 J1_1 zJ1
  have nA1I2 := Lib.hid (lt_of_heap A1.out)
  have nD1I2 := Lib.hid (lt_of_heap D1.out)
  have nI1I2 := Lib.hid (lt_of_heap I1.out)
  have nJ1I2 := Lib.hid (lt_of_heap J1.out)
  have B4 := Lib.hid (((B3.out).alloc (B3.out.size) _).trans (hb4.mono (by have := B3.out.size; first | assumption | (simp <;> omega) | (simp; done))))
  replace A1 := Lib.hid (row_call hb4 (row_alloc A1.out _))
  replace D1 := Lib.hid (row_call hb4 (row_alloc D1.out _))
  replace I1 := Lib.hid (row_call hb4 (row_alloc I1.out _))
  replace J1 := Lib.hid (row_call hb4 (row_alloc J1.out _))
  have I2 := Lib.hid (row_call hb4 (heap_alloc_new _ _))
  clear hb4
  have A1_0 : V4.cell? ⟨w.heap.size, 0, none⟩ = some (.int .i64 s) := cell_of_row _ _ _ _ _ _ A1.out
  have A1_1 : V4.cell? ⟨w.heap.size, 1, none⟩ = some (.int .i64 n) := cell_of_row _ _ _ _ _ _ A1.out
  have D1_0 : V4.cell? ⟨w.heap.size + 1, 0, none⟩ = some (.int .i64 d) := cell_of_row _ _ _ _ _ _ D1.out
  have D1_1 : V4.cell? ⟨w.heap.size + 1, 1, none⟩ = some (.int .i64 m) := cell_of_row _ _ _ _ _ _ D1.out
  have I1_0 : V4.cell? ⟨V1.heap.size, 0, none⟩ = some (.int .i64 S1) := cell_of_row _ _ _ _ _ _ I1.out
  have I1_1 : V4.cell? ⟨V1.heap.size, 1, none⟩ = some (.int .i64 N1) := cell_of_row _ _ _ _ _ _ I1.out
  have J1_0 : V4.cell? ⟨V2.heap.size, 0, none⟩ = some (.int .i64 s) := cell_of_row _ _ _ _ _ _ J1.out
  have J1_1 : V4.cell? ⟨V2.heap.size, 1, none⟩ = some (.int .i64 n) := cell_of_row _ _ _ _ _ _ J1.out
  have I2_0 : V4.cell? ⟨V3.heap.size, 0, none⟩ = some (.int .i64 S2) := cell_of_row _ _ _ _ _ _ I2.out
  have I2_1 : V4.cell? ⟨V3.heap.size, 1, none⟩ = some (.int .i64 N2) := cell_of_row _ _ _ _ _ _ I2.out
  have zA1 := lt_of_heap A1.out
  have zD1 := lt_of_heap D1.out
  have zI1 := lt_of_heap I1.out
  have zJ1 := lt_of_heap J1.out
  have zI2 := lt_of_heap I2.out
  go_simp
  go_wp2_with fail
  refine (H5.out _).mono ?_
  rintro e V5 ⟨rfl, hb5⟩
  clear A1_0 A1_1 zA1 D1_0 D1_1 zD1 I1_0 I1_1 zI1 J1_0 J1_1 zJ1 I2_0 I2_1 zI2
  have nA1J2 := Lib.hid (lt_of_heap A1.out)
  have nD1J2 := Lib.hid (lt_of_heap D1.out)
  have nI1J2 := Lib.hid (lt_of_heap I1.out)
  have nJ1J2 := Lib.hid (lt_of_heap J1.out)
  have nI2J2 := Lib.hid (lt_of_heap I2.out)
  have B5 := Lib.hid (((B4.out).alloc (B4.out.size) _).trans (hb5.mono (by have := B4.out.size; first | assumption | (simp <;> omega) | (simp; done))))
  replace A1 := Lib.hid (row_call hb5 (row_alloc A1.out _))
  replace D1 := Lib.hid (row_call hb5 (row_alloc D1.out _))
  replace I1 := Lib.hid (row_call hb5 (row_alloc I1.out _))
  replace J1 := Lib.hid (row_call hb5 (row_alloc J1.out _))
  replace I2 := Lib.hid (row_call hb5 (row_alloc I2.out _))
  have J2 := Lib.hid (row_call hb5 (heap_alloc_new _ _))
  clear hb5
  have A1_0 : V5.cell? ⟨w.heap.size, 0, none⟩ = some (.int .i64 s) := cell_of_row _ _ _ _ _ _ A1.out
  have A1_1 : V5.cell? ⟨w.heap.size, 1, none⟩ = some (.int .i64 n) := cell_of_row _ _ _ _ _ _ A1.out
  have D1_0 : V5.cell? ⟨w.heap.size + 1, 0, none⟩ = some (.int .i64 d) := cell_of_row _ _ _ _ _ _ D1.out
  have D1_1 : V5.cell? ⟨w.heap.size + 1, 1, none⟩ = some (.int .i64 m) := cell_of_row _ _ _ _ _ _ D1.out
  have I1_0 : V5.cell? ⟨V1.heap.size, 0, none⟩ = some (.int .i64 S1) := cell_of_row _ _ _ _ _ _ I1.out
  have I1_1 : V5.cell? ⟨V1.heap.size, 1, none⟩ = some (.int .i64 N1) := cell_of_row _ _ _ _ _ _ I1.out
  have J1_0 : V5.cell? ⟨V2.heap.size, 0, none⟩ = some (.int .i64 s) := cell_of_row _ _ _ _ _ _ J1.out
  have J1_1 : V5.cell? ⟨V2.heap.size, 1, none⟩ = some (.int .i64 n) := cell_of_row _ _ _ _ _ _ J1.out
  have I2_0 : V5.cell? ⟨V3.heap.size, 0, none⟩ = some (.int .i64 S2) := cell_of_row _ _ _ _ _ _ I2.out
  have I2_1 : V5.cell? ⟨V3.heap.size, 1, none⟩ = some (.int .i64 N2) := cell_of_row _ _ _ _ _ _ I2.out
  have J2_0 : V5.cell? ⟨V4.heap.size, 0, none⟩ = some (.int .i64 s) := cell_of_row _ _ _ _ _ _ J2.out
  have J2_1 : V5.cell? ⟨V4.heap.size, 1, none⟩ = some (.int .i64 n) := cell_of_row _ _ _ _ _ _ J2.out
  have zA1 := lt_of_heap A1.out
  have zD1 := lt_of_heap D1.out
  have zI1 := lt_of_heap I1.out
  have zJ1 := lt_of_heap J1.out
  have zI2 := lt_of_heap I2.out
  have zJ2 := lt_of_heap J2.out
  go_simp
  go_wp2_with fail
  refine (H6.out _).mono ?_
  rintro e V6 ⟨rfl, hb6⟩
  clear A1_0 A1_1 zA1 D1_0 D1_1 zD1 I1_0 I1_1 zI1 J1_0 J1_1 zJ1 I2_0 I2_1 zI2 J2_0 J2_1 zJ2
  have nA1I3 := Lib.hid (lt_of_heap A1.out)
  have nD1I3 := Lib.hid (lt_of_heap D1.out)
  have nI1I3 := Lib.hid (lt_of_heap I1.out)
  have nJ1I3 := Lib.hid (lt_of_heap J1.out)
  have nI2I3 := Lib.hid (lt_of_heap I2.out)
  have nJ2I3 := Lib.hid (lt_of_heap J2.out)
  have B6 := Lib.hid (((B5.out).alloc (B5.out.size) _).trans (hb6.mono (by have := B5.out.size; first | assumption | (simp <;> omega) | (simp; done))))
  replace A1 := Lib.hid (row_call hb6 (row_alloc A1.out _))
  replace D1 := Lib.hid (row_call hb6 (row_alloc D1.out _))
  replace I1 := Lib.hid (row_call hb6 (row_alloc I1.out _))
  replace J1 := Lib.hid (row_call hb6 (row_alloc J1.out _))
  replace I2 := Lib.hid (row_call hb6 (row_alloc I2.out _))
  replace J2 := Lib.hid (row_call hb6 (row_alloc J2.out _))
  have I3 := Lib.hid (row_call hb6 (heap_alloc_new _ _))
  clear hb6
  have A1_0 : V6.cell? ⟨w.heap.size, 0, none⟩ = some (.int .i64 s) := cell_of_row _ _ _ _ _ _ A1.out
  have A1_1 : V6.cell? ⟨w.heap.size, 1, none⟩ = some (.int .i64 n) := cell_of_row _ _ _ _ _ _ A1.out
  have D1_0 : V6.cell? ⟨w.heap.size + 1, 0, none⟩ = some (.int .i64 d) := cell_of_row _ _ _ _ _ _ D1.out
  have D1_1 : V6.cell? ⟨w.heap.size + 1, 1, none⟩ = some (.int .i64 m) := cell_of_row _ _ _ _ _ _ D1.out
  have I1_0 : V6.cell? ⟨V1.heap.size, 0, none⟩ = some (.int .i64 S1) := cell_of_row _ _ _ _ _ _ I1.out
  have I1_1 : V6.cell? ⟨V1.heap.size, 1, none⟩ = some (.int .i64 N1) := cell_of_row _ _ _ _ _ _ I1.out
  have J1_0 : V6.cell? ⟨V2.heap.size, 0, none⟩ = some (.int .i64 s) := cell_of_row _ _ _ _ _ _ J1.out
  have J1_1 : V6.cell? ⟨V2.heap.size, 1, none⟩ = some (.int .i64 n) := cell_of_row _ _ _ _ _ _ J1.out
  have I2_0 : V6.cell? ⟨V3.heap.size, 0, none⟩ = some (.int .i64 S2) := cell_of_row _ _ _ _ _ _ I2.out
  have I2_1 : V6.cell? ⟨V3.heap.size, 1, none⟩ = some (.int .i64 N2) := cell_of_row _ _ _ _ _ _ I2.out
  have J2_0 : V6.cell? ⟨V4.heap.size, 0, none⟩ = some (.int .i64 s) := cell_of_row _ _ _ _ _ _ J2.out
  have J2_1 : V6.cell? ⟨V4.heap.size, 1, none⟩ = some (.int .i64 n) := cell_of_row _ _ _ _ _ _ J2.out
  have I3_0 : V6.cell? ⟨V5.heap.size, 0, none⟩ = some (.int .i64 S3) := cell_of_row _ _ _ _ _ _ I3.out
  have I3_1 : V6.cell? ⟨V5.heap.size, 1, none⟩ = some (.int .i64 N3) := cell_of_row _ _ _ _ _ _ I3.out
  have zA1 := lt_of_heap A1.out
  have zD1 := lt_of_heap D1.out
  have zI1 := lt_of_heap I1.out
  have zJ1 := lt_of_heap J1.out
  have zI2 := lt_of_heap I2.out
  have zJ2 := lt_of_heap J2.out
  have zI3 := lt_of_heap I3.out
  go_simp
  go_wp2_with fail
  refine (H9.out _).mono ?_
  rintro e V7 ⟨rfl, hb7⟩
  clear A1_0 A1_1 zA1 D1_0 D1_1 zD1 I1_0 I1_1 zI1 J1_0 J1_1 zJ1 I2_0 I2_1 zI2 J2_0 J2_1 zJ2 I3_0 I3_1 zI3
  have nA1J3 := Lib.hid (lt_of_heap A1.out)
  have nD1J3 := Lib.hid (lt_of_heap D1.out)
  have nI1J3 := Lib.hid (lt_of_heap I1.out)
  have nJ1J3 := Lib.hid (lt_of_heap J1.out)
  have nI2J3 := Lib.hid (lt_of_heap I2.out)
  have nJ2J3 := Lib.hid (lt_of_heap J2.out)
  have nI3J3 := Lib.hid (lt_of_heap I3.out)
  have B7 := Lib.hid (((B6.out).alloc (B6.out.size) _).trans (hb7.mono (by have := B6.out.size; first | assumption | (simp <;> omega) | (simp; done))))
  replace A1 := Lib.hid (row_call hb7 (row_alloc A1.out _))
  replace D1 := Lib.hid (row_call hb7 (row_alloc D1.out _))
  replace I1 := Lib.hid (row_call hb7 (row_alloc I1.out _))
  replace J1 := Lib.hid (row_call hb7 (row_alloc J1.out _))
  replace I2 := Lib.hid (row_call hb7 (row_alloc I2.out _))
  replace J2 := Lib.hid (row_call hb7 (row_alloc J2.out _))
  replace I3 := Lib.hid (row_call hb7 (row_alloc I3.out _))
  have J3 := Lib.hid (row_call hb7 (heap_alloc_new _ _))
  clear hb7
  have A1_0 : V7.cell? ⟨w.heap.size, 0, none⟩ = some (.int .i64 s) := cell_of_row _ _ _ _ _ _ A1.out
  have A1_1 : V7.cell? ⟨w.heap.size, 1, none⟩ = some (.int .i64 n) := cell_of_row _ _ _ _ _ _ A1.out
  have D1_0 : V7.cell? ⟨w.heap.size + 1, 0, none⟩ = some (.int .i64 d) := cell_of_row _ _ _ _ _ _ D1.out
  have D1_1 : V7.cell? ⟨w.heap.size + 1, 1, none⟩ = some (.int .i64 m) := cell_of_row _ _ _ _ _ _ D1.out
  have I1_0 : V7.cell? ⟨V1.heap.size, 0, none⟩ = some (.int .i64 S1) := cell_of_row _ _ _ _ _ _ I1.out
  have I1_1 : V7.cell? ⟨V1.heap.size, 1, none⟩ = some (.int .i64 N1) := cell_of_row _ _ _ _ _ _ I1.out
  have J1_0 : V7.cell? ⟨V2.heap.size, 0, none⟩ = some (.int .i64 s) := cell_of_row _ _ _ _ _ _ J1.out
  have J1_1 : V7.cell? ⟨V2.heap.size, 1, none⟩ = some (.int .i64 n) := cell_of_row _ _ _ _ _ _ J1.out
  have I2_0 : V7.cell? ⟨V3.heap.size, 0, none⟩ = some (.int .i64 S2) := cell_of_row _ _ _ _ _ _ I2.out
  have I2_1 : V7.cell? ⟨V3.heap.size, 1, none⟩ = some (.int .i64 N2) := cell_of_row _ _ _ _ _ _ I2.out
  have J2_0 : V7.cell? ⟨V4.heap.size, 0, none⟩ = some (.int .i64 s) := cell_of_row _ _ _ _ _ _ J2.out
  have J2_1 : V7.cell? ⟨V4.heap.size, 1, none⟩ = some (.int .i64 n) := cell_of_row _ _ _ _ _ _ J2.out
  have I3_0 : V7.cell? ⟨V5.heap.size, 0, none⟩ = some (.int .i64 S3) := cell_of_row _ _ _ _ _ _ I3.out
  have I3_1 : V7.cell? ⟨V5.heap.size, 1, none⟩ = some (.int .i64 N3) := cell_of_row _ _ _ _ _ _ I3.out
  have J3_0 : V7.cell? ⟨V6.heap.size, 0, none⟩ = some (.int .i64 s) := cell_of_row _ _ _ _ _ _ J3.out
  have J3_1 : V7.cell? ⟨V6.heap.size, 1, none⟩ = some (.int .i64 n) := cell_of_row _ _ _ _ _ _ J3.out
  have zA1 := lt_of_heap A1.out
  have zD1 := lt_of_heap D1.out
  have zI1 := lt_of_heap I1.out
  have zJ1 := lt_of_heap J1.out
  have zI2 := lt_of_heap I2.out
  have zJ2 := lt_of_heap J2.out
  have zI3 := lt_of_heap I3.out
  have zJ3 := lt_of_heap J3.out
  go_simp
  go_wp2
  go_ret
  exact ⟨rfl, by first | exact B7.out | exact B7.out.alloc B7.out.size _⟩
theorem durBack_walk (s n d m f : Int) (bs : in64 s) (bn : in64 n) (bd : in64 d) (bm : in64 m) (bf : in64 f) (w : World) :
    Calls Try.prog 7 #[.agg #[.int .i64 s, .int .i64 n], .agg #[.int .i64 d, .int .i64 m], .int .i64 f] w fun e w' => e = .returned (.bool true) ∧ Below w.heap.size w w' := by
  have X1 := dAdd_any s n d m
  have X3 := dMul_any s n f bf
  have X5 := dNeg_any s n
  by_cases h1 : dpE (fsI (ckD s n) (ckD d m)) (nanos s n + nanos d m) = 0
  · obtain ⟨p1, p2, p3⟩ := back_add h1 _ _ rfl rfl
    have X2 := dSub_any (dpS (fsI (ckD s n) (ckD d m)) (nanos s n + nanos d m)) (dpN (fsI (ckD s n) (ckD d m)) (nanos s n + nanos d m)) d m
    rw [p1, p2, p3] at X2
    rw [h1] at X1
    by_cases h2 : dpE (ckD s n) (f * nanos s n) = 0
    · rw [h2] at X3
      by_cases h0 : f = 0
      · subst h0
        by_cases h3 : dpE (ckD s n) (-nanos s n) = 0
        · obtain ⟨r1, r2, r3⟩ := back_neg h3 _ _ rfl rfl
          have X6 := dNeg_any (dpS (ckD s n) (-nanos s n)) (dpN (ckD s n) (-nanos s n))
          rw [r1, r2, r3] at X6
          rw [h3] at X5
          exact durBack_111 s n d m 0 _ _ 0 _ _ 0 _ _ 0 (Lib.hid X1) (Lib.hid X2) (Lib.hid X3) (Lib.hid X5) (Lib.hid X6) w
        · have f4 := beq_eq_false_iff_ne.mpr h3
          exact durBack_110 s n d m 0 _ _ 0 _ _ 0 _ _ _ (Lib.hid X1) (Lib.hid X2) (Lib.hid X3) (Lib.hid X5) f4 w
      · obtain ⟨q1, q2, q3⟩ := back_mul h2 h0 _ _ rfl rfl
        have X4 := dDiv_any (dpS (ckD s n) (f * nanos s n)) (dpN (ckD s n) (f * nanos s n)) f bf
        rw [q1, q2, q3] at X4
        by_cases h3 : dpE (ckD s n) (-nanos s n) = 0
        · obtain ⟨r1, r2, r3⟩ := back_neg h3 _ _ rfl rfl
          have X6 := dNeg_any (dpS (ckD s n) (-nanos s n)) (dpN (ckD s n) (-nanos s n))
          rw [r1, r2, r3] at X6
          rw [h3] at X5
          exact durBack_121 s n d m f _ _ 0 _ _ 0 _ _ 0 (Lib.hid X1) (Lib.hid X2) (Lib.hid X3) (Lib.hid X4) (bne_iff_ne.mpr h0) (Lib.hid X5) (Lib.hid X6) w
        · have f4 := beq_eq_false_iff_ne.mpr h3
          exact durBack_120 s n d m f _ _ 0 _ _ 0 _ _ _ (Lib.hid X1) (Lib.hid X2) (Lib.hid X3) (Lib.hid X4) (bne_iff_ne.mpr h0) (Lib.hid X5) f4 w
    · have f2 := beq_eq_false_iff_ne.mpr h2
      by_cases h3 : dpE (ckD s n) (-nanos s n) = 0
      · obtain ⟨r1, r2, r3⟩ := back_neg h3 _ _ rfl rfl
        have X6 := dNeg_any (dpS (ckD s n) (-nanos s n)) (dpN (ckD s n) (-nanos s n))
        rw [r1, r2, r3] at X6
        rw [h3] at X5
        exact durBack_101 s n d m f _ _ 0 _ _ _ _ _ 0 (Lib.hid X1) (Lib.hid X2) (Lib.hid X3) f2 (Lib.hid X5) (Lib.hid X6) w
      · have f4 := beq_eq_false_iff_ne.mpr h3
        exact durBack_100 s n d m f _ _ 0 _ _ _ _ _ _ (Lib.hid X1) (Lib.hid X2) (Lib.hid X3) f2 (Lib.hid X5) f4 w
  · have f1 := beq_eq_false_iff_ne.mpr h1
    by_cases h2 : dpE (ckD s n) (f * nanos s n) = 0
    · rw [h2] at X3
      by_cases h0 : f = 0
      · subst h0
        by_cases h3 : dpE (ckD s n) (-nanos s n) = 0
        · obtain ⟨r1, r2, r3⟩ := back_neg h3 _ _ rfl rfl
          have X6 := dNeg_any (dpS (ckD s n) (-nanos s n)) (dpN (ckD s n) (-nanos s n))
          rw [r1, r2, r3] at X6
          rw [h3] at X5
          exact durBack_011 s n d m 0 _ _ _ _ _ 0 _ _ 0 (Lib.hid X1) f1 (Lib.hid X3) (Lib.hid X5) (Lib.hid X6) w
        · have f4 := beq_eq_false_iff_ne.mpr h3
          exact durBack_010 s n d m 0 _ _ _ _ _ 0 _ _ _ (Lib.hid X1) f1 (Lib.hid X3) (Lib.hid X5) f4 w
      · obtain ⟨q1, q2, q3⟩ := back_mul h2 h0 _ _ rfl rfl
        have X4 := dDiv_any (dpS (ckD s n) (f * nanos s n)) (dpN (ckD s n) (f * nanos s n)) f bf
        rw [q1, q2, q3] at X4
        by_cases h3 : dpE (ckD s n) (-nanos s n) = 0
        · obtain ⟨r1, r2, r3⟩ := back_neg h3 _ _ rfl rfl
          have X6 := dNeg_any (dpS (ckD s n) (-nanos s n)) (dpN (ckD s n) (-nanos s n))
          rw [r1, r2, r3] at X6
          rw [h3] at X5
          exact durBack_021 s n d m f _ _ _ _ _ 0 _ _ 0 (Lib.hid X1) f1 (Lib.hid X3) (Lib.hid X4) (bne_iff_ne.mpr h0) (Lib.hid X5) (Lib.hid X6) w
        · have f4 := beq_eq_false_iff_ne.mpr h3
          exact durBack_020 s n d m f _ _ _ _ _ 0 _ _ _ (Lib.hid X1) f1 (Lib.hid X3) (Lib.hid X4) (bne_iff_ne.mpr h0) (Lib.hid X5) f4 w
    · have f2 := beq_eq_false_iff_ne.mpr h2
      by_cases h3 : dpE (ckD s n) (-nanos s n) = 0
      · obtain ⟨r1, r2, r3⟩ := back_neg h3 _ _ rfl rfl
        have X6 := dNeg_any (dpS (ckD s n) (-nanos s n)) (dpN (ckD s n) (-nanos s n))
        rw [r1, r2, r3] at X6
        rw [h3] at X5
        exact durBack_001 s n d m f _ _ _ _ _ _ _ _ 0 (Lib.hid X1) f1 (Lib.hid X3) f2 (Lib.hid X5) (Lib.hid X6) w
      · have f4 := beq_eq_false_iff_ne.mpr h3
        exact durBack_000 s n d m f _ _ _ _ _ _ _ _ _ (Lib.hid X1) f1 (Lib.hid X3) f2 (Lib.hid X5) f4 w
end Go.Proofs.Ytjgpjphffjjhdaa
