/- The walk of CivilBack: a date there and back, the next day. -/
import Derived.Test.YtbphbkllbdoldaaDoorCivJ
namespace Go.Proofs.YtbphbkllbdoldaaDoor
set_option linter.unusedVariables false
set_option linter.unusedSimpArgs false
open Go.ChangeShapes Go.WideShapes Go.ChangeAt Go.RowKit

set_option maxHeartbeats 3200000 in
set_option maxRecDepth 100000 in
theorem back_err (y m d : Int) (hc : ckC y m d ≠ 0) (w : World) (hM : MD w) : Calls Tryd.prog 6 #[.agg #[.int .i64 y, .int .i64 m, .int .i64 d]] w fun e w' => e = .returned (.bool true) ∧ Below w.heap.size w w' := by
  have X1 := pDays_any y m d
  rw [(dy_no hc).1] at X1
  have H1 := Lib.hid X1
  have H7 := Lib.hid awake6_any
  replace hM := Lib.hid hM
  clear X1
  generalize ckC y m d = E at *
  have f1 : (E != 0) = true := by rw [bne_iff_ne]; exact hc
  go_enter Tryd.func6, Tryd.ntmps6
  go_wp2_with fail
  
  refine (H1.out _ (by first | exact md_keep hM ((Below.refl w.heap.size w).alloc (Nat.le_refl _) _))).mono ?_
  rintro e V1 ⟨rfl, hb1⟩
  have B1 := Lib.hid (((Below.refl w.heap.size w).alloc (Nat.le_refl _) _).trans (hb1.mono (by first | assumption | (simp <;> omega) | (simp; done))))
  have A1 := Lib.hid (row_call hb1 (heap_alloc_new _ _))
  clear hb1
  have A1_0 : V1.cell? ⟨w.heap.size, 0, none⟩ = some (.int .i64 y) := cell_of_row _ _ _ _ _ _ A1.out
  have A1_1 : V1.cell? ⟨w.heap.size, 1, none⟩ = some (.int .i64 m) := cell_of_row _ _ _ _ _ _ A1.out
  have A1_2 : V1.cell? ⟨w.heap.size, 2, none⟩ = some (.int .i64 d) := cell_of_row _ _ _ _ _ _ A1.out
  have zA1 := lt_of_heap A1.out
  go_simp
  go_wp2_with fail
  refine (H7.out _ (by first | exact md_keep hM (B1.out) | exact md_keep hM ((B1.out).alloc (B1.out.size) _) | exact md_keep hM (((B1.out).alloc (B1.out.size) _).alloc (by have := B1.out.size; simp <;> omega) _) | exact md_keep hM ((((B1.out).alloc (B1.out.size) _).alloc (by have := B1.out.size; simp <;> omega) _).alloc (by have := B1.out.size; simp <;> omega) _))).mono ?_
  rintro e V2 ⟨rfl, hb2⟩
  clear A1_0 A1_1 A1_2 zA1
  have B2 : Hid (Below w.heap.size w V2) := by first | exact Lib.hid ((B1.out).trans (hb2.mono (by have := B1.out.size; first | assumption | (simp <;> omega) | (simp; done)))) | exact Lib.hid (((B1.out).alloc (B1.out.size) _).trans (hb2.mono (by have := B1.out.size; first | assumption | (simp <;> omega) | (simp; done)))) | exact Lib.hid ((((B1.out).alloc (B1.out.size) _).alloc (by have := B1.out.size; simp <;> omega) _).trans (hb2.mono (by have := B1.out.size; first | assumption | (simp <;> omega) | (simp; done)))) | exact Lib.hid (((((B1.out).alloc (B1.out.size) _).alloc (by have := B1.out.size; simp <;> omega) _).alloc (by have := B1.out.size; simp <;> omega) _).trans (hb2.mono (by have := B1.out.size; first | assumption | (simp <;> omega) | (simp; done))))
  first | replace A1 := Lib.hid (row_call hb2 A1.out) | replace A1 := Lib.hid (row_call hb2 (row_alloc A1.out _)) | replace A1 := Lib.hid (row_call hb2 (row_alloc (row_alloc A1.out _) _)) | replace A1 := Lib.hid (row_call hb2 (row_alloc (row_alloc (row_alloc A1.out _) _) _))
  clear hb2
  have A1_0 : V2.cell? ⟨w.heap.size, 0, none⟩ = some (.int .i64 y) := cell_of_row _ _ _ _ _ _ A1.out
  have A1_1 : V2.cell? ⟨w.heap.size, 1, none⟩ = some (.int .i64 m) := cell_of_row _ _ _ _ _ _ A1.out
  have A1_2 : V2.cell? ⟨w.heap.size, 2, none⟩ = some (.int .i64 d) := cell_of_row _ _ _ _ _ _ A1.out
  have zA1 := lt_of_heap A1.out
  go_simp
  go_wp2
  go_ret
  exact ⟨rfl, by first | exact B2.out | exact B2.out.alloc B2.out.size _⟩
/-- what the law asks of a date that is, with its next day. -/
structure BackH (y m d n o : Int) : Prop where
  h1 : ∀ w, MD w → Calls Tryd.prog 13 #[.agg #[.int .i64 y, .int .i64 m, .int .i64 d]] w fun e w' => e = .returned (.tuple #[.int .i64 n, .int .i64 0]) ∧ Below w.heap.size w w'
  h2 : ∀ w, MD w → Calls Tryd.prog 19 #[.int .i64 n] w fun e w' => e = .returned (.tuple #[.agg #[.int .i64 y, .int .i64 m, .int .i64 d], .int .i64 0]) ∧ Below w.heap.size w w'
  h3 : ∀ w, MD w → Calls Tryd.prog 15 #[.agg #[.int .i64 y, .int .i64 m, .int .i64 d]] w fun e w' => e = .returned (.tuple #[.int .i64 o, .int .i64 0]) ∧ Below w.heap.size w w'
  h4 : ∀ w, MD w → Calls Tryd.prog 21 #[.int .i64 y, .int .i64 o] w fun e w' => e = .returned (.tuple #[.agg #[.int .i64 y, .int .i64 m, .int .i64 d], .int .i64 0]) ∧ Below w.heap.size w w'
theorem back_h {y m d : Int} (hc : ckC y m d = 0) : BackH y m d (dnI y m d) (orV y m d) ∧ mayB y m d = true ∧ -9999 ≤ y ∧ y ≤ 9999 ∧ -4371587 ≤ dnI y m d ∧ dnI y m d ≤ 2932896 := by
  obtain ⟨hm, y1, y2⟩ := of_ckC hc
  have e := dn_in hm
  have p := mayB_yes hm
  have s1 := yst_mono y1
  have s3 := yst_succ y
  have s4 := yst_bounds
  have s6 := ydI_bd y
  have s8 := yst_mono (show y + 1 ≤ 10000 by omega)
  have ho := (dy_ok hc).2
  have X1 := pDays_any y m d
  have X3 := pOrdinal_any y m d
  rw [hc, (dy_ok hc).1] at X1
  rw [hc] at X3
  exact ⟨⟨X1, pDateOf_any y m d hm y1 y2, X3, pOfOrdinal_any y (orV y m d) m d (by omega) (by omega) y1 y2 hm (by omega)⟩, hm, y1, y2, by omega, by omega⟩
set_option maxHeartbeats 3200000 in
set_option maxRecDepth 100000 in
theorem back_last (y m d o : Int) (h : BackH y m d 2932896 o) (w : World) (hM : MD w) : Calls Tryd.prog 6 #[.agg #[.int .i64 y, .int .i64 m, .int .i64 d]] w fun e w' => e = .returned (.bool true) ∧ Below w.heap.size w w' := by
  have H1 := Lib.hid h.h1
  have H2 := Lib.hid h.h2
  have H3 := Lib.hid h.h3
  have H4 := Lib.hid h.h4
  have H5 := Lib.hid (pDateOf_out 2932897 (Or.inr (by decide)))
  have H7 := Lib.hid awake6_any
  clear h
  replace hM := Lib.hid hM
  go_enter Tryd.func6, Tryd.ntmps6
  go_wp2_with fail
  
  refine (H1.out _ (by first | exact md_keep hM ((Below.refl w.heap.size w).alloc (Nat.le_refl _) _))).mono ?_
  rintro e V1 ⟨rfl, hb1⟩
  have B1 := Lib.hid (((Below.refl w.heap.size w).alloc (Nat.le_refl _) _).trans (hb1.mono (by first | assumption | (simp <;> omega) | (simp; done))))
  have A1 := Lib.hid (row_call hb1 (heap_alloc_new _ _))
  clear hb1
  have A1_0 : V1.cell? ⟨w.heap.size, 0, none⟩ = some (.int .i64 y) := cell_of_row _ _ _ _ _ _ A1.out
  have A1_1 : V1.cell? ⟨w.heap.size, 1, none⟩ = some (.int .i64 m) := cell_of_row _ _ _ _ _ _ A1.out
  have A1_2 : V1.cell? ⟨w.heap.size, 2, none⟩ = some (.int .i64 d) := cell_of_row _ _ _ _ _ _ A1.out
  have zA1 := lt_of_heap A1.out
  go_simp
  go_wp2_with fail
  refine (H2.out _ (by first | exact md_keep hM (B1.out) | exact md_keep hM ((B1.out).alloc (B1.out.size) _) | exact md_keep hM (((B1.out).alloc (B1.out.size) _).alloc (by have := B1.out.size; simp <;> omega) _) | exact md_keep hM ((((B1.out).alloc (B1.out.size) _).alloc (by have := B1.out.size; simp <;> omega) _).alloc (by have := B1.out.size; simp <;> omega) _))).mono ?_
  rintro e V2 ⟨rfl, hb2⟩
  clear A1_0 A1_1 A1_2 zA1
  have B2 : Hid (Below w.heap.size w V2) := by first | exact Lib.hid ((B1.out).trans (hb2.mono (by have := B1.out.size; first | assumption | (simp <;> omega) | (simp; done)))) | exact Lib.hid (((B1.out).alloc (B1.out.size) _).trans (hb2.mono (by have := B1.out.size; first | assumption | (simp <;> omega) | (simp; done)))) | exact Lib.hid ((((B1.out).alloc (B1.out.size) _).alloc (by have := B1.out.size; simp <;> omega) _).trans (hb2.mono (by have := B1.out.size; first | assumption | (simp <;> omega) | (simp; done)))) | exact Lib.hid (((((B1.out).alloc (B1.out.size) _).alloc (by have := B1.out.size; simp <;> omega) _).alloc (by have := B1.out.size; simp <;> omega) _).trans (hb2.mono (by have := B1.out.size; first | assumption | (simp <;> omega) | (simp; done))))
  first | replace A1 := Lib.hid (row_call hb2 A1.out) | replace A1 := Lib.hid (row_call hb2 (row_alloc A1.out _)) | replace A1 := Lib.hid (row_call hb2 (row_alloc (row_alloc A1.out _) _)) | replace A1 := Lib.hid (row_call hb2 (row_alloc (row_alloc (row_alloc A1.out _) _) _))
  clear hb2
  have A1_0 : V2.cell? ⟨w.heap.size, 0, none⟩ = some (.int .i64 y) := cell_of_row _ _ _ _ _ _ A1.out
  have A1_1 : V2.cell? ⟨w.heap.size, 1, none⟩ = some (.int .i64 m) := cell_of_row _ _ _ _ _ _ A1.out
  have A1_2 : V2.cell? ⟨w.heap.size, 2, none⟩ = some (.int .i64 d) := cell_of_row _ _ _ _ _ _ A1.out
  have zA1 := lt_of_heap A1.out
  go_simp
  go_wp2_with fail
  refine (H3.out _ (by first | exact md_keep hM ((B2.out).alloc (B2.out.size) _))).mono ?_
  rintro e V3 ⟨rfl, hb3⟩
  clear A1_0 A1_1 A1_2 zA1
  have nA1I1 := Lib.hid (lt_of_heap A1.out)
  have B3 := Lib.hid (((B2.out).alloc (B2.out.size) _).trans (hb3.mono (by have := B2.out.size; first | assumption | (simp <;> omega) | (simp; done))))
  replace A1 := Lib.hid (row_call hb3 (row_alloc A1.out _))
  have I1 := Lib.hid (row_call hb3 (heap_alloc_new _ _))
  clear hb3
  have A1_0 : V3.cell? ⟨w.heap.size, 0, none⟩ = some (.int .i64 y) := cell_of_row _ _ _ _ _ _ A1.out
  have A1_1 : V3.cell? ⟨w.heap.size, 1, none⟩ = some (.int .i64 m) := cell_of_row _ _ _ _ _ _ A1.out
  have A1_2 : V3.cell? ⟨w.heap.size, 2, none⟩ = some (.int .i64 d) := cell_of_row _ _ _ _ _ _ A1.out
  have I1_0 : V3.cell? ⟨V2.heap.size, 0, none⟩ = some (.int .i64 y) := cell_of_row _ _ _ _ _ _ I1.out
  have I1_1 : V3.cell? ⟨V2.heap.size, 1, none⟩ = some (.int .i64 m) := cell_of_row _ _ _ _ _ _ I1.out
  have I1_2 : V3.cell? ⟨V2.heap.size, 2, none⟩ = some (.int .i64 d) := cell_of_row _ _ _ _ _ _ I1.out
  have zA1 := lt_of_heap A1.out
  have zI1 := lt_of_heap I1.out
  go_simp
  go_wp2_with fail
  refine (H4.out _ (by first | exact md_keep hM (B3.out) | exact md_keep hM ((B3.out).alloc (B3.out.size) _) | exact md_keep hM (((B3.out).alloc (B3.out.size) _).alloc (by have := B3.out.size; simp <;> omega) _) | exact md_keep hM ((((B3.out).alloc (B3.out.size) _).alloc (by have := B3.out.size; simp <;> omega) _).alloc (by have := B3.out.size; simp <;> omega) _))).mono ?_
  rintro e V4 ⟨rfl, hb4⟩
  clear A1_0 A1_1 A1_2 zA1 I1_0 I1_1 I1_2 zI1
  have B4 : Hid (Below w.heap.size w V4) := by first | exact Lib.hid ((B3.out).trans (hb4.mono (by have := B3.out.size; first | assumption | (simp <;> omega) | (simp; done)))) | exact Lib.hid (((B3.out).alloc (B3.out.size) _).trans (hb4.mono (by have := B3.out.size; first | assumption | (simp <;> omega) | (simp; done)))) | exact Lib.hid ((((B3.out).alloc (B3.out.size) _).alloc (by have := B3.out.size; simp <;> omega) _).trans (hb4.mono (by have := B3.out.size; first | assumption | (simp <;> omega) | (simp; done)))) | exact Lib.hid (((((B3.out).alloc (B3.out.size) _).alloc (by have := B3.out.size; simp <;> omega) _).alloc (by have := B3.out.size; simp <;> omega) _).trans (hb4.mono (by have := B3.out.size; first | assumption | (simp <;> omega) | (simp; done))))
  first | replace A1 := Lib.hid (row_call hb4 A1.out) | replace A1 := Lib.hid (row_call hb4 (row_alloc A1.out _)) | replace A1 := Lib.hid (row_call hb4 (row_alloc (row_alloc A1.out _) _)) | replace A1 := Lib.hid (row_call hb4 (row_alloc (row_alloc (row_alloc A1.out _) _) _))
  first | replace I1 := Lib.hid (row_call hb4 I1.out) | replace I1 := Lib.hid (row_call hb4 (row_alloc I1.out _)) | replace I1 := Lib.hid (row_call hb4 (row_alloc (row_alloc I1.out _) _)) | replace I1 := Lib.hid (row_call hb4 (row_alloc (row_alloc (row_alloc I1.out _) _) _))
  clear hb4
  have A1_0 : V4.cell? ⟨w.heap.size, 0, none⟩ = some (.int .i64 y) := cell_of_row _ _ _ _ _ _ A1.out
  have A1_1 : V4.cell? ⟨w.heap.size, 1, none⟩ = some (.int .i64 m) := cell_of_row _ _ _ _ _ _ A1.out
  have A1_2 : V4.cell? ⟨w.heap.size, 2, none⟩ = some (.int .i64 d) := cell_of_row _ _ _ _ _ _ A1.out
  have I1_0 : V4.cell? ⟨V2.heap.size, 0, none⟩ = some (.int .i64 y) := cell_of_row _ _ _ _ _ _ I1.out
  have I1_1 : V4.cell? ⟨V2.heap.size, 1, none⟩ = some (.int .i64 m) := cell_of_row _ _ _ _ _ _ I1.out
  have I1_2 : V4.cell? ⟨V2.heap.size, 2, none⟩ = some (.int .i64 d) := cell_of_row _ _ _ _ _ _ I1.out
  have zA1 := lt_of_heap A1.out
  have zI1 := lt_of_heap I1.out
  go_simp
  go_wp2_with fail
  refine (H5.out _).mono ?_
  rintro e V5 ⟨rfl, hb5⟩
  clear A1_0 A1_1 A1_2 zA1 I1_0 I1_1 I1_2 zI1
  have nA1J1 := Lib.hid (lt_of_heap A1.out)
  have nI1J1 := Lib.hid (lt_of_heap I1.out)
  have B5 := Lib.hid (((B4.out).alloc (B4.out.size) _).trans (hb5.mono (by have := B4.out.size; first | assumption | (simp <;> omega) | (simp; done))))
  replace A1 := Lib.hid (row_call hb5 (row_alloc A1.out _))
  replace I1 := Lib.hid (row_call hb5 (row_alloc I1.out _))
  have J1 := Lib.hid (row_call hb5 (heap_alloc_new _ _))
  clear hb5
  have A1_0 : V5.cell? ⟨w.heap.size, 0, none⟩ = some (.int .i64 y) := cell_of_row _ _ _ _ _ _ A1.out
  have A1_1 : V5.cell? ⟨w.heap.size, 1, none⟩ = some (.int .i64 m) := cell_of_row _ _ _ _ _ _ A1.out
  have A1_2 : V5.cell? ⟨w.heap.size, 2, none⟩ = some (.int .i64 d) := cell_of_row _ _ _ _ _ _ A1.out
  have I1_0 : V5.cell? ⟨V2.heap.size, 0, none⟩ = some (.int .i64 y) := cell_of_row _ _ _ _ _ _ I1.out
  have I1_1 : V5.cell? ⟨V2.heap.size, 1, none⟩ = some (.int .i64 m) := cell_of_row _ _ _ _ _ _ I1.out
  have I1_2 : V5.cell? ⟨V2.heap.size, 2, none⟩ = some (.int .i64 d) := cell_of_row _ _ _ _ _ _ I1.out
  have J1_0 : V5.cell? ⟨V4.heap.size, 0, none⟩ = some (.int .i64 y) := cell_of_row _ _ _ _ _ _ J1.out
  have J1_1 : V5.cell? ⟨V4.heap.size, 1, none⟩ = some (.int .i64 m) := cell_of_row _ _ _ _ _ _ J1.out
  have J1_2 : V5.cell? ⟨V4.heap.size, 2, none⟩ = some (.int .i64 d) := cell_of_row _ _ _ _ _ _ J1.out
  have zA1 := lt_of_heap A1.out
  have zI1 := lt_of_heap I1.out
  have zJ1 := lt_of_heap J1.out
  go_simp
  go_wp2_with fail
  refine (H7.out _ (by first | exact md_keep hM ((B5.out).alloc (B5.out.size) _))).mono ?_
  rintro e V6 ⟨rfl, hb6⟩
  clear A1_0 A1_1 A1_2 zA1 I1_0 I1_1 I1_2 zI1 J1_0 J1_1 J1_2 zJ1
  have nA1K1 := Lib.hid (lt_of_heap A1.out)
  have nI1K1 := Lib.hid (lt_of_heap I1.out)
  have nJ1K1 := Lib.hid (lt_of_heap J1.out)
  have B6 := Lib.hid (((B5.out).alloc (B5.out.size) _).trans (hb6.mono (by have := B5.out.size; first | assumption | (simp <;> omega) | (simp; done))))
  replace A1 := Lib.hid (row_call hb6 (row_alloc A1.out _))
  replace I1 := Lib.hid (row_call hb6 (row_alloc I1.out _))
  replace J1 := Lib.hid (row_call hb6 (row_alloc J1.out _))
  have K1 := Lib.hid (row_call hb6 (heap_alloc_new _ _))
  clear hb6
  have A1_0 : V6.cell? ⟨w.heap.size, 0, none⟩ = some (.int .i64 y) := cell_of_row _ _ _ _ _ _ A1.out
  have A1_1 : V6.cell? ⟨w.heap.size, 1, none⟩ = some (.int .i64 m) := cell_of_row _ _ _ _ _ _ A1.out
  have A1_2 : V6.cell? ⟨w.heap.size, 2, none⟩ = some (.int .i64 d) := cell_of_row _ _ _ _ _ _ A1.out
  have I1_0 : V6.cell? ⟨V2.heap.size, 0, none⟩ = some (.int .i64 y) := cell_of_row _ _ _ _ _ _ I1.out
  have I1_1 : V6.cell? ⟨V2.heap.size, 1, none⟩ = some (.int .i64 m) := cell_of_row _ _ _ _ _ _ I1.out
  have I1_2 : V6.cell? ⟨V2.heap.size, 2, none⟩ = some (.int .i64 d) := cell_of_row _ _ _ _ _ _ I1.out
  have J1_0 : V6.cell? ⟨V4.heap.size, 0, none⟩ = some (.int .i64 y) := cell_of_row _ _ _ _ _ _ J1.out
  have J1_1 : V6.cell? ⟨V4.heap.size, 1, none⟩ = some (.int .i64 m) := cell_of_row _ _ _ _ _ _ J1.out
  have J1_2 : V6.cell? ⟨V4.heap.size, 2, none⟩ = some (.int .i64 d) := cell_of_row _ _ _ _ _ _ J1.out
  have K1_0 : V6.cell? ⟨V5.heap.size, 0, none⟩ = some (.int .i64 0) := cell_of_row _ _ _ _ _ _ K1.out
  have K1_1 : V6.cell? ⟨V5.heap.size, 1, none⟩ = some (.int .i64 0) := cell_of_row _ _ _ _ _ _ K1.out
  have K1_2 : V6.cell? ⟨V5.heap.size, 2, none⟩ = some (.int .i64 0) := cell_of_row _ _ _ _ _ _ K1.out
  have zA1 := lt_of_heap A1.out
  have zI1 := lt_of_heap I1.out
  have zJ1 := lt_of_heap J1.out
  have zK1 := lt_of_heap K1.out
  go_simp
  go_wp2
  go_ret
  exact ⟨rfl, by first | exact B6.out | exact B6.out.alloc B6.out.size _⟩
set_option maxHeartbeats 6400000 in
set_option maxRecDepth 100000 in
theorem back_same (y m d n o : Int) (h : BackH y m d n o) (y1 : -9999 ≤ y) (y2 : y ≤ 9999) (m1 : 1 ≤ m) (m2 : m ≤ 12) (d1 : 1 ≤ d) (d2 : d ≤ 31) (n1 : -4371587 ≤ n) (n2 : n ≤ 2932896)
    (hz : ∀ w, MD w → Calls Tryd.prog 19 #[.int .i64 (n + 1)] w fun e w' => e = .returned (.tuple #[.agg #[.int .i64 (y), .int .i64 (m), .int .i64 (d + 1)], .int .i64 0]) ∧ Below w.heap.size w w')
    (w : World) (hM : MD w) : Calls Tryd.prog 6 #[.agg #[.int .i64 y, .int .i64 m, .int .i64 d]] w fun e w' => e = .returned (.bool true) ∧ Below w.heap.size w w' := by
  have H1 := Lib.hid h.h1
  have H2 := Lib.hid h.h2
  have H3 := Lib.hid h.h3
  have H4 := Lib.hid h.h4
  have H5 := Lib.hid hz
  have H7 := Lib.hid awake6_any

  have X9 := fun w => grow_of (pWeekday_p (n + 1) w)
  rw [(wd_next n).1] at X9
  have w1 := (wd_next n).2.1
  have w2 := (wd_next n).2.2
  have HA := Lib.hid (fun w => grow_of (pWeekday_p n w))
  have XB := pCmp_any (y) (m) (d + 1) y m d
  have XC := pCmp_any y m d (y) (m) (d + 1)
  have lt : dLt y m d (y) (m) (d + 1) := by unfold dLt; omega
  rw [(ord3_lt lt).2] at XB
  rw [(ord3_lt lt).1] at XC
  have HB := Lib.hid XB
  have HC := Lib.hid XC
  clear h hz XB XC lt
  generalize wdI n = W at *
  have H9 := Lib.hid X9
  clear X9
  replace hM := Lib.hid hM



  have g0 : ¬ d = 0 := by omega
  have g1 : (d + 1 == 1) = false := by rw [beq_eq_false_iff_ne]; omega
  have g2 : decide (d = 0) = false := decide_eq_false g0
  go_enter Tryd.func6, Tryd.ntmps6
  go_wp2_with fail
  
  refine (H1.out _ (by first | exact md_keep hM ((Below.refl w.heap.size w).alloc (Nat.le_refl _) _))).mono ?_
  rintro e V1 ⟨rfl, hb1⟩
  have B1 := Lib.hid (((Below.refl w.heap.size w).alloc (Nat.le_refl _) _).trans (hb1.mono (by first | assumption | (simp <;> omega) | (simp; done))))
  have A1 := Lib.hid (row_call hb1 (heap_alloc_new _ _))
  clear hb1
  have A1_0 : V1.cell? ⟨w.heap.size, 0, none⟩ = some (.int .i64 y) := cell_of_row _ _ _ _ _ _ A1.out
  have A1_1 : V1.cell? ⟨w.heap.size, 1, none⟩ = some (.int .i64 (m)) := cell_of_row _ _ _ _ _ _ A1.out
  have A1_2 : V1.cell? ⟨w.heap.size, 2, none⟩ = some (.int .i64 d) := cell_of_row _ _ _ _ _ _ A1.out
  have zA1 := lt_of_heap A1.out
  go_simp
  go_wp2_with fail
  refine (H2.out _ (by first | exact md_keep hM (B1.out) | exact md_keep hM ((B1.out).alloc (B1.out.size) _) | exact md_keep hM (((B1.out).alloc (B1.out.size) _).alloc (by have := B1.out.size; simp <;> omega) _) | exact md_keep hM ((((B1.out).alloc (B1.out.size) _).alloc (by have := B1.out.size; simp <;> omega) _).alloc (by have := B1.out.size; simp <;> omega) _))).mono ?_
  rintro e V2 ⟨rfl, hb2⟩
  clear A1_0 A1_1 A1_2 zA1
  have B2 : Hid (Below w.heap.size w V2) := by first | exact Lib.hid ((B1.out).trans (hb2.mono (by have := B1.out.size; first | assumption | (simp <;> omega) | (simp; done)))) | exact Lib.hid (((B1.out).alloc (B1.out.size) _).trans (hb2.mono (by have := B1.out.size; first | assumption | (simp <;> omega) | (simp; done)))) | exact Lib.hid ((((B1.out).alloc (B1.out.size) _).alloc (by have := B1.out.size; simp <;> omega) _).trans (hb2.mono (by have := B1.out.size; first | assumption | (simp <;> omega) | (simp; done)))) | exact Lib.hid (((((B1.out).alloc (B1.out.size) _).alloc (by have := B1.out.size; simp <;> omega) _).alloc (by have := B1.out.size; simp <;> omega) _).trans (hb2.mono (by have := B1.out.size; first | assumption | (simp <;> omega) | (simp; done))))
  first | replace A1 := Lib.hid (row_call hb2 A1.out) | replace A1 := Lib.hid (row_call hb2 (row_alloc A1.out _)) | replace A1 := Lib.hid (row_call hb2 (row_alloc (row_alloc A1.out _) _)) | replace A1 := Lib.hid (row_call hb2 (row_alloc (row_alloc (row_alloc A1.out _) _) _))
  clear hb2
  have A1_0 : V2.cell? ⟨w.heap.size, 0, none⟩ = some (.int .i64 y) := cell_of_row _ _ _ _ _ _ A1.out
  have A1_1 : V2.cell? ⟨w.heap.size, 1, none⟩ = some (.int .i64 (m)) := cell_of_row _ _ _ _ _ _ A1.out
  have A1_2 : V2.cell? ⟨w.heap.size, 2, none⟩ = some (.int .i64 d) := cell_of_row _ _ _ _ _ _ A1.out
  have zA1 := lt_of_heap A1.out
  go_simp
  go_wp2_with fail
  refine (H3.out _ (by first | exact md_keep hM ((B2.out).alloc (B2.out.size) _))).mono ?_
  rintro e V3 ⟨rfl, hb3⟩
  clear A1_0 A1_1 A1_2 zA1
  have nA1I1 := Lib.hid (lt_of_heap A1.out)
  have B3 := Lib.hid (((B2.out).alloc (B2.out.size) _).trans (hb3.mono (by have := B2.out.size; first | assumption | (simp <;> omega) | (simp; done))))
  replace A1 := Lib.hid (row_call hb3 (row_alloc A1.out _))
  have I1 := Lib.hid (row_call hb3 (heap_alloc_new _ _))
  clear hb3
  have A1_0 : V3.cell? ⟨w.heap.size, 0, none⟩ = some (.int .i64 y) := cell_of_row _ _ _ _ _ _ A1.out
  have A1_1 : V3.cell? ⟨w.heap.size, 1, none⟩ = some (.int .i64 (m)) := cell_of_row _ _ _ _ _ _ A1.out
  have A1_2 : V3.cell? ⟨w.heap.size, 2, none⟩ = some (.int .i64 d) := cell_of_row _ _ _ _ _ _ A1.out
  have I1_0 : V3.cell? ⟨V2.heap.size, 0, none⟩ = some (.int .i64 y) := cell_of_row _ _ _ _ _ _ I1.out
  have I1_1 : V3.cell? ⟨V2.heap.size, 1, none⟩ = some (.int .i64 (m)) := cell_of_row _ _ _ _ _ _ I1.out
  have I1_2 : V3.cell? ⟨V2.heap.size, 2, none⟩ = some (.int .i64 d) := cell_of_row _ _ _ _ _ _ I1.out
  have zA1 := lt_of_heap A1.out
  have zI1 := lt_of_heap I1.out
  go_simp
  go_wp2_with fail
  refine (H4.out _ (by first | exact md_keep hM (B3.out) | exact md_keep hM ((B3.out).alloc (B3.out.size) _) | exact md_keep hM (((B3.out).alloc (B3.out.size) _).alloc (by have := B3.out.size; simp <;> omega) _) | exact md_keep hM ((((B3.out).alloc (B3.out.size) _).alloc (by have := B3.out.size; simp <;> omega) _).alloc (by have := B3.out.size; simp <;> omega) _))).mono ?_
  rintro e V4 ⟨rfl, hb4⟩
  clear A1_0 A1_1 A1_2 zA1 I1_0 I1_1 I1_2 zI1
  have B4 : Hid (Below w.heap.size w V4) := by first | exact Lib.hid ((B3.out).trans (hb4.mono (by have := B3.out.size; first | assumption | (simp <;> omega) | (simp; done)))) | exact Lib.hid (((B3.out).alloc (B3.out.size) _).trans (hb4.mono (by have := B3.out.size; first | assumption | (simp <;> omega) | (simp; done)))) | exact Lib.hid ((((B3.out).alloc (B3.out.size) _).alloc (by have := B3.out.size; simp <;> omega) _).trans (hb4.mono (by have := B3.out.size; first | assumption | (simp <;> omega) | (simp; done)))) | exact Lib.hid (((((B3.out).alloc (B3.out.size) _).alloc (by have := B3.out.size; simp <;> omega) _).alloc (by have := B3.out.size; simp <;> omega) _).trans (hb4.mono (by have := B3.out.size; first | assumption | (simp <;> omega) | (simp; done))))
  first | replace A1 := Lib.hid (row_call hb4 A1.out) | replace A1 := Lib.hid (row_call hb4 (row_alloc A1.out _)) | replace A1 := Lib.hid (row_call hb4 (row_alloc (row_alloc A1.out _) _)) | replace A1 := Lib.hid (row_call hb4 (row_alloc (row_alloc (row_alloc A1.out _) _) _))
  first | replace I1 := Lib.hid (row_call hb4 I1.out) | replace I1 := Lib.hid (row_call hb4 (row_alloc I1.out _)) | replace I1 := Lib.hid (row_call hb4 (row_alloc (row_alloc I1.out _) _)) | replace I1 := Lib.hid (row_call hb4 (row_alloc (row_alloc (row_alloc I1.out _) _) _))
  clear hb4
  have A1_0 : V4.cell? ⟨w.heap.size, 0, none⟩ = some (.int .i64 y) := cell_of_row _ _ _ _ _ _ A1.out
  have A1_1 : V4.cell? ⟨w.heap.size, 1, none⟩ = some (.int .i64 (m)) := cell_of_row _ _ _ _ _ _ A1.out
  have A1_2 : V4.cell? ⟨w.heap.size, 2, none⟩ = some (.int .i64 d) := cell_of_row _ _ _ _ _ _ A1.out
  have I1_0 : V4.cell? ⟨V2.heap.size, 0, none⟩ = some (.int .i64 y) := cell_of_row _ _ _ _ _ _ I1.out
  have I1_1 : V4.cell? ⟨V2.heap.size, 1, none⟩ = some (.int .i64 (m)) := cell_of_row _ _ _ _ _ _ I1.out
  have I1_2 : V4.cell? ⟨V2.heap.size, 2, none⟩ = some (.int .i64 d) := cell_of_row _ _ _ _ _ _ I1.out
  have zA1 := lt_of_heap A1.out
  have zI1 := lt_of_heap I1.out
  go_simp
  go_wp2_with fail
  refine (H5.out _ (by first | exact md_keep hM ((B4.out).alloc (B4.out.size) _))).mono ?_
  rintro e V5 ⟨rfl, hb5⟩
  clear A1_0 A1_1 A1_2 zA1 I1_0 I1_1 I1_2 zI1
  have nA1J1 := Lib.hid (lt_of_heap A1.out)
  have nI1J1 := Lib.hid (lt_of_heap I1.out)
  have B5 := Lib.hid (((B4.out).alloc (B4.out.size) _).trans (hb5.mono (by have := B4.out.size; first | assumption | (simp <;> omega) | (simp; done))))
  replace A1 := Lib.hid (row_call hb5 (row_alloc A1.out _))
  replace I1 := Lib.hid (row_call hb5 (row_alloc I1.out _))
  have J1 := Lib.hid (row_call hb5 (heap_alloc_new _ _))
  clear hb5
  have A1_0 : V5.cell? ⟨w.heap.size, 0, none⟩ = some (.int .i64 y) := cell_of_row _ _ _ _ _ _ A1.out
  have A1_1 : V5.cell? ⟨w.heap.size, 1, none⟩ = some (.int .i64 (m)) := cell_of_row _ _ _ _ _ _ A1.out
  have A1_2 : V5.cell? ⟨w.heap.size, 2, none⟩ = some (.int .i64 d) := cell_of_row _ _ _ _ _ _ A1.out
  have I1_0 : V5.cell? ⟨V2.heap.size, 0, none⟩ = some (.int .i64 y) := cell_of_row _ _ _ _ _ _ I1.out
  have I1_1 : V5.cell? ⟨V2.heap.size, 1, none⟩ = some (.int .i64 (m)) := cell_of_row _ _ _ _ _ _ I1.out
  have I1_2 : V5.cell? ⟨V2.heap.size, 2, none⟩ = some (.int .i64 d) := cell_of_row _ _ _ _ _ _ I1.out
  have J1_0 : V5.cell? ⟨V4.heap.size, 0, none⟩ = some (.int .i64 y) := cell_of_row _ _ _ _ _ _ J1.out
  have J1_1 : V5.cell? ⟨V4.heap.size, 1, none⟩ = some (.int .i64 (m)) := cell_of_row _ _ _ _ _ _ J1.out
  have J1_2 : V5.cell? ⟨V4.heap.size, 2, none⟩ = some (.int .i64 d) := cell_of_row _ _ _ _ _ _ J1.out
  have zA1 := lt_of_heap A1.out
  have zI1 := lt_of_heap I1.out
  have zJ1 := lt_of_heap J1.out
  go_simp
  go_wp2_with fail
  obtain ⟨W0, hW0⟩ : ∃ W0, W0 = (V5.alloc (Obj.cells #[Value.int .i64 (y), Value.int .i64 (m), Value.int .i64 (d + 1)] 27)) := ⟨_, rfl⟩
  replace A1 := Lib.hid (row_by hW0 (row_alloc A1.out _))
  replace I1 := Lib.hid (row_by hW0 (row_alloc I1.out _))
  replace J1 := Lib.hid (row_by hW0 (row_alloc J1.out _))
  have K1 := Lib.hid (row_at (k' := V5.heap.size) (by simp) (row_by hW0 (heap_alloc_new _ _)))
  clear A1_0 A1_1 A1_2 zA1 I1_0 I1_1 I1_2 zI1 J1_0 J1_1 J1_2 zJ1
  have A1_0 : W0.cell? ⟨w.heap.size, 0, none⟩ = some (.int .i64 y) := cell_of_row _ _ _ _ _ _ A1.out
  have A1_1 : W0.cell? ⟨w.heap.size, 1, none⟩ = some (.int .i64 (m)) := cell_of_row _ _ _ _ _ _ A1.out
  have A1_2 : W0.cell? ⟨w.heap.size, 2, none⟩ = some (.int .i64 d) := cell_of_row _ _ _ _ _ _ A1.out
  have zA1 := lt_of_heap A1.out
  have I1_0 : W0.cell? ⟨V2.heap.size, 0, none⟩ = some (.int .i64 y) := cell_of_row _ _ _ _ _ _ I1.out
  have I1_1 : W0.cell? ⟨V2.heap.size, 1, none⟩ = some (.int .i64 (m)) := cell_of_row _ _ _ _ _ _ I1.out
  have I1_2 : W0.cell? ⟨V2.heap.size, 2, none⟩ = some (.int .i64 d) := cell_of_row _ _ _ _ _ _ I1.out
  have zI1 := lt_of_heap I1.out
  have J1_0 : W0.cell? ⟨V4.heap.size, 0, none⟩ = some (.int .i64 y) := cell_of_row _ _ _ _ _ _ J1.out
  have J1_1 : W0.cell? ⟨V4.heap.size, 1, none⟩ = some (.int .i64 (m)) := cell_of_row _ _ _ _ _ _ J1.out
  have J1_2 : W0.cell? ⟨V4.heap.size, 2, none⟩ = some (.int .i64 d) := cell_of_row _ _ _ _ _ _ J1.out
  have zJ1 := lt_of_heap J1.out
  have K1_0 : W0.cell? ⟨V5.heap.size, 0, none⟩ = some (.int .i64 (y)) := cell_of_row _ _ _ _ _ _ K1.out
  have K1_1 : W0.cell? ⟨V5.heap.size, 1, none⟩ = some (.int .i64 (m)) := cell_of_row _ _ _ _ _ _ K1.out
  have K1_2 : W0.cell? ⟨V5.heap.size, 2, none⟩ = some (.int .i64 (d + 1)) := cell_of_row _ _ _ _ _ _ K1.out
  have zK1 := lt_of_heap K1.out
  have HB0 := Lib.hid (below_by hW0 ((B5.out).alloc (B5.out.size) _))
  have zW0 := HB0.out.size
  have HW0 := Lib.hid hW0
  clear hW0
  try go_simp
  rw [← HW0.out]
  have hk0 : ∀ w2, Below W0.heap.size W0 w2 → w2.cell? ⟨w.heap.size, 0, none⟩ = some (.int .i64 y) := fun w2 hb => (by rw [hb.cell (p := ⟨w.heap.size, 0, none⟩) (by assumption)]; assumption)
  have hk1 : ∀ w2, Below W0.heap.size W0 w2 → w2.cell? ⟨w.heap.size, 1, none⟩ = some (.int .i64 (m)) := fun w2 hb => (by rw [hb.cell (p := ⟨w.heap.size, 1, none⟩) (by assumption)]; assumption)
  have hk2 : ∀ w2, Below W0.heap.size W0 w2 → w2.cell? ⟨w.heap.size, 2, none⟩ = some (.int .i64 d) := fun w2 hb => (by rw [hb.cell (p := ⟨w.heap.size, 2, none⟩) (by assumption)]; assumption)
  have hk3 : ∀ w2, Below W0.heap.size W0 w2 → w2.cell? ⟨V2.heap.size, 0, none⟩ = some (.int .i64 y) := fun w2 hb => (by rw [hb.cell (p := ⟨V2.heap.size, 0, none⟩) (by assumption)]; assumption)
  have hk4 : ∀ w2, Below W0.heap.size W0 w2 → w2.cell? ⟨V2.heap.size, 1, none⟩ = some (.int .i64 (m)) := fun w2 hb => (by rw [hb.cell (p := ⟨V2.heap.size, 1, none⟩) (by assumption)]; assumption)
  have hk5 : ∀ w2, Below W0.heap.size W0 w2 → w2.cell? ⟨V2.heap.size, 2, none⟩ = some (.int .i64 d) := fun w2 hb => (by rw [hb.cell (p := ⟨V2.heap.size, 2, none⟩) (by assumption)]; assumption)
  have hk6 : ∀ w2, Below W0.heap.size W0 w2 → w2.cell? ⟨V4.heap.size, 0, none⟩ = some (.int .i64 y) := fun w2 hb => (by rw [hb.cell (p := ⟨V4.heap.size, 0, none⟩) (by assumption)]; assumption)
  have hk7 : ∀ w2, Below W0.heap.size W0 w2 → w2.cell? ⟨V4.heap.size, 1, none⟩ = some (.int .i64 (m)) := fun w2 hb => (by rw [hb.cell (p := ⟨V4.heap.size, 1, none⟩) (by assumption)]; assumption)
  have hk8 : ∀ w2, Below W0.heap.size W0 w2 → w2.cell? ⟨V4.heap.size, 2, none⟩ = some (.int .i64 d) := fun w2 hb => (by rw [hb.cell (p := ⟨V4.heap.size, 2, none⟩) (by assumption)]; assumption)
  have hk9 : ∀ w2, Below W0.heap.size W0 w2 → w2.cell? ⟨V5.heap.size, 0, none⟩ = some (.int .i64 (y)) := fun w2 hb => (by rw [hb.cell (p := ⟨V5.heap.size, 0, none⟩) (by assumption)]; assumption)
  have hk10 : ∀ w2, Below W0.heap.size W0 w2 → w2.cell? ⟨V5.heap.size, 1, none⟩ = some (.int .i64 (m)) := fun w2 hb => (by rw [hb.cell (p := ⟨V5.heap.size, 1, none⟩) (by assumption)]; assumption)
  have hk11 : ∀ w2, Below W0.heap.size W0 w2 → w2.cell? ⟨V5.heap.size, 2, none⟩ = some (.int .i64 (d + 1)) := fun w2 hb => (by rw [hb.cell (p := ⟨V5.heap.size, 2, none⟩) (by assumption)]; assumption)
  clear A1_0 A1_1 A1_2 I1_0 I1_1 I1_2 J1_0 J1_1 J1_2 K1_0 K1_1 K1_2
  refine region_plan (S := fun w2 => Below W0.heap.size W0 w2) [(0, true), (1, true), (2, true), (3, true), (4, true), (5, true), (6, true), (7, true), (8, true), (9, true), (10, true), (11, true), (12, true), (13, true), (14, true), (15, true), (16, true), (17, true), (18, true), (19, true), (20, true), (21, true), (22, true), (23, true), (24, true), (25, true), (26, true), (27, true), (28, true), (29, true), (30, true), (31, true), (32, true), (33, true), (34, true), (35, true), (36, true), (37, true), (38, true), (39, true), (40, true), (41, true), (42, true), (43, true), (44, true), (45, true), (46, true)] (by as_aux_lemma => kernel_rfl) (by as_aux_lemma => kernel_rfl) (by as_aux_lemma => kernel_rfl) (by as_aux_lemma => kernel_rfl) (Below.refl W0.heap.size W0).drew ?_
  have Y0 := Lib.hid (Below.refl W0.heap.size W0).drew
  refine plan_yes (v := ?v1) (by simp only [List.getElem?_toArray, List.getElem?_cons_zero, List.getElem?_cons_succ]; exact rfl) (Or.inl ⟨by as_aux_lemma => rfl, ?hy1⟩) ?rest1
  case hy1 => (intro w2 hSw; (try dsimp only at hSw); go_simp; try with_reducible rfl)
  try simp only [Act.put, List.setIfInBounds_toArray, List.set_cons_zero, List.set_cons_succ]
  refine plan_yes (v := ?v2) (by simp only [List.getElem?_toArray, List.getElem?_cons_zero, List.getElem?_cons_succ]; exact rfl) (Or.inl ⟨by as_aux_lemma => rfl, ?hy2⟩) ?rest2
  case hy2 => (intro w2 hSw; (try dsimp only at hSw); go_simp; try with_reducible rfl)
  try simp only [Act.put, List.setIfInBounds_toArray, List.set_cons_zero, List.set_cons_succ]
  refine plan_yes (v := ?v3) (by simp only [List.getElem?_toArray, List.getElem?_cons_zero, List.getElem?_cons_succ]; exact rfl) (Or.inl ⟨by as_aux_lemma => rfl, ?hy3⟩) ?rest3
  case hy3 => (intro w2 hSw; (try dsimp only at hSw); go_simp; try with_reducible rfl)
  try simp only [Act.put, List.setIfInBounds_toArray, List.set_cons_zero, List.set_cons_succ]
  refine plan_yes (v := ?v4) (by simp only [List.getElem?_toArray, List.getElem?_cons_zero, List.getElem?_cons_succ]; exact rfl) (Or.inl ⟨by as_aux_lemma => rfl, ?hy4⟩) ?rest4
  case hy4 => (intro w2 hSw; (try dsimp only at hSw); go_simp; try with_reducible rfl)
  try simp only [Act.put, List.setIfInBounds_toArray, List.set_cons_zero, List.set_cons_succ]
  refine plan_yes (v := undef) (by simp only [List.getElem?_toArray, List.getElem?_cons_zero, List.getElem?_cons_succ]; exact rfl) (Or.inr ⟨by as_aux_lemma => rfl, rfl⟩) ?_
  try simp only [Act.put, List.setIfInBounds_toArray, List.set_cons_zero, List.set_cons_succ]
  refine plan_yes (v := undef) (by simp only [List.getElem?_toArray, List.getElem?_cons_zero, List.getElem?_cons_succ]; exact rfl) (Or.inr ⟨by as_aux_lemma => rfl, rfl⟩) ?_
  try simp only [Act.put, List.setIfInBounds_toArray, List.set_cons_zero, List.set_cons_succ]
  refine plan_yes (v := undef) (by simp only [List.getElem?_toArray, List.getElem?_cons_zero, List.getElem?_cons_succ]; exact rfl) (Or.inr ⟨by as_aux_lemma => rfl, rfl⟩) ?_
  try simp only [Act.put, List.setIfInBounds_toArray, List.set_cons_zero, List.set_cons_succ]
  refine plan_yes (v := undef) (by simp only [List.getElem?_toArray, List.getElem?_cons_zero, List.getElem?_cons_succ]; exact rfl) (Or.inr ⟨by as_aux_lemma => rfl, rfl⟩) ?_
  try simp only [Act.put, List.setIfInBounds_toArray, List.set_cons_zero, List.set_cons_succ]
  refine plan_yes (v := undef) (by simp only [List.getElem?_toArray, List.getElem?_cons_zero, List.getElem?_cons_succ]; exact rfl) (Or.inr ⟨by as_aux_lemma => rfl, rfl⟩) ?_
  try simp only [Act.put, List.setIfInBounds_toArray, List.set_cons_zero, List.set_cons_succ]
  refine plan_yes (v := undef) (by simp only [List.getElem?_toArray, List.getElem?_cons_zero, List.getElem?_cons_succ]; exact rfl) (Or.inr ⟨by as_aux_lemma => rfl, rfl⟩) ?_
  try simp only [Act.put, List.setIfInBounds_toArray, List.set_cons_zero, List.set_cons_succ]
  refine plan_yes (v := undef) (by simp only [List.getElem?_toArray, List.getElem?_cons_zero, List.getElem?_cons_succ]; exact rfl) (Or.inr ⟨by as_aux_lemma => rfl, rfl⟩) ?_
  try simp only [Act.put, List.setIfInBounds_toArray, List.set_cons_zero, List.set_cons_succ]
  refine plan_yes (v := undef) (by simp only [List.getElem?_toArray, List.getElem?_cons_zero, List.getElem?_cons_succ]; exact rfl) (Or.inr ⟨by as_aux_lemma => rfl, rfl⟩) ?_
  try simp only [Act.put, List.setIfInBounds_toArray, List.set_cons_zero, List.set_cons_succ]
  refine plan_yes (v := ?v5) (by simp only [List.getElem?_toArray, List.getElem?_cons_zero, List.getElem?_cons_succ]; exact rfl) (Or.inl ⟨by as_aux_lemma => rfl, ?hy5⟩) ?rest5
  case hy5 => (intro w2 hSw; (try dsimp only at hSw); go_simp; try with_reducible rfl)
  try simp only [Act.put, List.setIfInBounds_toArray, List.set_cons_zero, List.set_cons_succ]
  refine plan_yes (v := ?v6) (by simp only [List.getElem?_toArray, List.getElem?_cons_zero, List.getElem?_cons_succ]; exact rfl) (Or.inl ⟨by as_aux_lemma => rfl, ?hy6⟩) ?rest6
  case hy6 => (intro w2 hSw; (try dsimp only at hSw); go_simp; try with_reducible rfl)
  try simp only [Act.put, List.setIfInBounds_toArray, List.set_cons_zero, List.set_cons_succ]
  refine plan_yes (v := undef) (by simp only [List.getElem?_toArray, List.getElem?_cons_zero, List.getElem?_cons_succ]; exact rfl) (Or.inr ⟨by as_aux_lemma => rfl, rfl⟩) ?_
  try simp only [Act.put, List.setIfInBounds_toArray, List.set_cons_zero, List.set_cons_succ]
  refine plan_yes (v := undef) (by simp only [List.getElem?_toArray, List.getElem?_cons_zero, List.getElem?_cons_succ]; exact rfl) (Or.inr ⟨by as_aux_lemma => rfl, rfl⟩) ?_
  try simp only [Act.put, List.setIfInBounds_toArray, List.set_cons_zero, List.set_cons_succ]
  refine plan_yes (v := undef) (by simp only [List.getElem?_toArray, List.getElem?_cons_zero, List.getElem?_cons_succ]; exact rfl) (Or.inr ⟨by as_aux_lemma => rfl, rfl⟩) ?_
  try simp only [Act.put, List.setIfInBounds_toArray, List.set_cons_zero, List.set_cons_succ]
  refine plan_yes (v := undef) (by simp only [List.getElem?_toArray, List.getElem?_cons_zero, List.getElem?_cons_succ]; exact rfl) (Or.inr ⟨by as_aux_lemma => rfl, rfl⟩) ?_
  try simp only [Act.put, List.setIfInBounds_toArray, List.set_cons_zero, List.set_cons_succ]
  refine plan_yes (v := undef) (by simp only [List.getElem?_toArray, List.getElem?_cons_zero, List.getElem?_cons_succ]; exact rfl) (Or.inr ⟨by as_aux_lemma => rfl, rfl⟩) ?_
  try simp only [Act.put, List.setIfInBounds_toArray, List.set_cons_zero, List.set_cons_succ]
  refine plan_yes (v := undef) (by simp only [List.getElem?_toArray, List.getElem?_cons_zero, List.getElem?_cons_succ]; exact rfl) (Or.inr ⟨by as_aux_lemma => rfl, rfl⟩) ?_
  try simp only [Act.put, List.setIfInBounds_toArray, List.set_cons_zero, List.set_cons_succ]
  refine plan_yes (v := undef) (by simp only [List.getElem?_toArray, List.getElem?_cons_zero, List.getElem?_cons_succ]; exact rfl) (Or.inr ⟨by as_aux_lemma => rfl, rfl⟩) ?_
  try simp only [Act.put, List.setIfInBounds_toArray, List.set_cons_zero, List.set_cons_succ]
  refine plan_yes (v := undef) (by simp only [List.getElem?_toArray, List.getElem?_cons_zero, List.getElem?_cons_succ]; exact rfl) (Or.inr ⟨by as_aux_lemma => rfl, rfl⟩) ?_
  try simp only [Act.put, List.setIfInBounds_toArray, List.set_cons_zero, List.set_cons_succ]
  refine plan_yes (v := undef) (by simp only [List.getElem?_toArray, List.getElem?_cons_zero, List.getElem?_cons_succ]; exact rfl) (Or.inr ⟨by as_aux_lemma => rfl, rfl⟩) ?_
  try simp only [Act.put, List.setIfInBounds_toArray, List.set_cons_zero, List.set_cons_succ]
  refine plan_yes (v := undef) (by simp only [List.getElem?_toArray, List.getElem?_cons_zero, List.getElem?_cons_succ]; exact rfl) (Or.inr ⟨by as_aux_lemma => rfl, rfl⟩) ?_
  try simp only [Act.put, List.setIfInBounds_toArray, List.set_cons_zero, List.set_cons_succ]
  refine plan_yes (v := undef) (by simp only [List.getElem?_toArray, List.getElem?_cons_zero, List.getElem?_cons_succ]; exact rfl) (Or.inr ⟨by as_aux_lemma => rfl, rfl⟩) ?_
  try simp only [Act.put, List.setIfInBounds_toArray, List.set_cons_zero, List.set_cons_succ]
  refine plan_yes (v := undef) (by simp only [List.getElem?_toArray, List.getElem?_cons_zero, List.getElem?_cons_succ]; exact rfl) (Or.inr ⟨by as_aux_lemma => rfl, rfl⟩) ?_
  try simp only [Act.put, List.setIfInBounds_toArray, List.set_cons_zero, List.set_cons_succ]
  refine plan_yes (v := undef) (by simp only [List.getElem?_toArray, List.getElem?_cons_zero, List.getElem?_cons_succ]; exact rfl) (Or.inr ⟨by as_aux_lemma => rfl, rfl⟩) ?_
  try simp only [Act.put, List.setIfInBounds_toArray, List.set_cons_zero, List.set_cons_succ]
  refine plan_yes (v := undef) (by simp only [List.getElem?_toArray, List.getElem?_cons_zero, List.getElem?_cons_succ]; exact rfl) (Or.inr ⟨by as_aux_lemma => rfl, rfl⟩) ?_
  try simp only [Act.put, List.setIfInBounds_toArray, List.set_cons_zero, List.set_cons_succ]
  refine plan_yes (v := undef) (by simp only [List.getElem?_toArray, List.getElem?_cons_zero, List.getElem?_cons_succ]; exact rfl) (Or.inr ⟨by as_aux_lemma => rfl, rfl⟩) ?_
  try simp only [Act.put, List.setIfInBounds_toArray, List.set_cons_zero, List.set_cons_succ]
  refine plan_yes (v := undef) (by simp only [List.getElem?_toArray, List.getElem?_cons_zero, List.getElem?_cons_succ]; exact rfl) (Or.inr ⟨by as_aux_lemma => rfl, rfl⟩) ?_
  try simp only [Act.put, List.setIfInBounds_toArray, List.set_cons_zero, List.set_cons_succ]
  refine plan_yes (v := undef) (by simp only [List.getElem?_toArray, List.getElem?_cons_zero, List.getElem?_cons_succ]; exact rfl) (Or.inr ⟨by as_aux_lemma => rfl, rfl⟩) ?_
  try simp only [Act.put, List.setIfInBounds_toArray, List.set_cons_zero, List.set_cons_succ]
  refine plan_yes (v := undef) (by simp only [List.getElem?_toArray, List.getElem?_cons_zero, List.getElem?_cons_succ]; exact rfl) (Or.inr ⟨by as_aux_lemma => rfl, rfl⟩) ?_
  try simp only [Act.put, List.setIfInBounds_toArray, List.set_cons_zero, List.set_cons_succ]
  refine plan_yes (v := undef) (by simp only [List.getElem?_toArray, List.getElem?_cons_zero, List.getElem?_cons_succ]; exact rfl) (Or.inr ⟨by as_aux_lemma => rfl, rfl⟩) ?_
  try simp only [Act.put, List.setIfInBounds_toArray, List.set_cons_zero, List.set_cons_succ]
  refine plan_yes (v := undef) (by simp only [List.getElem?_toArray, List.getElem?_cons_zero, List.getElem?_cons_succ]; exact rfl) (Or.inr ⟨by as_aux_lemma => rfl, rfl⟩) ?_
  try simp only [Act.put, List.setIfInBounds_toArray, List.set_cons_zero, List.set_cons_succ]
  refine plan_yes (v := undef) (by simp only [List.getElem?_toArray, List.getElem?_cons_zero, List.getElem?_cons_succ]; exact rfl) (Or.inr ⟨by as_aux_lemma => rfl, rfl⟩) ?_
  try simp only [Act.put, List.setIfInBounds_toArray, List.set_cons_zero, List.set_cons_succ]
  refine plan_yes (v := undef) (by simp only [List.getElem?_toArray, List.getElem?_cons_zero, List.getElem?_cons_succ]; exact rfl) (Or.inr ⟨by as_aux_lemma => rfl, rfl⟩) ?_
  try simp only [Act.put, List.setIfInBounds_toArray, List.set_cons_zero, List.set_cons_succ]
  refine plan_yes (v := undef) (by simp only [List.getElem?_toArray, List.getElem?_cons_zero, List.getElem?_cons_succ]; exact rfl) (Or.inr ⟨by as_aux_lemma => rfl, rfl⟩) ?_
  try simp only [Act.put, List.setIfInBounds_toArray, List.set_cons_zero, List.set_cons_succ]
  refine plan_yes (v := undef) (by simp only [List.getElem?_toArray, List.getElem?_cons_zero, List.getElem?_cons_succ]; exact rfl) (Or.inr ⟨by as_aux_lemma => rfl, rfl⟩) ?_
  try simp only [Act.put, List.setIfInBounds_toArray, List.set_cons_zero, List.set_cons_succ]
  refine plan_yes (v := undef) (by simp only [List.getElem?_toArray, List.getElem?_cons_zero, List.getElem?_cons_succ]; exact rfl) (Or.inr ⟨by as_aux_lemma => rfl, rfl⟩) ?_
  try simp only [Act.put, List.setIfInBounds_toArray, List.set_cons_zero, List.set_cons_succ]
  refine plan_yes (v := undef) (by simp only [List.getElem?_toArray, List.getElem?_cons_zero, List.getElem?_cons_succ]; exact rfl) (Or.inr ⟨by as_aux_lemma => rfl, rfl⟩) ?_
  try simp only [Act.put, List.setIfInBounds_toArray, List.set_cons_zero, List.set_cons_succ]
  refine plan_yes (v := undef) (by simp only [List.getElem?_toArray, List.getElem?_cons_zero, List.getElem?_cons_succ]; exact rfl) (Or.inr ⟨by as_aux_lemma => rfl, rfl⟩) ?_
  try simp only [Act.put, List.setIfInBounds_toArray, List.set_cons_zero, List.set_cons_succ]
  refine plan_yes (v := undef) (by simp only [List.getElem?_toArray, List.getElem?_cons_zero, List.getElem?_cons_succ]; exact rfl) (Or.inr ⟨by as_aux_lemma => rfl, rfl⟩) ?_
  try simp only [Act.put, List.setIfInBounds_toArray, List.set_cons_zero, List.set_cons_succ]
  refine plan_yes (v := undef) (by simp only [List.getElem?_toArray, List.getElem?_cons_zero, List.getElem?_cons_succ]; exact rfl) (Or.inr ⟨by as_aux_lemma => rfl, rfl⟩) ?_
  try simp only [Act.put, List.setIfInBounds_toArray, List.set_cons_zero, List.set_cons_succ]
  refine plan_yes (v := undef) (by simp only [List.getElem?_toArray, List.getElem?_cons_zero, List.getElem?_cons_succ]; exact rfl) (Or.inr ⟨by as_aux_lemma => rfl, rfl⟩) ?_
  try simp only [Act.put, List.setIfInBounds_toArray, List.set_cons_zero, List.set_cons_succ]
  refine plan_yes (v := undef) (by simp only [List.getElem?_toArray, List.getElem?_cons_zero, List.getElem?_cons_succ]; exact rfl) (Or.inr ⟨by as_aux_lemma => rfl, rfl⟩) ?_
  try simp only [Act.put, List.setIfInBounds_toArray, List.set_cons_zero, List.set_cons_succ]
  refine plan_yes (v := ?v7) (by simp only [List.getElem?_toArray, List.getElem?_cons_zero, List.getElem?_cons_succ]; exact rfl) (Or.inl ⟨by as_aux_lemma => rfl, ?hy7⟩) ?rest7
  case hy7 => (intro w2 hSw; (try dsimp only at hSw); go_simp; try with_reducible rfl)
  try simp only [Act.put, List.setIfInBounds_toArray, List.set_cons_zero, List.set_cons_succ]
  refine plan_yes (v := ?v8) (by simp only [List.getElem?_toArray, List.getElem?_cons_zero, List.getElem?_cons_succ]; exact rfl) (Or.inl ⟨by as_aux_lemma => rfl, ?hy8⟩) ?rest8
  case hy8 => (intro w2 hSw; (try dsimp only at hSw); go_simp; try with_reducible rfl)
  try simp only [Act.put, List.setIfInBounds_toArray, List.set_cons_zero, List.set_cons_succ]
  refine plan_done (NoPanic.normal ?_)
  have B0 := Y0.out
  have BW := Lib.hid (HB0.out.trans (B0.mono zW0))
  replace A1 := Lib.hid (row_call B0 A1.out)
  replace I1 := Lib.hid (row_call B0 I1.out)
  replace J1 := Lib.hid (row_call B0 J1.out)
  replace K1 := Lib.hid (row_call B0 K1.out)
  have B6 := BW
  clear BW B0 hk0 hk1 hk2 hk3 hk4 hk5 hk6 hk7 hk8 hk9 hk10 hk11 zA1 zI1 zJ1 zK1 Y0
  generalize W0.drew = V6 at *
  have A1_0 : V6.cell? ⟨w.heap.size, 0, none⟩ = some (.int .i64 y) := cell_of_row _ _ _ _ _ _ A1.out
  have A1_1 : V6.cell? ⟨w.heap.size, 1, none⟩ = some (.int .i64 (m)) := cell_of_row _ _ _ _ _ _ A1.out
  have A1_2 : V6.cell? ⟨w.heap.size, 2, none⟩ = some (.int .i64 d) := cell_of_row _ _ _ _ _ _ A1.out
  have zA1 := lt_of_heap A1.out
  have I1_0 : V6.cell? ⟨V2.heap.size, 0, none⟩ = some (.int .i64 y) := cell_of_row _ _ _ _ _ _ I1.out
  have I1_1 : V6.cell? ⟨V2.heap.size, 1, none⟩ = some (.int .i64 (m)) := cell_of_row _ _ _ _ _ _ I1.out
  have I1_2 : V6.cell? ⟨V2.heap.size, 2, none⟩ = some (.int .i64 d) := cell_of_row _ _ _ _ _ _ I1.out
  have zI1 := lt_of_heap I1.out
  have J1_0 : V6.cell? ⟨V4.heap.size, 0, none⟩ = some (.int .i64 y) := cell_of_row _ _ _ _ _ _ J1.out
  have J1_1 : V6.cell? ⟨V4.heap.size, 1, none⟩ = some (.int .i64 (m)) := cell_of_row _ _ _ _ _ _ J1.out
  have J1_2 : V6.cell? ⟨V4.heap.size, 2, none⟩ = some (.int .i64 d) := cell_of_row _ _ _ _ _ _ J1.out
  have zJ1 := lt_of_heap J1.out
  have K1_0 : V6.cell? ⟨V5.heap.size, 0, none⟩ = some (.int .i64 (y)) := cell_of_row _ _ _ _ _ _ K1.out
  have K1_1 : V6.cell? ⟨V5.heap.size, 1, none⟩ = some (.int .i64 (m)) := cell_of_row _ _ _ _ _ _ K1.out
  have K1_2 : V6.cell? ⟨V5.heap.size, 2, none⟩ = some (.int .i64 (d + 1)) := cell_of_row _ _ _ _ _ _ K1.out
  have zK1 := lt_of_heap K1.out
  go_simp
  go_wp2_with fail
  refine (H9.out _).mono ?_
  rintro e V7 ⟨rfl, hb7⟩
  clear A1_0 A1_1 A1_2 zA1 I1_0 I1_1 I1_2 zI1 J1_0 J1_1 J1_2 zJ1 K1_0 K1_1 K1_2 zK1
  have B7 : Hid (Below w.heap.size w V7) := by first | exact Lib.hid ((B6.out).trans (hb7.mono (by have := B6.out.size; first | assumption | (simp <;> omega) | (simp; done)))) | exact Lib.hid (((B6.out).alloc (B6.out.size) _).trans (hb7.mono (by have := B6.out.size; first | assumption | (simp <;> omega) | (simp; done)))) | exact Lib.hid ((((B6.out).alloc (B6.out.size) _).alloc (by have := B6.out.size; simp <;> omega) _).trans (hb7.mono (by have := B6.out.size; first | assumption | (simp <;> omega) | (simp; done)))) | exact Lib.hid (((((B6.out).alloc (B6.out.size) _).alloc (by have := B6.out.size; simp <;> omega) _).alloc (by have := B6.out.size; simp <;> omega) _).trans (hb7.mono (by have := B6.out.size; first | assumption | (simp <;> omega) | (simp; done))))
  first | replace A1 := Lib.hid (row_call hb7 A1.out) | replace A1 := Lib.hid (row_call hb7 (row_alloc A1.out _)) | replace A1 := Lib.hid (row_call hb7 (row_alloc (row_alloc A1.out _) _)) | replace A1 := Lib.hid (row_call hb7 (row_alloc (row_alloc (row_alloc A1.out _) _) _))
  first | replace I1 := Lib.hid (row_call hb7 I1.out) | replace I1 := Lib.hid (row_call hb7 (row_alloc I1.out _)) | replace I1 := Lib.hid (row_call hb7 (row_alloc (row_alloc I1.out _) _)) | replace I1 := Lib.hid (row_call hb7 (row_alloc (row_alloc (row_alloc I1.out _) _) _))
  first | replace J1 := Lib.hid (row_call hb7 J1.out) | replace J1 := Lib.hid (row_call hb7 (row_alloc J1.out _)) | replace J1 := Lib.hid (row_call hb7 (row_alloc (row_alloc J1.out _) _)) | replace J1 := Lib.hid (row_call hb7 (row_alloc (row_alloc (row_alloc J1.out _) _) _))
  first | replace K1 := Lib.hid (row_call hb7 K1.out) | replace K1 := Lib.hid (row_call hb7 (row_alloc K1.out _)) | replace K1 := Lib.hid (row_call hb7 (row_alloc (row_alloc K1.out _) _)) | replace K1 := Lib.hid (row_call hb7 (row_alloc (row_alloc (row_alloc K1.out _) _) _))
  clear hb7
  have A1_0 : V7.cell? ⟨w.heap.size, 0, none⟩ = some (.int .i64 y) := cell_of_row _ _ _ _ _ _ A1.out
  have A1_1 : V7.cell? ⟨w.heap.size, 1, none⟩ = some (.int .i64 (m)) := cell_of_row _ _ _ _ _ _ A1.out
  have A1_2 : V7.cell? ⟨w.heap.size, 2, none⟩ = some (.int .i64 d) := cell_of_row _ _ _ _ _ _ A1.out
  have I1_0 : V7.cell? ⟨V2.heap.size, 0, none⟩ = some (.int .i64 y) := cell_of_row _ _ _ _ _ _ I1.out
  have I1_1 : V7.cell? ⟨V2.heap.size, 1, none⟩ = some (.int .i64 (m)) := cell_of_row _ _ _ _ _ _ I1.out
  have I1_2 : V7.cell? ⟨V2.heap.size, 2, none⟩ = some (.int .i64 d) := cell_of_row _ _ _ _ _ _ I1.out
  have J1_0 : V7.cell? ⟨V4.heap.size, 0, none⟩ = some (.int .i64 y) := cell_of_row _ _ _ _ _ _ J1.out
  have J1_1 : V7.cell? ⟨V4.heap.size, 1, none⟩ = some (.int .i64 (m)) := cell_of_row _ _ _ _ _ _ J1.out
  have J1_2 : V7.cell? ⟨V4.heap.size, 2, none⟩ = some (.int .i64 d) := cell_of_row _ _ _ _ _ _ J1.out
  have K1_0 : V7.cell? ⟨V5.heap.size, 0, none⟩ = some (.int .i64 (y)) := cell_of_row _ _ _ _ _ _ K1.out
  have K1_1 : V7.cell? ⟨V5.heap.size, 1, none⟩ = some (.int .i64 (m)) := cell_of_row _ _ _ _ _ _ K1.out
  have K1_2 : V7.cell? ⟨V5.heap.size, 2, none⟩ = some (.int .i64 (d + 1)) := cell_of_row _ _ _ _ _ _ K1.out
  have zA1 := lt_of_heap A1.out
  have zI1 := lt_of_heap I1.out
  have zJ1 := lt_of_heap J1.out
  have zK1 := lt_of_heap K1.out
  go_simp
  go_wp2_with fail
  refine (HA.out _).mono ?_
  rintro e V8 ⟨rfl, hb8⟩
  clear A1_0 A1_1 A1_2 zA1 I1_0 I1_1 I1_2 zI1 J1_0 J1_1 J1_2 zJ1 K1_0 K1_1 K1_2 zK1
  have B8 : Hid (Below w.heap.size w V8) := by first | exact Lib.hid ((B7.out).trans (hb8.mono (by have := B7.out.size; first | assumption | (simp <;> omega) | (simp; done)))) | exact Lib.hid (((B7.out).alloc (B7.out.size) _).trans (hb8.mono (by have := B7.out.size; first | assumption | (simp <;> omega) | (simp; done)))) | exact Lib.hid ((((B7.out).alloc (B7.out.size) _).alloc (by have := B7.out.size; simp <;> omega) _).trans (hb8.mono (by have := B7.out.size; first | assumption | (simp <;> omega) | (simp; done)))) | exact Lib.hid (((((B7.out).alloc (B7.out.size) _).alloc (by have := B7.out.size; simp <;> omega) _).alloc (by have := B7.out.size; simp <;> omega) _).trans (hb8.mono (by have := B7.out.size; first | assumption | (simp <;> omega) | (simp; done))))
  first | replace A1 := Lib.hid (row_call hb8 A1.out) | replace A1 := Lib.hid (row_call hb8 (row_alloc A1.out _)) | replace A1 := Lib.hid (row_call hb8 (row_alloc (row_alloc A1.out _) _)) | replace A1 := Lib.hid (row_call hb8 (row_alloc (row_alloc (row_alloc A1.out _) _) _))
  first | replace I1 := Lib.hid (row_call hb8 I1.out) | replace I1 := Lib.hid (row_call hb8 (row_alloc I1.out _)) | replace I1 := Lib.hid (row_call hb8 (row_alloc (row_alloc I1.out _) _)) | replace I1 := Lib.hid (row_call hb8 (row_alloc (row_alloc (row_alloc I1.out _) _) _))
  first | replace J1 := Lib.hid (row_call hb8 J1.out) | replace J1 := Lib.hid (row_call hb8 (row_alloc J1.out _)) | replace J1 := Lib.hid (row_call hb8 (row_alloc (row_alloc J1.out _) _)) | replace J1 := Lib.hid (row_call hb8 (row_alloc (row_alloc (row_alloc J1.out _) _) _))
  first | replace K1 := Lib.hid (row_call hb8 K1.out) | replace K1 := Lib.hid (row_call hb8 (row_alloc K1.out _)) | replace K1 := Lib.hid (row_call hb8 (row_alloc (row_alloc K1.out _) _)) | replace K1 := Lib.hid (row_call hb8 (row_alloc (row_alloc (row_alloc K1.out _) _) _))
  clear hb8
  have A1_0 : V8.cell? ⟨w.heap.size, 0, none⟩ = some (.int .i64 y) := cell_of_row _ _ _ _ _ _ A1.out
  have A1_1 : V8.cell? ⟨w.heap.size, 1, none⟩ = some (.int .i64 (m)) := cell_of_row _ _ _ _ _ _ A1.out
  have A1_2 : V8.cell? ⟨w.heap.size, 2, none⟩ = some (.int .i64 d) := cell_of_row _ _ _ _ _ _ A1.out
  have I1_0 : V8.cell? ⟨V2.heap.size, 0, none⟩ = some (.int .i64 y) := cell_of_row _ _ _ _ _ _ I1.out
  have I1_1 : V8.cell? ⟨V2.heap.size, 1, none⟩ = some (.int .i64 (m)) := cell_of_row _ _ _ _ _ _ I1.out
  have I1_2 : V8.cell? ⟨V2.heap.size, 2, none⟩ = some (.int .i64 d) := cell_of_row _ _ _ _ _ _ I1.out
  have J1_0 : V8.cell? ⟨V4.heap.size, 0, none⟩ = some (.int .i64 y) := cell_of_row _ _ _ _ _ _ J1.out
  have J1_1 : V8.cell? ⟨V4.heap.size, 1, none⟩ = some (.int .i64 (m)) := cell_of_row _ _ _ _ _ _ J1.out
  have J1_2 : V8.cell? ⟨V4.heap.size, 2, none⟩ = some (.int .i64 d) := cell_of_row _ _ _ _ _ _ J1.out
  have K1_0 : V8.cell? ⟨V5.heap.size, 0, none⟩ = some (.int .i64 (y)) := cell_of_row _ _ _ _ _ _ K1.out
  have K1_1 : V8.cell? ⟨V5.heap.size, 1, none⟩ = some (.int .i64 (m)) := cell_of_row _ _ _ _ _ _ K1.out
  have K1_2 : V8.cell? ⟨V5.heap.size, 2, none⟩ = some (.int .i64 (d + 1)) := cell_of_row _ _ _ _ _ _ K1.out
  have zA1 := lt_of_heap A1.out
  have zI1 := lt_of_heap I1.out
  have zJ1 := lt_of_heap J1.out
  have zK1 := lt_of_heap K1.out
  go_simp
  go_wp2_with fail
  refine (HB.out _).mono ?_
  rintro e V9 ⟨rfl, hb9⟩
  clear A1_0 A1_1 A1_2 zA1 I1_0 I1_1 I1_2 zI1 J1_0 J1_1 J1_2 zJ1 K1_0 K1_1 K1_2 zK1
  have B9 : Hid (Below w.heap.size w V9) := by first | exact Lib.hid ((B8.out).trans (hb9.mono (by have := B8.out.size; first | assumption | (simp <;> omega) | (simp; done)))) | exact Lib.hid (((B8.out).alloc (B8.out.size) _).trans (hb9.mono (by have := B8.out.size; first | assumption | (simp <;> omega) | (simp; done)))) | exact Lib.hid ((((B8.out).alloc (B8.out.size) _).alloc (by have := B8.out.size; simp <;> omega) _).trans (hb9.mono (by have := B8.out.size; first | assumption | (simp <;> omega) | (simp; done)))) | exact Lib.hid (((((B8.out).alloc (B8.out.size) _).alloc (by have := B8.out.size; simp <;> omega) _).alloc (by have := B8.out.size; simp <;> omega) _).trans (hb9.mono (by have := B8.out.size; first | assumption | (simp <;> omega) | (simp; done))))
  first | replace A1 := Lib.hid (row_call hb9 A1.out) | replace A1 := Lib.hid (row_call hb9 (row_alloc A1.out _)) | replace A1 := Lib.hid (row_call hb9 (row_alloc (row_alloc A1.out _) _)) | replace A1 := Lib.hid (row_call hb9 (row_alloc (row_alloc (row_alloc A1.out _) _) _))
  first | replace I1 := Lib.hid (row_call hb9 I1.out) | replace I1 := Lib.hid (row_call hb9 (row_alloc I1.out _)) | replace I1 := Lib.hid (row_call hb9 (row_alloc (row_alloc I1.out _) _)) | replace I1 := Lib.hid (row_call hb9 (row_alloc (row_alloc (row_alloc I1.out _) _) _))
  first | replace J1 := Lib.hid (row_call hb9 J1.out) | replace J1 := Lib.hid (row_call hb9 (row_alloc J1.out _)) | replace J1 := Lib.hid (row_call hb9 (row_alloc (row_alloc J1.out _) _)) | replace J1 := Lib.hid (row_call hb9 (row_alloc (row_alloc (row_alloc J1.out _) _) _))
  first | replace K1 := Lib.hid (row_call hb9 K1.out) | replace K1 := Lib.hid (row_call hb9 (row_alloc K1.out _)) | replace K1 := Lib.hid (row_call hb9 (row_alloc (row_alloc K1.out _) _)) | replace K1 := Lib.hid (row_call hb9 (row_alloc (row_alloc (row_alloc K1.out _) _) _))
  clear hb9
  have A1_0 : V9.cell? ⟨w.heap.size, 0, none⟩ = some (.int .i64 y) := cell_of_row _ _ _ _ _ _ A1.out
  have A1_1 : V9.cell? ⟨w.heap.size, 1, none⟩ = some (.int .i64 (m)) := cell_of_row _ _ _ _ _ _ A1.out
  have A1_2 : V9.cell? ⟨w.heap.size, 2, none⟩ = some (.int .i64 d) := cell_of_row _ _ _ _ _ _ A1.out
  have I1_0 : V9.cell? ⟨V2.heap.size, 0, none⟩ = some (.int .i64 y) := cell_of_row _ _ _ _ _ _ I1.out
  have I1_1 : V9.cell? ⟨V2.heap.size, 1, none⟩ = some (.int .i64 (m)) := cell_of_row _ _ _ _ _ _ I1.out
  have I1_2 : V9.cell? ⟨V2.heap.size, 2, none⟩ = some (.int .i64 d) := cell_of_row _ _ _ _ _ _ I1.out
  have J1_0 : V9.cell? ⟨V4.heap.size, 0, none⟩ = some (.int .i64 y) := cell_of_row _ _ _ _ _ _ J1.out
  have J1_1 : V9.cell? ⟨V4.heap.size, 1, none⟩ = some (.int .i64 (m)) := cell_of_row _ _ _ _ _ _ J1.out
  have J1_2 : V9.cell? ⟨V4.heap.size, 2, none⟩ = some (.int .i64 d) := cell_of_row _ _ _ _ _ _ J1.out
  have K1_0 : V9.cell? ⟨V5.heap.size, 0, none⟩ = some (.int .i64 (y)) := cell_of_row _ _ _ _ _ _ K1.out
  have K1_1 : V9.cell? ⟨V5.heap.size, 1, none⟩ = some (.int .i64 (m)) := cell_of_row _ _ _ _ _ _ K1.out
  have K1_2 : V9.cell? ⟨V5.heap.size, 2, none⟩ = some (.int .i64 (d + 1)) := cell_of_row _ _ _ _ _ _ K1.out
  have zA1 := lt_of_heap A1.out
  have zI1 := lt_of_heap I1.out
  have zJ1 := lt_of_heap J1.out
  have zK1 := lt_of_heap K1.out
  go_simp
  go_wp2_with fail
  refine (HC.out _).mono ?_
  rintro e V10 ⟨rfl, hb10⟩
  clear A1_0 A1_1 A1_2 zA1 I1_0 I1_1 I1_2 zI1 J1_0 J1_1 J1_2 zJ1 K1_0 K1_1 K1_2 zK1
  have B10 : Hid (Below w.heap.size w V10) := by first | exact Lib.hid ((B9.out).trans (hb10.mono (by have := B9.out.size; first | assumption | (simp <;> omega) | (simp; done)))) | exact Lib.hid (((B9.out).alloc (B9.out.size) _).trans (hb10.mono (by have := B9.out.size; first | assumption | (simp <;> omega) | (simp; done)))) | exact Lib.hid ((((B9.out).alloc (B9.out.size) _).alloc (by have := B9.out.size; simp <;> omega) _).trans (hb10.mono (by have := B9.out.size; first | assumption | (simp <;> omega) | (simp; done)))) | exact Lib.hid (((((B9.out).alloc (B9.out.size) _).alloc (by have := B9.out.size; simp <;> omega) _).alloc (by have := B9.out.size; simp <;> omega) _).trans (hb10.mono (by have := B9.out.size; first | assumption | (simp <;> omega) | (simp; done))))
  first | replace A1 := Lib.hid (row_call hb10 A1.out) | replace A1 := Lib.hid (row_call hb10 (row_alloc A1.out _)) | replace A1 := Lib.hid (row_call hb10 (row_alloc (row_alloc A1.out _) _)) | replace A1 := Lib.hid (row_call hb10 (row_alloc (row_alloc (row_alloc A1.out _) _) _))
  first | replace I1 := Lib.hid (row_call hb10 I1.out) | replace I1 := Lib.hid (row_call hb10 (row_alloc I1.out _)) | replace I1 := Lib.hid (row_call hb10 (row_alloc (row_alloc I1.out _) _)) | replace I1 := Lib.hid (row_call hb10 (row_alloc (row_alloc (row_alloc I1.out _) _) _))
  first | replace J1 := Lib.hid (row_call hb10 J1.out) | replace J1 := Lib.hid (row_call hb10 (row_alloc J1.out _)) | replace J1 := Lib.hid (row_call hb10 (row_alloc (row_alloc J1.out _) _)) | replace J1 := Lib.hid (row_call hb10 (row_alloc (row_alloc (row_alloc J1.out _) _) _))
  first | replace K1 := Lib.hid (row_call hb10 K1.out) | replace K1 := Lib.hid (row_call hb10 (row_alloc K1.out _)) | replace K1 := Lib.hid (row_call hb10 (row_alloc (row_alloc K1.out _) _)) | replace K1 := Lib.hid (row_call hb10 (row_alloc (row_alloc (row_alloc K1.out _) _) _))
  clear hb10
  have A1_0 : V10.cell? ⟨w.heap.size, 0, none⟩ = some (.int .i64 y) := cell_of_row _ _ _ _ _ _ A1.out
  have A1_1 : V10.cell? ⟨w.heap.size, 1, none⟩ = some (.int .i64 (m)) := cell_of_row _ _ _ _ _ _ A1.out
  have A1_2 : V10.cell? ⟨w.heap.size, 2, none⟩ = some (.int .i64 d) := cell_of_row _ _ _ _ _ _ A1.out
  have I1_0 : V10.cell? ⟨V2.heap.size, 0, none⟩ = some (.int .i64 y) := cell_of_row _ _ _ _ _ _ I1.out
  have I1_1 : V10.cell? ⟨V2.heap.size, 1, none⟩ = some (.int .i64 (m)) := cell_of_row _ _ _ _ _ _ I1.out
  have I1_2 : V10.cell? ⟨V2.heap.size, 2, none⟩ = some (.int .i64 d) := cell_of_row _ _ _ _ _ _ I1.out
  have J1_0 : V10.cell? ⟨V4.heap.size, 0, none⟩ = some (.int .i64 y) := cell_of_row _ _ _ _ _ _ J1.out
  have J1_1 : V10.cell? ⟨V4.heap.size, 1, none⟩ = some (.int .i64 (m)) := cell_of_row _ _ _ _ _ _ J1.out
  have J1_2 : V10.cell? ⟨V4.heap.size, 2, none⟩ = some (.int .i64 d) := cell_of_row _ _ _ _ _ _ J1.out
  have K1_0 : V10.cell? ⟨V5.heap.size, 0, none⟩ = some (.int .i64 (y)) := cell_of_row _ _ _ _ _ _ K1.out
  have K1_1 : V10.cell? ⟨V5.heap.size, 1, none⟩ = some (.int .i64 (m)) := cell_of_row _ _ _ _ _ _ K1.out
  have K1_2 : V10.cell? ⟨V5.heap.size, 2, none⟩ = some (.int .i64 (d + 1)) := cell_of_row _ _ _ _ _ _ K1.out
  have zA1 := lt_of_heap A1.out
  have zI1 := lt_of_heap I1.out
  have zJ1 := lt_of_heap J1.out
  have zK1 := lt_of_heap K1.out
  go_simp
  go_wp2_with fail
  refine (H7.out _ (by first | exact md_keep hM (B10.out) | exact md_keep hM ((B10.out).alloc (B10.out.size) _) | exact md_keep hM (((B10.out).alloc (B10.out.size) _).alloc (by have := B10.out.size; simp <;> omega) _) | exact md_keep hM ((((B10.out).alloc (B10.out.size) _).alloc (by have := B10.out.size; simp <;> omega) _).alloc (by have := B10.out.size; simp <;> omega) _))).mono ?_
  rintro e V11 ⟨rfl, hb11⟩
  clear A1_0 A1_1 A1_2 zA1 I1_0 I1_1 I1_2 zI1 J1_0 J1_1 J1_2 zJ1 K1_0 K1_1 K1_2 zK1
  have B11 : Hid (Below w.heap.size w V11) := by first | exact Lib.hid ((B10.out).trans (hb11.mono (by have := B10.out.size; first | assumption | (simp <;> omega) | (simp; done)))) | exact Lib.hid (((B10.out).alloc (B10.out.size) _).trans (hb11.mono (by have := B10.out.size; first | assumption | (simp <;> omega) | (simp; done)))) | exact Lib.hid ((((B10.out).alloc (B10.out.size) _).alloc (by have := B10.out.size; simp <;> omega) _).trans (hb11.mono (by have := B10.out.size; first | assumption | (simp <;> omega) | (simp; done)))) | exact Lib.hid (((((B10.out).alloc (B10.out.size) _).alloc (by have := B10.out.size; simp <;> omega) _).alloc (by have := B10.out.size; simp <;> omega) _).trans (hb11.mono (by have := B10.out.size; first | assumption | (simp <;> omega) | (simp; done))))
  first | replace A1 := Lib.hid (row_call hb11 A1.out) | replace A1 := Lib.hid (row_call hb11 (row_alloc A1.out _)) | replace A1 := Lib.hid (row_call hb11 (row_alloc (row_alloc A1.out _) _)) | replace A1 := Lib.hid (row_call hb11 (row_alloc (row_alloc (row_alloc A1.out _) _) _))
  first | replace I1 := Lib.hid (row_call hb11 I1.out) | replace I1 := Lib.hid (row_call hb11 (row_alloc I1.out _)) | replace I1 := Lib.hid (row_call hb11 (row_alloc (row_alloc I1.out _) _)) | replace I1 := Lib.hid (row_call hb11 (row_alloc (row_alloc (row_alloc I1.out _) _) _))
  first | replace J1 := Lib.hid (row_call hb11 J1.out) | replace J1 := Lib.hid (row_call hb11 (row_alloc J1.out _)) | replace J1 := Lib.hid (row_call hb11 (row_alloc (row_alloc J1.out _) _)) | replace J1 := Lib.hid (row_call hb11 (row_alloc (row_alloc (row_alloc J1.out _) _) _))
  first | replace K1 := Lib.hid (row_call hb11 K1.out) | replace K1 := Lib.hid (row_call hb11 (row_alloc K1.out _)) | replace K1 := Lib.hid (row_call hb11 (row_alloc (row_alloc K1.out _) _)) | replace K1 := Lib.hid (row_call hb11 (row_alloc (row_alloc (row_alloc K1.out _) _) _))
  clear hb11
  have A1_0 : V11.cell? ⟨w.heap.size, 0, none⟩ = some (.int .i64 y) := cell_of_row _ _ _ _ _ _ A1.out
  have A1_1 : V11.cell? ⟨w.heap.size, 1, none⟩ = some (.int .i64 (m)) := cell_of_row _ _ _ _ _ _ A1.out
  have A1_2 : V11.cell? ⟨w.heap.size, 2, none⟩ = some (.int .i64 d) := cell_of_row _ _ _ _ _ _ A1.out
  have I1_0 : V11.cell? ⟨V2.heap.size, 0, none⟩ = some (.int .i64 y) := cell_of_row _ _ _ _ _ _ I1.out
  have I1_1 : V11.cell? ⟨V2.heap.size, 1, none⟩ = some (.int .i64 (m)) := cell_of_row _ _ _ _ _ _ I1.out
  have I1_2 : V11.cell? ⟨V2.heap.size, 2, none⟩ = some (.int .i64 d) := cell_of_row _ _ _ _ _ _ I1.out
  have J1_0 : V11.cell? ⟨V4.heap.size, 0, none⟩ = some (.int .i64 y) := cell_of_row _ _ _ _ _ _ J1.out
  have J1_1 : V11.cell? ⟨V4.heap.size, 1, none⟩ = some (.int .i64 (m)) := cell_of_row _ _ _ _ _ _ J1.out
  have J1_2 : V11.cell? ⟨V4.heap.size, 2, none⟩ = some (.int .i64 d) := cell_of_row _ _ _ _ _ _ J1.out
  have K1_0 : V11.cell? ⟨V5.heap.size, 0, none⟩ = some (.int .i64 (y)) := cell_of_row _ _ _ _ _ _ K1.out
  have K1_1 : V11.cell? ⟨V5.heap.size, 1, none⟩ = some (.int .i64 (m)) := cell_of_row _ _ _ _ _ _ K1.out
  have K1_2 : V11.cell? ⟨V5.heap.size, 2, none⟩ = some (.int .i64 (d + 1)) := cell_of_row _ _ _ _ _ _ K1.out
  have zA1 := lt_of_heap A1.out
  have zI1 := lt_of_heap I1.out
  have zJ1 := lt_of_heap J1.out
  have zK1 := lt_of_heap K1.out
  go_simp
  go_wp2
  go_ret
  exact ⟨rfl, by first | exact B11.out | exact B11.out.alloc B11.out.size _⟩
set_option maxHeartbeats 6400000 in
set_option maxRecDepth 100000 in
theorem back_month (y m d n o : Int) (h : BackH y m d n o) (y1 : -9999 ≤ y) (y2 : y ≤ 9999) (m1 : 1 ≤ m) (m2 : m ≤ 12) (d1 : 1 ≤ d) (d2 : d ≤ 31) (n1 : -4371587 ≤ n) (n2 : n ≤ 2932896)
    (q : ∀ w, MD w → Calls Tryd.prog 10 #[.int .i64 y, .int .i64 (m)] w fun e w' => e = .returned (.int .i64 d) ∧ Below w.heap.size w w')
    (hz : ∀ w, MD w → Calls Tryd.prog 19 #[.int .i64 (n + 1)] w fun e w' => e = .returned (.tuple #[.agg #[.int .i64 (y), .int .i64 (m + 1), .int .i64 (1)], .int .i64 0]) ∧ Below w.heap.size w w')
    (w : World) (hM : MD w) : Calls Tryd.prog 6 #[.agg #[.int .i64 y, .int .i64 m, .int .i64 d]] w fun e w' => e = .returned (.bool true) ∧ Below w.heap.size w w' := by
  have H1 := Lib.hid h.h1
  have H2 := Lib.hid h.h2
  have H3 := Lib.hid h.h3
  have H4 := Lib.hid h.h4
  have H5 := Lib.hid hz
  have H7 := Lib.hid awake6_any
  have H8 := Lib.hid q
  have X9 := fun w => grow_of (pWeekday_p (n + 1) w)
  rw [(wd_next n).1] at X9
  have w1 := (wd_next n).2.1
  have w2 := (wd_next n).2.2
  have HA := Lib.hid (fun w => grow_of (pWeekday_p n w))
  have XB := pCmp_any (y) (m + 1) (1) y m d
  have XC := pCmp_any y m d (y) (m + 1) (1)
  have lt : dLt y m d (y) (m + 1) (1) := by unfold dLt; omega
  rw [(ord3_lt lt).2] at XB
  rw [(ord3_lt lt).1] at XC
  have HB := Lib.hid XB
  have HC := Lib.hid XC
  clear h hz XB XC lt q
  generalize wdI n = W at *
  have H9 := Lib.hid X9
  clear X9
  replace hM := Lib.hid hM
  have f3 : IntKind.i64.wrap (m + 1) = m + 1 := by rw [IntKind.wrap_i64]; omega

  have f4 : IntKind.i64.wrap (y + 1) = y + 1 := by rw [IntKind.wrap_i64]; omega

  go_enter Tryd.func6, Tryd.ntmps6
  go_wp2_with fail
  
  refine (H1.out _ (by first | exact md_keep hM ((Below.refl w.heap.size w).alloc (Nat.le_refl _) _))).mono ?_
  rintro e V1 ⟨rfl, hb1⟩
  have B1 := Lib.hid (((Below.refl w.heap.size w).alloc (Nat.le_refl _) _).trans (hb1.mono (by first | assumption | (simp <;> omega) | (simp; done))))
  have A1 := Lib.hid (row_call hb1 (heap_alloc_new _ _))
  clear hb1
  have A1_0 : V1.cell? ⟨w.heap.size, 0, none⟩ = some (.int .i64 y) := cell_of_row _ _ _ _ _ _ A1.out
  have A1_1 : V1.cell? ⟨w.heap.size, 1, none⟩ = some (.int .i64 (m)) := cell_of_row _ _ _ _ _ _ A1.out
  have A1_2 : V1.cell? ⟨w.heap.size, 2, none⟩ = some (.int .i64 d) := cell_of_row _ _ _ _ _ _ A1.out
  have zA1 := lt_of_heap A1.out
  go_simp
  go_wp2_with fail
  refine (H2.out _ (by first | exact md_keep hM (B1.out) | exact md_keep hM ((B1.out).alloc (B1.out.size) _) | exact md_keep hM (((B1.out).alloc (B1.out.size) _).alloc (by have := B1.out.size; simp <;> omega) _) | exact md_keep hM ((((B1.out).alloc (B1.out.size) _).alloc (by have := B1.out.size; simp <;> omega) _).alloc (by have := B1.out.size; simp <;> omega) _))).mono ?_
  rintro e V2 ⟨rfl, hb2⟩
  clear A1_0 A1_1 A1_2 zA1
  have B2 : Hid (Below w.heap.size w V2) := by first | exact Lib.hid ((B1.out).trans (hb2.mono (by have := B1.out.size; first | assumption | (simp <;> omega) | (simp; done)))) | exact Lib.hid (((B1.out).alloc (B1.out.size) _).trans (hb2.mono (by have := B1.out.size; first | assumption | (simp <;> omega) | (simp; done)))) | exact Lib.hid ((((B1.out).alloc (B1.out.size) _).alloc (by have := B1.out.size; simp <;> omega) _).trans (hb2.mono (by have := B1.out.size; first | assumption | (simp <;> omega) | (simp; done)))) | exact Lib.hid (((((B1.out).alloc (B1.out.size) _).alloc (by have := B1.out.size; simp <;> omega) _).alloc (by have := B1.out.size; simp <;> omega) _).trans (hb2.mono (by have := B1.out.size; first | assumption | (simp <;> omega) | (simp; done))))
  first | replace A1 := Lib.hid (row_call hb2 A1.out) | replace A1 := Lib.hid (row_call hb2 (row_alloc A1.out _)) | replace A1 := Lib.hid (row_call hb2 (row_alloc (row_alloc A1.out _) _)) | replace A1 := Lib.hid (row_call hb2 (row_alloc (row_alloc (row_alloc A1.out _) _) _))
  clear hb2
  have A1_0 : V2.cell? ⟨w.heap.size, 0, none⟩ = some (.int .i64 y) := cell_of_row _ _ _ _ _ _ A1.out
  have A1_1 : V2.cell? ⟨w.heap.size, 1, none⟩ = some (.int .i64 (m)) := cell_of_row _ _ _ _ _ _ A1.out
  have A1_2 : V2.cell? ⟨w.heap.size, 2, none⟩ = some (.int .i64 d) := cell_of_row _ _ _ _ _ _ A1.out
  have zA1 := lt_of_heap A1.out
  go_simp
  go_wp2_with fail
  refine (H3.out _ (by first | exact md_keep hM ((B2.out).alloc (B2.out.size) _))).mono ?_
  rintro e V3 ⟨rfl, hb3⟩
  clear A1_0 A1_1 A1_2 zA1
  have nA1I1 := Lib.hid (lt_of_heap A1.out)
  have B3 := Lib.hid (((B2.out).alloc (B2.out.size) _).trans (hb3.mono (by have := B2.out.size; first | assumption | (simp <;> omega) | (simp; done))))
  replace A1 := Lib.hid (row_call hb3 (row_alloc A1.out _))
  have I1 := Lib.hid (row_call hb3 (heap_alloc_new _ _))
  clear hb3
  have A1_0 : V3.cell? ⟨w.heap.size, 0, none⟩ = some (.int .i64 y) := cell_of_row _ _ _ _ _ _ A1.out
  have A1_1 : V3.cell? ⟨w.heap.size, 1, none⟩ = some (.int .i64 (m)) := cell_of_row _ _ _ _ _ _ A1.out
  have A1_2 : V3.cell? ⟨w.heap.size, 2, none⟩ = some (.int .i64 d) := cell_of_row _ _ _ _ _ _ A1.out
  have I1_0 : V3.cell? ⟨V2.heap.size, 0, none⟩ = some (.int .i64 y) := cell_of_row _ _ _ _ _ _ I1.out
  have I1_1 : V3.cell? ⟨V2.heap.size, 1, none⟩ = some (.int .i64 (m)) := cell_of_row _ _ _ _ _ _ I1.out
  have I1_2 : V3.cell? ⟨V2.heap.size, 2, none⟩ = some (.int .i64 d) := cell_of_row _ _ _ _ _ _ I1.out
  have zA1 := lt_of_heap A1.out
  have zI1 := lt_of_heap I1.out
  go_simp
  go_wp2_with fail
  refine (H4.out _ (by first | exact md_keep hM (B3.out) | exact md_keep hM ((B3.out).alloc (B3.out.size) _) | exact md_keep hM (((B3.out).alloc (B3.out.size) _).alloc (by have := B3.out.size; simp <;> omega) _) | exact md_keep hM ((((B3.out).alloc (B3.out.size) _).alloc (by have := B3.out.size; simp <;> omega) _).alloc (by have := B3.out.size; simp <;> omega) _))).mono ?_
  rintro e V4 ⟨rfl, hb4⟩
  clear A1_0 A1_1 A1_2 zA1 I1_0 I1_1 I1_2 zI1
  have B4 : Hid (Below w.heap.size w V4) := by first | exact Lib.hid ((B3.out).trans (hb4.mono (by have := B3.out.size; first | assumption | (simp <;> omega) | (simp; done)))) | exact Lib.hid (((B3.out).alloc (B3.out.size) _).trans (hb4.mono (by have := B3.out.size; first | assumption | (simp <;> omega) | (simp; done)))) | exact Lib.hid ((((B3.out).alloc (B3.out.size) _).alloc (by have := B3.out.size; simp <;> omega) _).trans (hb4.mono (by have := B3.out.size; first | assumption | (simp <;> omega) | (simp; done)))) | exact Lib.hid (((((B3.out).alloc (B3.out.size) _).alloc (by have := B3.out.size; simp <;> omega) _).alloc (by have := B3.out.size; simp <;> omega) _).trans (hb4.mono (by have := B3.out.size; first | assumption | (simp <;> omega) | (simp; done))))
  first | replace A1 := Lib.hid (row_call hb4 A1.out) | replace A1 := Lib.hid (row_call hb4 (row_alloc A1.out _)) | replace A1 := Lib.hid (row_call hb4 (row_alloc (row_alloc A1.out _) _)) | replace A1 := Lib.hid (row_call hb4 (row_alloc (row_alloc (row_alloc A1.out _) _) _))
  first | replace I1 := Lib.hid (row_call hb4 I1.out) | replace I1 := Lib.hid (row_call hb4 (row_alloc I1.out _)) | replace I1 := Lib.hid (row_call hb4 (row_alloc (row_alloc I1.out _) _)) | replace I1 := Lib.hid (row_call hb4 (row_alloc (row_alloc (row_alloc I1.out _) _) _))
  clear hb4
  have A1_0 : V4.cell? ⟨w.heap.size, 0, none⟩ = some (.int .i64 y) := cell_of_row _ _ _ _ _ _ A1.out
  have A1_1 : V4.cell? ⟨w.heap.size, 1, none⟩ = some (.int .i64 (m)) := cell_of_row _ _ _ _ _ _ A1.out
  have A1_2 : V4.cell? ⟨w.heap.size, 2, none⟩ = some (.int .i64 d) := cell_of_row _ _ _ _ _ _ A1.out
  have I1_0 : V4.cell? ⟨V2.heap.size, 0, none⟩ = some (.int .i64 y) := cell_of_row _ _ _ _ _ _ I1.out
  have I1_1 : V4.cell? ⟨V2.heap.size, 1, none⟩ = some (.int .i64 (m)) := cell_of_row _ _ _ _ _ _ I1.out
  have I1_2 : V4.cell? ⟨V2.heap.size, 2, none⟩ = some (.int .i64 d) := cell_of_row _ _ _ _ _ _ I1.out
  have zA1 := lt_of_heap A1.out
  have zI1 := lt_of_heap I1.out
  go_simp
  go_wp2_with fail
  refine (H5.out _ (by first | exact md_keep hM ((B4.out).alloc (B4.out.size) _))).mono ?_
  rintro e V5 ⟨rfl, hb5⟩
  clear A1_0 A1_1 A1_2 zA1 I1_0 I1_1 I1_2 zI1
  have nA1J1 := Lib.hid (lt_of_heap A1.out)
  have nI1J1 := Lib.hid (lt_of_heap I1.out)
  have B5 := Lib.hid (((B4.out).alloc (B4.out.size) _).trans (hb5.mono (by have := B4.out.size; first | assumption | (simp <;> omega) | (simp; done))))
  replace A1 := Lib.hid (row_call hb5 (row_alloc A1.out _))
  replace I1 := Lib.hid (row_call hb5 (row_alloc I1.out _))
  have J1 := Lib.hid (row_call hb5 (heap_alloc_new _ _))
  clear hb5
  have A1_0 : V5.cell? ⟨w.heap.size, 0, none⟩ = some (.int .i64 y) := cell_of_row _ _ _ _ _ _ A1.out
  have A1_1 : V5.cell? ⟨w.heap.size, 1, none⟩ = some (.int .i64 (m)) := cell_of_row _ _ _ _ _ _ A1.out
  have A1_2 : V5.cell? ⟨w.heap.size, 2, none⟩ = some (.int .i64 d) := cell_of_row _ _ _ _ _ _ A1.out
  have I1_0 : V5.cell? ⟨V2.heap.size, 0, none⟩ = some (.int .i64 y) := cell_of_row _ _ _ _ _ _ I1.out
  have I1_1 : V5.cell? ⟨V2.heap.size, 1, none⟩ = some (.int .i64 (m)) := cell_of_row _ _ _ _ _ _ I1.out
  have I1_2 : V5.cell? ⟨V2.heap.size, 2, none⟩ = some (.int .i64 d) := cell_of_row _ _ _ _ _ _ I1.out
  have J1_0 : V5.cell? ⟨V4.heap.size, 0, none⟩ = some (.int .i64 y) := cell_of_row _ _ _ _ _ _ J1.out
  have J1_1 : V5.cell? ⟨V4.heap.size, 1, none⟩ = some (.int .i64 (m)) := cell_of_row _ _ _ _ _ _ J1.out
  have J1_2 : V5.cell? ⟨V4.heap.size, 2, none⟩ = some (.int .i64 d) := cell_of_row _ _ _ _ _ _ J1.out
  have zA1 := lt_of_heap A1.out
  have zI1 := lt_of_heap I1.out
  have zJ1 := lt_of_heap J1.out
  go_simp
  go_wp2_with fail
  obtain ⟨W0, hW0⟩ : ∃ W0, W0 = (V5.alloc (Obj.cells #[Value.int .i64 (y), Value.int .i64 (m + 1), Value.int .i64 (1)] 27)) := ⟨_, rfl⟩
  replace A1 := Lib.hid (row_by hW0 (row_alloc A1.out _))
  replace I1 := Lib.hid (row_by hW0 (row_alloc I1.out _))
  replace J1 := Lib.hid (row_by hW0 (row_alloc J1.out _))
  have K1 := Lib.hid (row_at (k' := V5.heap.size) (by simp) (row_by hW0 (heap_alloc_new _ _)))
  clear A1_0 A1_1 A1_2 zA1 I1_0 I1_1 I1_2 zI1 J1_0 J1_1 J1_2 zJ1
  have A1_0 : W0.cell? ⟨w.heap.size, 0, none⟩ = some (.int .i64 y) := cell_of_row _ _ _ _ _ _ A1.out
  have A1_1 : W0.cell? ⟨w.heap.size, 1, none⟩ = some (.int .i64 (m)) := cell_of_row _ _ _ _ _ _ A1.out
  have A1_2 : W0.cell? ⟨w.heap.size, 2, none⟩ = some (.int .i64 d) := cell_of_row _ _ _ _ _ _ A1.out
  have zA1 := lt_of_heap A1.out
  have I1_0 : W0.cell? ⟨V2.heap.size, 0, none⟩ = some (.int .i64 y) := cell_of_row _ _ _ _ _ _ I1.out
  have I1_1 : W0.cell? ⟨V2.heap.size, 1, none⟩ = some (.int .i64 (m)) := cell_of_row _ _ _ _ _ _ I1.out
  have I1_2 : W0.cell? ⟨V2.heap.size, 2, none⟩ = some (.int .i64 d) := cell_of_row _ _ _ _ _ _ I1.out
  have zI1 := lt_of_heap I1.out
  have J1_0 : W0.cell? ⟨V4.heap.size, 0, none⟩ = some (.int .i64 y) := cell_of_row _ _ _ _ _ _ J1.out
  have J1_1 : W0.cell? ⟨V4.heap.size, 1, none⟩ = some (.int .i64 (m)) := cell_of_row _ _ _ _ _ _ J1.out
  have J1_2 : W0.cell? ⟨V4.heap.size, 2, none⟩ = some (.int .i64 d) := cell_of_row _ _ _ _ _ _ J1.out
  have zJ1 := lt_of_heap J1.out
  have K1_0 : W0.cell? ⟨V5.heap.size, 0, none⟩ = some (.int .i64 (y)) := cell_of_row _ _ _ _ _ _ K1.out
  have K1_1 : W0.cell? ⟨V5.heap.size, 1, none⟩ = some (.int .i64 (m + 1)) := cell_of_row _ _ _ _ _ _ K1.out
  have K1_2 : W0.cell? ⟨V5.heap.size, 2, none⟩ = some (.int .i64 (1)) := cell_of_row _ _ _ _ _ _ K1.out
  have zK1 := lt_of_heap K1.out
  have HB0 := Lib.hid (below_by hW0 ((B5.out).alloc (B5.out.size) _))
  have zW0 := HB0.out.size
  have HW0 := Lib.hid hW0
  clear hW0
  try go_simp
  rw [← HW0.out]
  have hk0 : ∀ w2, Below W0.heap.size W0 w2 → w2.cell? ⟨w.heap.size, 0, none⟩ = some (.int .i64 y) := fun w2 hb => (by rw [hb.cell (p := ⟨w.heap.size, 0, none⟩) (by assumption)]; assumption)
  have hk1 : ∀ w2, Below W0.heap.size W0 w2 → w2.cell? ⟨w.heap.size, 1, none⟩ = some (.int .i64 (m)) := fun w2 hb => (by rw [hb.cell (p := ⟨w.heap.size, 1, none⟩) (by assumption)]; assumption)
  have hk2 : ∀ w2, Below W0.heap.size W0 w2 → w2.cell? ⟨w.heap.size, 2, none⟩ = some (.int .i64 d) := fun w2 hb => (by rw [hb.cell (p := ⟨w.heap.size, 2, none⟩) (by assumption)]; assumption)
  have hk3 : ∀ w2, Below W0.heap.size W0 w2 → w2.cell? ⟨V2.heap.size, 0, none⟩ = some (.int .i64 y) := fun w2 hb => (by rw [hb.cell (p := ⟨V2.heap.size, 0, none⟩) (by assumption)]; assumption)
  have hk4 : ∀ w2, Below W0.heap.size W0 w2 → w2.cell? ⟨V2.heap.size, 1, none⟩ = some (.int .i64 (m)) := fun w2 hb => (by rw [hb.cell (p := ⟨V2.heap.size, 1, none⟩) (by assumption)]; assumption)
  have hk5 : ∀ w2, Below W0.heap.size W0 w2 → w2.cell? ⟨V2.heap.size, 2, none⟩ = some (.int .i64 d) := fun w2 hb => (by rw [hb.cell (p := ⟨V2.heap.size, 2, none⟩) (by assumption)]; assumption)
  have hk6 : ∀ w2, Below W0.heap.size W0 w2 → w2.cell? ⟨V4.heap.size, 0, none⟩ = some (.int .i64 y) := fun w2 hb => (by rw [hb.cell (p := ⟨V4.heap.size, 0, none⟩) (by assumption)]; assumption)
  have hk7 : ∀ w2, Below W0.heap.size W0 w2 → w2.cell? ⟨V4.heap.size, 1, none⟩ = some (.int .i64 (m)) := fun w2 hb => (by rw [hb.cell (p := ⟨V4.heap.size, 1, none⟩) (by assumption)]; assumption)
  have hk8 : ∀ w2, Below W0.heap.size W0 w2 → w2.cell? ⟨V4.heap.size, 2, none⟩ = some (.int .i64 d) := fun w2 hb => (by rw [hb.cell (p := ⟨V4.heap.size, 2, none⟩) (by assumption)]; assumption)
  have hk9 : ∀ w2, Below W0.heap.size W0 w2 → w2.cell? ⟨V5.heap.size, 0, none⟩ = some (.int .i64 (y)) := fun w2 hb => (by rw [hb.cell (p := ⟨V5.heap.size, 0, none⟩) (by assumption)]; assumption)
  have hk10 : ∀ w2, Below W0.heap.size W0 w2 → w2.cell? ⟨V5.heap.size, 1, none⟩ = some (.int .i64 (m + 1)) := fun w2 hb => (by rw [hb.cell (p := ⟨V5.heap.size, 1, none⟩) (by assumption)]; assumption)
  have hk11 : ∀ w2, Below W0.heap.size W0 w2 → w2.cell? ⟨V5.heap.size, 2, none⟩ = some (.int .i64 (1)) := fun w2 hb => (by rw [hb.cell (p := ⟨V5.heap.size, 2, none⟩) (by assumption)]; assumption)
  clear A1_0 A1_1 A1_2 I1_0 I1_1 I1_2 J1_0 J1_1 J1_2 K1_0 K1_1 K1_2
  refine region_plan (S := fun w2 => Below W0.heap.size W0 w2) [(0, true), (1, true), (2, true), (3, true), (4, true), (5, true), (6, true), (7, true), (8, true), (9, true), (10, false), (11, true), (12, true), (13, true), (14, true), (15, true), (16, true), (17, true), (18, true), (19, true), (20, true), (21, true), (22, true), (23, true), (24, true), (25, true), (26, true), (27, true), (28, true), (29, true), (30, true), (31, true), (32, true), (33, true), (34, true), (35, true), (36, true), (37, true), (38, true), (39, true), (40, true), (41, true), (42, true), (43, true), (44, true), (45, true), (46, true)] (by as_aux_lemma => kernel_rfl) (by as_aux_lemma => kernel_rfl) (by as_aux_lemma => kernel_rfl) (by as_aux_lemma => kernel_rfl) (Below.refl W0.heap.size W0).drew ?_
  have Y0 := Lib.hid (Below.refl W0.heap.size W0).drew
  refine plan_yes (v := ?v1_2) (by simp only [List.getElem?_toArray, List.getElem?_cons_zero, List.getElem?_cons_succ]; exact rfl) (Or.inl ⟨by as_aux_lemma => rfl, ?hy1_2⟩) ?rest1_2
  case hy1_2 => (intro w2 hSw; (try dsimp only at hSw); go_simp; try with_reducible rfl)
  try simp only [Act.put, List.setIfInBounds_toArray, List.set_cons_zero, List.set_cons_succ]
  refine plan_yes (v := ?v2_2) (by simp only [List.getElem?_toArray, List.getElem?_cons_zero, List.getElem?_cons_succ]; exact rfl) (Or.inl ⟨by as_aux_lemma => rfl, ?hy2_2⟩) ?rest2_2
  case hy2_2 => (intro w2 hSw; (try dsimp only at hSw); go_simp; try with_reducible rfl)
  try simp only [Act.put, List.setIfInBounds_toArray, List.set_cons_zero, List.set_cons_succ]
  refine plan_yes (v := ?v3_2) (by simp only [List.getElem?_toArray, List.getElem?_cons_zero, List.getElem?_cons_succ]; exact rfl) (Or.inl ⟨by as_aux_lemma => rfl, ?hy3_2⟩) ?rest3_2
  case hy3_2 => (intro w2 hSw; (try dsimp only at hSw); go_simp; try with_reducible rfl)
  try simp only [Act.put, List.setIfInBounds_toArray, List.set_cons_zero, List.set_cons_succ]
  refine plan_yes (v := ?v4_2) (by simp only [List.getElem?_toArray, List.getElem?_cons_zero, List.getElem?_cons_succ]; exact rfl) (Or.inl ⟨by as_aux_lemma => rfl, ?hy4_2⟩) ?rest4_2
  case hy4_2 => (intro w2 hSw; (try dsimp only at hSw); go_simp; try with_reducible rfl)
  try simp only [Act.put, List.setIfInBounds_toArray, List.set_cons_zero, List.set_cons_succ]
  refine plan_yes (v := ?v5_2) (by simp only [List.getElem?_toArray, List.getElem?_cons_zero, List.getElem?_cons_succ]; exact rfl) (Or.inl ⟨by as_aux_lemma => rfl, ?hy5_2⟩) ?rest5_2
  case hy5_2 => (intro w2 hSw; (try dsimp only at hSw); go_simp; try with_reducible rfl)
  try simp only [Act.put, List.setIfInBounds_toArray, List.set_cons_zero, List.set_cons_succ]
  refine plan_yes (v := ?v6_2) (by simp only [List.getElem?_toArray, List.getElem?_cons_zero, List.getElem?_cons_succ]; exact rfl) (Or.inl ⟨by as_aux_lemma => rfl, ?hy6_2⟩) ?rest6_2
  case hy6_2 => (intro w2 hSw; (try dsimp only at hSw); go_simp; try with_reducible rfl)
  try simp only [Act.put, List.setIfInBounds_toArray, List.set_cons_zero, List.set_cons_succ]
  refine plan_yes (v := ?v7_2) (by simp only [List.getElem?_toArray, List.getElem?_cons_zero, List.getElem?_cons_succ]; exact rfl) (Or.inl ⟨by as_aux_lemma => rfl, ?hy7_2⟩) ?rest7_2
  case hy7_2 => (intro w2 hSw; (try dsimp only at hSw); go_simp; try with_reducible rfl)
  try simp only [Act.put, List.setIfInBounds_toArray, List.set_cons_zero, List.set_cons_succ]
  refine plan_yes (v := ?v8_2) (by simp only [List.getElem?_toArray, List.getElem?_cons_zero, List.getElem?_cons_succ]; exact rfl) (Or.inl ⟨by as_aux_lemma => rfl, ?hy8_2⟩) ?rest8_2
  case hy8_2 => (intro w2 hSw; (try dsimp only at hSw); go_simp; try with_reducible rfl)
  try simp only [Act.put, List.setIfInBounds_toArray, List.set_cons_zero, List.set_cons_succ]
  refine plan_yes (v := ?v9_2) (by simp only [List.getElem?_toArray, List.getElem?_cons_zero, List.getElem?_cons_succ]; exact rfl) (Or.inl ⟨by as_aux_lemma => rfl, ?hy9_2⟩) ?rest9_2
  case hy9_2 => (intro w2 hSw; (try dsimp only at hSw); go_simp; try with_reducible rfl)
  try simp only [Act.put, List.setIfInBounds_toArray, List.set_cons_zero, List.set_cons_succ]
  refine plan_yes (v := ?v10_2) (by simp only [List.getElem?_toArray, List.getElem?_cons_zero, List.getElem?_cons_succ]; exact rfl) (Or.inl ⟨by as_aux_lemma => rfl, ?hy10_2⟩) ?rest10_2
  case hy10_2 => (intro w2 hSw; (try dsimp only at hSw); go_simp; try with_reducible rfl)
  try simp only [Act.put, List.setIfInBounds_toArray, List.set_cons_zero, List.set_cons_succ]
  refine plan_calls (by simp only [List.getElem?_toArray, List.getElem?_cons_zero, List.getElem?_cons_succ]; exact rfl) (by as_aux_lemma => rfl) (fun K hK => ?_)
  go_simp
  refine (H8.out _ (md_keep (Lib.hid (md_keep hM HB0.out)) Y0.out)).mono ?_
  rintro e Y1w ⟨rfl, hb1⟩
  have Y1 := Lib.hid (keepS (W0 := W0) Y0.out hb1)
  clear hb1
  refine hK.out _ _ Y1.out ?_
  clear hK K
  try simp only [Act.put, List.setIfInBounds_toArray, List.set_cons_zero, List.set_cons_succ]
  as_aux_lemma =>
   refine plan_yes (v := ?v11_2) (by simp only [List.getElem?_toArray, List.getElem?_cons_zero, List.getElem?_cons_succ]; exact rfl) (Or.inl ⟨by as_aux_lemma => rfl, ?hy11_2⟩) ?rest11_2
   case hy11_2 => (intro w2 hSw; (try dsimp only at hSw); go_simp; try with_reducible rfl)
   try simp only [Act.put, List.setIfInBounds_toArray, List.set_cons_zero, List.set_cons_succ]
   refine plan_yes (v := ?v12_2) (by simp only [List.getElem?_toArray, List.getElem?_cons_zero, List.getElem?_cons_succ]; exact rfl) (Or.inl ⟨by as_aux_lemma => rfl, ?hy12_2⟩) ?rest12_2
   case hy12_2 => (intro w2 hSw; (try dsimp only at hSw); go_simp; try with_reducible rfl)
   try simp only [Act.put, List.setIfInBounds_toArray, List.set_cons_zero, List.set_cons_succ]
   refine plan_yes (v := ?v13_2) (by simp only [List.getElem?_toArray, List.getElem?_cons_zero, List.getElem?_cons_succ]; exact rfl) (Or.inl ⟨by as_aux_lemma => rfl, ?hy13_2⟩) ?rest13_2
   case hy13_2 => (intro w2 hSw; (try dsimp only at hSw); go_simp; try with_reducible rfl)
   try simp only [Act.put, List.setIfInBounds_toArray, List.set_cons_zero, List.set_cons_succ]
   refine plan_yes (v := ?v14_2) (by simp only [List.getElem?_toArray, List.getElem?_cons_zero, List.getElem?_cons_succ]; exact rfl) (Or.inl ⟨by as_aux_lemma => rfl, ?hy14_2⟩) ?rest14_2
   case hy14_2 => (intro w2 hSw; (try dsimp only at hSw); go_simp; try with_reducible rfl)
   try simp only [Act.put, List.setIfInBounds_toArray, List.set_cons_zero, List.set_cons_succ]
   refine plan_yes (v := ?v15_2) (by simp only [List.getElem?_toArray, List.getElem?_cons_zero, List.getElem?_cons_succ]; exact rfl) (Or.inl ⟨by as_aux_lemma => rfl, ?hy15_2⟩) ?rest15_2
   case hy15_2 => (intro w2 hSw; (try dsimp only at hSw); go_simp; try with_reducible rfl)
   try simp only [Act.put, List.setIfInBounds_toArray, List.set_cons_zero, List.set_cons_succ]
   refine plan_yes (v := ?v16_2) (by simp only [List.getElem?_toArray, List.getElem?_cons_zero, List.getElem?_cons_succ]; exact rfl) (Or.inl ⟨by as_aux_lemma => rfl, ?hy16_2⟩) ?rest16_2
   case hy16_2 => (intro w2 hSw; (try dsimp only at hSw); go_simp; try with_reducible rfl)
   try simp only [Act.put, List.setIfInBounds_toArray, List.set_cons_zero, List.set_cons_succ]
   refine plan_yes (v := ?v17_2) (by simp only [List.getElem?_toArray, List.getElem?_cons_zero, List.getElem?_cons_succ]; exact rfl) (Or.inl ⟨by as_aux_lemma => rfl, ?hy17_2⟩) ?rest17_2
   case hy17_2 => (intro w2 hSw; (try dsimp only at hSw); go_simp; try with_reducible rfl)
   try simp only [Act.put, List.setIfInBounds_toArray, List.set_cons_zero, List.set_cons_succ]
   refine plan_yes (v := ?v18_2) (by simp only [List.getElem?_toArray, List.getElem?_cons_zero, List.getElem?_cons_succ]; exact rfl) (Or.inl ⟨by as_aux_lemma => rfl, ?hy18_2⟩) ?rest18_2
   case hy18_2 => (intro w2 hSw; (try dsimp only at hSw); go_simp; try with_reducible rfl)
   try simp only [Act.put, List.setIfInBounds_toArray, List.set_cons_zero, List.set_cons_succ]
   refine plan_yes (v := ?v19_2) (by simp only [List.getElem?_toArray, List.getElem?_cons_zero, List.getElem?_cons_succ]; exact rfl) (Or.inl ⟨by as_aux_lemma => rfl, ?hy19_2⟩) ?rest19_2
   case hy19_2 => (intro w2 hSw; (try dsimp only at hSw); go_simp; try with_reducible rfl)
   try simp only [Act.put, List.setIfInBounds_toArray, List.set_cons_zero, List.set_cons_succ]
   refine plan_yes (v := ?v20_2) (by simp only [List.getElem?_toArray, List.getElem?_cons_zero, List.getElem?_cons_succ]; exact rfl) (Or.inl ⟨by as_aux_lemma => rfl, ?hy20_2⟩) ?rest20_2
   case hy20_2 => (intro w2 hSw; (try dsimp only at hSw); go_simp; try with_reducible rfl)
   try simp only [Act.put, List.setIfInBounds_toArray, List.set_cons_zero, List.set_cons_succ]
   refine plan_yes (v := ?v21_2) (by simp only [List.getElem?_toArray, List.getElem?_cons_zero, List.getElem?_cons_succ]; exact rfl) (Or.inl ⟨by as_aux_lemma => rfl, ?hy21_2⟩) ?rest21_2
   case hy21_2 => (intro w2 hSw; (try dsimp only at hSw); go_simp; try with_reducible rfl)
   try simp only [Act.put, List.setIfInBounds_toArray, List.set_cons_zero, List.set_cons_succ]
   refine plan_yes (v := ?v22_2) (by simp only [List.getElem?_toArray, List.getElem?_cons_zero, List.getElem?_cons_succ]; exact rfl) (Or.inl ⟨by as_aux_lemma => rfl, ?hy22_2⟩) ?rest22_2
   case hy22_2 => (intro w2 hSw; (try dsimp only at hSw); go_simp; try with_reducible rfl)
   try simp only [Act.put, List.setIfInBounds_toArray, List.set_cons_zero, List.set_cons_succ]
   refine plan_yes (v := ?v23_2) (by simp only [List.getElem?_toArray, List.getElem?_cons_zero, List.getElem?_cons_succ]; exact rfl) (Or.inl ⟨by as_aux_lemma => rfl, ?hy23_2⟩) ?rest23_2
   case hy23_2 => (intro w2 hSw; (try dsimp only at hSw); go_simp; try with_reducible rfl)
   try simp only [Act.put, List.setIfInBounds_toArray, List.set_cons_zero, List.set_cons_succ]
   refine plan_yes (v := ?v24_2) (by simp only [List.getElem?_toArray, List.getElem?_cons_zero, List.getElem?_cons_succ]; exact rfl) (Or.inl ⟨by as_aux_lemma => rfl, ?hy24_2⟩) ?rest24_2
   case hy24_2 => (intro w2 hSw; (try dsimp only at hSw); go_simp; try with_reducible rfl)
   try simp only [Act.put, List.setIfInBounds_toArray, List.set_cons_zero, List.set_cons_succ]
   refine plan_yes (v := ?v25_2) (by simp only [List.getElem?_toArray, List.getElem?_cons_zero, List.getElem?_cons_succ]; exact rfl) (Or.inl ⟨by as_aux_lemma => rfl, ?hy25_2⟩) ?rest25_2
   case hy25_2 => (intro w2 hSw; (try dsimp only at hSw); go_simp; try with_reducible rfl)
   try simp only [Act.put, List.setIfInBounds_toArray, List.set_cons_zero, List.set_cons_succ]
   refine plan_yes (v := ?v26_2) (by simp only [List.getElem?_toArray, List.getElem?_cons_zero, List.getElem?_cons_succ]; exact rfl) (Or.inl ⟨by as_aux_lemma => rfl, ?hy26_2⟩) ?rest26_2
   case hy26_2 => (intro w2 hSw; (try dsimp only at hSw); go_simp; try with_reducible rfl)
   try simp only [Act.put, List.setIfInBounds_toArray, List.set_cons_zero, List.set_cons_succ]
   refine plan_yes (v := ?v27_2) (by simp only [List.getElem?_toArray, List.getElem?_cons_zero, List.getElem?_cons_succ]; exact rfl) (Or.inl ⟨by as_aux_lemma => rfl, ?hy27_2⟩) ?rest27_2
   case hy27_2 => (intro w2 hSw; (try dsimp only at hSw); go_simp; try with_reducible rfl)
   try simp only [Act.put, List.setIfInBounds_toArray, List.set_cons_zero, List.set_cons_succ]
   refine plan_yes (v := undef) (by simp only [List.getElem?_toArray, List.getElem?_cons_zero, List.getElem?_cons_succ]; exact rfl) (Or.inr ⟨by as_aux_lemma => rfl, rfl⟩) ?_
   try simp only [Act.put, List.setIfInBounds_toArray, List.set_cons_zero, List.set_cons_succ]
   refine plan_yes (v := undef) (by simp only [List.getElem?_toArray, List.getElem?_cons_zero, List.getElem?_cons_succ]; exact rfl) (Or.inr ⟨by as_aux_lemma => rfl, rfl⟩) ?_
   try simp only [Act.put, List.setIfInBounds_toArray, List.set_cons_zero, List.set_cons_succ]
   refine plan_yes (v := undef) (by simp only [List.getElem?_toArray, List.getElem?_cons_zero, List.getElem?_cons_succ]; exact rfl) (Or.inr ⟨by as_aux_lemma => rfl, rfl⟩) ?_
   try simp only [Act.put, List.setIfInBounds_toArray, List.set_cons_zero, List.set_cons_succ]
   refine plan_yes (v := undef) (by simp only [List.getElem?_toArray, List.getElem?_cons_zero, List.getElem?_cons_succ]; exact rfl) (Or.inr ⟨by as_aux_lemma => rfl, rfl⟩) ?_
   try simp only [Act.put, List.setIfInBounds_toArray, List.set_cons_zero, List.set_cons_succ]
   refine plan_yes (v := undef) (by simp only [List.getElem?_toArray, List.getElem?_cons_zero, List.getElem?_cons_succ]; exact rfl) (Or.inr ⟨by as_aux_lemma => rfl, rfl⟩) ?_
   try simp only [Act.put, List.setIfInBounds_toArray, List.set_cons_zero, List.set_cons_succ]
   refine plan_yes (v := undef) (by simp only [List.getElem?_toArray, List.getElem?_cons_zero, List.getElem?_cons_succ]; exact rfl) (Or.inr ⟨by as_aux_lemma => rfl, rfl⟩) ?_
   try simp only [Act.put, List.setIfInBounds_toArray, List.set_cons_zero, List.set_cons_succ]
   refine plan_yes (v := undef) (by simp only [List.getElem?_toArray, List.getElem?_cons_zero, List.getElem?_cons_succ]; exact rfl) (Or.inr ⟨by as_aux_lemma => rfl, rfl⟩) ?_
   try simp only [Act.put, List.setIfInBounds_toArray, List.set_cons_zero, List.set_cons_succ]
   refine plan_yes (v := undef) (by simp only [List.getElem?_toArray, List.getElem?_cons_zero, List.getElem?_cons_succ]; exact rfl) (Or.inr ⟨by as_aux_lemma => rfl, rfl⟩) ?_
   try simp only [Act.put, List.setIfInBounds_toArray, List.set_cons_zero, List.set_cons_succ]
   refine plan_yes (v := undef) (by simp only [List.getElem?_toArray, List.getElem?_cons_zero, List.getElem?_cons_succ]; exact rfl) (Or.inr ⟨by as_aux_lemma => rfl, rfl⟩) ?_
   try simp only [Act.put, List.setIfInBounds_toArray, List.set_cons_zero, List.set_cons_succ]
   refine plan_yes (v := undef) (by simp only [List.getElem?_toArray, List.getElem?_cons_zero, List.getElem?_cons_succ]; exact rfl) (Or.inr ⟨by as_aux_lemma => rfl, rfl⟩) ?_
   try simp only [Act.put, List.setIfInBounds_toArray, List.set_cons_zero, List.set_cons_succ]
   refine plan_yes (v := undef) (by simp only [List.getElem?_toArray, List.getElem?_cons_zero, List.getElem?_cons_succ]; exact rfl) (Or.inr ⟨by as_aux_lemma => rfl, rfl⟩) ?_
   try simp only [Act.put, List.setIfInBounds_toArray, List.set_cons_zero, List.set_cons_succ]
   refine plan_yes (v := undef) (by simp only [List.getElem?_toArray, List.getElem?_cons_zero, List.getElem?_cons_succ]; exact rfl) (Or.inr ⟨by as_aux_lemma => rfl, rfl⟩) ?_
   try simp only [Act.put, List.setIfInBounds_toArray, List.set_cons_zero, List.set_cons_succ]
   refine plan_yes (v := undef) (by simp only [List.getElem?_toArray, List.getElem?_cons_zero, List.getElem?_cons_succ]; exact rfl) (Or.inr ⟨by as_aux_lemma => rfl, rfl⟩) ?_
   try simp only [Act.put, List.setIfInBounds_toArray, List.set_cons_zero, List.set_cons_succ]
   refine plan_yes (v := undef) (by simp only [List.getElem?_toArray, List.getElem?_cons_zero, List.getElem?_cons_succ]; exact rfl) (Or.inr ⟨by as_aux_lemma => rfl, rfl⟩) ?_
   try simp only [Act.put, List.setIfInBounds_toArray, List.set_cons_zero, List.set_cons_succ]
   refine plan_yes (v := undef) (by simp only [List.getElem?_toArray, List.getElem?_cons_zero, List.getElem?_cons_succ]; exact rfl) (Or.inr ⟨by as_aux_lemma => rfl, rfl⟩) ?_
   try simp only [Act.put, List.setIfInBounds_toArray, List.set_cons_zero, List.set_cons_succ]
   refine plan_yes (v := undef) (by simp only [List.getElem?_toArray, List.getElem?_cons_zero, List.getElem?_cons_succ]; exact rfl) (Or.inr ⟨by as_aux_lemma => rfl, rfl⟩) ?_
   try simp only [Act.put, List.setIfInBounds_toArray, List.set_cons_zero, List.set_cons_succ]
   refine plan_yes (v := ?v28_2) (by simp only [List.getElem?_toArray, List.getElem?_cons_zero, List.getElem?_cons_succ]; exact rfl) (Or.inl ⟨by as_aux_lemma => rfl, ?hy28_2⟩) ?rest28_2
   case hy28_2 => (intro w2 hSw; (try dsimp only at hSw); go_simp; try with_reducible rfl)
   try simp only [Act.put, List.setIfInBounds_toArray, List.set_cons_zero, List.set_cons_succ]
   refine plan_yes (v := ?v29_2) (by simp only [List.getElem?_toArray, List.getElem?_cons_zero, List.getElem?_cons_succ]; exact rfl) (Or.inl ⟨by as_aux_lemma => rfl, ?hy29_2⟩) ?rest29_2
   case hy29_2 => (intro w2 hSw; (try dsimp only at hSw); go_simp; try with_reducible rfl)
   try simp only [Act.put, List.setIfInBounds_toArray, List.set_cons_zero, List.set_cons_succ]
   refine plan_yes (v := ?v30_2) (by simp only [List.getElem?_toArray, List.getElem?_cons_zero, List.getElem?_cons_succ]; exact rfl) (Or.inl ⟨by as_aux_lemma => rfl, ?hy30_2⟩) ?rest30_2
   case hy30_2 => (intro w2 hSw; (try dsimp only at hSw); go_simp; try with_reducible rfl)
   try simp only [Act.put, List.setIfInBounds_toArray, List.set_cons_zero, List.set_cons_succ]
   refine plan_done (NoPanic.normal ?_)
   have B0 := Y1.out
   have BW := Lib.hid (HB0.out.trans (B0.mono zW0))
   replace A1 := Lib.hid (row_call B0 A1.out)
   replace I1 := Lib.hid (row_call B0 I1.out)
   replace J1 := Lib.hid (row_call B0 J1.out)
   replace K1 := Lib.hid (row_call B0 K1.out)
   have B6 := BW
   clear BW B0 hk0 hk1 hk2 hk3 hk4 hk5 hk6 hk7 hk8 hk9 hk10 hk11 zA1 zI1 zJ1 zK1 Y0 Y1
   obtain ⟨V6, rfl⟩ : ∃ V, V = Y1w := ⟨_, rfl⟩
   have A1_0 : V6.cell? ⟨w.heap.size, 0, none⟩ = some (.int .i64 y) := cell_of_row _ _ _ _ _ _ A1.out
   have A1_1 : V6.cell? ⟨w.heap.size, 1, none⟩ = some (.int .i64 (m)) := cell_of_row _ _ _ _ _ _ A1.out
   have A1_2 : V6.cell? ⟨w.heap.size, 2, none⟩ = some (.int .i64 d) := cell_of_row _ _ _ _ _ _ A1.out
   have zA1 := lt_of_heap A1.out
   have I1_0 : V6.cell? ⟨V2.heap.size, 0, none⟩ = some (.int .i64 y) := cell_of_row _ _ _ _ _ _ I1.out
   have I1_1 : V6.cell? ⟨V2.heap.size, 1, none⟩ = some (.int .i64 (m)) := cell_of_row _ _ _ _ _ _ I1.out
   have I1_2 : V6.cell? ⟨V2.heap.size, 2, none⟩ = some (.int .i64 d) := cell_of_row _ _ _ _ _ _ I1.out
   have zI1 := lt_of_heap I1.out
   have J1_0 : V6.cell? ⟨V4.heap.size, 0, none⟩ = some (.int .i64 y) := cell_of_row _ _ _ _ _ _ J1.out
   have J1_1 : V6.cell? ⟨V4.heap.size, 1, none⟩ = some (.int .i64 (m)) := cell_of_row _ _ _ _ _ _ J1.out
   have J1_2 : V6.cell? ⟨V4.heap.size, 2, none⟩ = some (.int .i64 d) := cell_of_row _ _ _ _ _ _ J1.out
   have zJ1 := lt_of_heap J1.out
   have K1_0 : V6.cell? ⟨V5.heap.size, 0, none⟩ = some (.int .i64 (y)) := cell_of_row _ _ _ _ _ _ K1.out
   have K1_1 : V6.cell? ⟨V5.heap.size, 1, none⟩ = some (.int .i64 (m + 1)) := cell_of_row _ _ _ _ _ _ K1.out
   have K1_2 : V6.cell? ⟨V5.heap.size, 2, none⟩ = some (.int .i64 (1)) := cell_of_row _ _ _ _ _ _ K1.out
   have zK1 := lt_of_heap K1.out
   go_simp
   go_wp2_with fail
   refine (H9.out _).mono ?_
   rintro e V7 ⟨rfl, hb7⟩
   clear A1_0 A1_1 A1_2 zA1 I1_0 I1_1 I1_2 zI1 J1_0 J1_1 J1_2 zJ1 K1_0 K1_1 K1_2 zK1
   have B7 : Hid (Below w.heap.size w V7) := by first | exact Lib.hid ((B6.out).trans (hb7.mono (by have := B6.out.size; first | assumption | (simp <;> omega) | (simp; done)))) | exact Lib.hid (((B6.out).alloc (B6.out.size) _).trans (hb7.mono (by have := B6.out.size; first | assumption | (simp <;> omega) | (simp; done)))) | exact Lib.hid ((((B6.out).alloc (B6.out.size) _).alloc (by have := B6.out.size; simp <;> omega) _).trans (hb7.mono (by have := B6.out.size; first | assumption | (simp <;> omega) | (simp; done)))) | exact Lib.hid (((((B6.out).alloc (B6.out.size) _).alloc (by have := B6.out.size; simp <;> omega) _).alloc (by have := B6.out.size; simp <;> omega) _).trans (hb7.mono (by have := B6.out.size; first | assumption | (simp <;> omega) | (simp; done))))
   first | replace A1 := Lib.hid (row_call hb7 A1.out) | replace A1 := Lib.hid (row_call hb7 (row_alloc A1.out _)) | replace A1 := Lib.hid (row_call hb7 (row_alloc (row_alloc A1.out _) _)) | replace A1 := Lib.hid (row_call hb7 (row_alloc (row_alloc (row_alloc A1.out _) _) _))
   first | replace I1 := Lib.hid (row_call hb7 I1.out) | replace I1 := Lib.hid (row_call hb7 (row_alloc I1.out _)) | replace I1 := Lib.hid (row_call hb7 (row_alloc (row_alloc I1.out _) _)) | replace I1 := Lib.hid (row_call hb7 (row_alloc (row_alloc (row_alloc I1.out _) _) _))
   first | replace J1 := Lib.hid (row_call hb7 J1.out) | replace J1 := Lib.hid (row_call hb7 (row_alloc J1.out _)) | replace J1 := Lib.hid (row_call hb7 (row_alloc (row_alloc J1.out _) _)) | replace J1 := Lib.hid (row_call hb7 (row_alloc (row_alloc (row_alloc J1.out _) _) _))
   first | replace K1 := Lib.hid (row_call hb7 K1.out) | replace K1 := Lib.hid (row_call hb7 (row_alloc K1.out _)) | replace K1 := Lib.hid (row_call hb7 (row_alloc (row_alloc K1.out _) _)) | replace K1 := Lib.hid (row_call hb7 (row_alloc (row_alloc (row_alloc K1.out _) _) _))
   clear hb7
   have A1_0 : V7.cell? ⟨w.heap.size, 0, none⟩ = some (.int .i64 y) := cell_of_row _ _ _ _ _ _ A1.out
   have A1_1 : V7.cell? ⟨w.heap.size, 1, none⟩ = some (.int .i64 (m)) := cell_of_row _ _ _ _ _ _ A1.out
   have A1_2 : V7.cell? ⟨w.heap.size, 2, none⟩ = some (.int .i64 d) := cell_of_row _ _ _ _ _ _ A1.out
   have I1_0 : V7.cell? ⟨V2.heap.size, 0, none⟩ = some (.int .i64 y) := cell_of_row _ _ _ _ _ _ I1.out
   have I1_1 : V7.cell? ⟨V2.heap.size, 1, none⟩ = some (.int .i64 (m)) := cell_of_row _ _ _ _ _ _ I1.out
   have I1_2 : V7.cell? ⟨V2.heap.size, 2, none⟩ = some (.int .i64 d) := cell_of_row _ _ _ _ _ _ I1.out
   have J1_0 : V7.cell? ⟨V4.heap.size, 0, none⟩ = some (.int .i64 y) := cell_of_row _ _ _ _ _ _ J1.out
   have J1_1 : V7.cell? ⟨V4.heap.size, 1, none⟩ = some (.int .i64 (m)) := cell_of_row _ _ _ _ _ _ J1.out
   have J1_2 : V7.cell? ⟨V4.heap.size, 2, none⟩ = some (.int .i64 d) := cell_of_row _ _ _ _ _ _ J1.out
   have K1_0 : V7.cell? ⟨V5.heap.size, 0, none⟩ = some (.int .i64 (y)) := cell_of_row _ _ _ _ _ _ K1.out
   have K1_1 : V7.cell? ⟨V5.heap.size, 1, none⟩ = some (.int .i64 (m + 1)) := cell_of_row _ _ _ _ _ _ K1.out
   have K1_2 : V7.cell? ⟨V5.heap.size, 2, none⟩ = some (.int .i64 (1)) := cell_of_row _ _ _ _ _ _ K1.out
   have zA1 := lt_of_heap A1.out
   have zI1 := lt_of_heap I1.out
   have zJ1 := lt_of_heap J1.out
   have zK1 := lt_of_heap K1.out
   go_simp
   go_wp2_with fail
   refine (HA.out _).mono ?_
   rintro e V8 ⟨rfl, hb8⟩
   clear A1_0 A1_1 A1_2 zA1 I1_0 I1_1 I1_2 zI1 J1_0 J1_1 J1_2 zJ1 K1_0 K1_1 K1_2 zK1
   have B8 : Hid (Below w.heap.size w V8) := by first | exact Lib.hid ((B7.out).trans (hb8.mono (by have := B7.out.size; first | assumption | (simp <;> omega) | (simp; done)))) | exact Lib.hid (((B7.out).alloc (B7.out.size) _).trans (hb8.mono (by have := B7.out.size; first | assumption | (simp <;> omega) | (simp; done)))) | exact Lib.hid ((((B7.out).alloc (B7.out.size) _).alloc (by have := B7.out.size; simp <;> omega) _).trans (hb8.mono (by have := B7.out.size; first | assumption | (simp <;> omega) | (simp; done)))) | exact Lib.hid (((((B7.out).alloc (B7.out.size) _).alloc (by have := B7.out.size; simp <;> omega) _).alloc (by have := B7.out.size; simp <;> omega) _).trans (hb8.mono (by have := B7.out.size; first | assumption | (simp <;> omega) | (simp; done))))
   first | replace A1 := Lib.hid (row_call hb8 A1.out) | replace A1 := Lib.hid (row_call hb8 (row_alloc A1.out _)) | replace A1 := Lib.hid (row_call hb8 (row_alloc (row_alloc A1.out _) _)) | replace A1 := Lib.hid (row_call hb8 (row_alloc (row_alloc (row_alloc A1.out _) _) _))
   first | replace I1 := Lib.hid (row_call hb8 I1.out) | replace I1 := Lib.hid (row_call hb8 (row_alloc I1.out _)) | replace I1 := Lib.hid (row_call hb8 (row_alloc (row_alloc I1.out _) _)) | replace I1 := Lib.hid (row_call hb8 (row_alloc (row_alloc (row_alloc I1.out _) _) _))
   first | replace J1 := Lib.hid (row_call hb8 J1.out) | replace J1 := Lib.hid (row_call hb8 (row_alloc J1.out _)) | replace J1 := Lib.hid (row_call hb8 (row_alloc (row_alloc J1.out _) _)) | replace J1 := Lib.hid (row_call hb8 (row_alloc (row_alloc (row_alloc J1.out _) _) _))
   first | replace K1 := Lib.hid (row_call hb8 K1.out) | replace K1 := Lib.hid (row_call hb8 (row_alloc K1.out _)) | replace K1 := Lib.hid (row_call hb8 (row_alloc (row_alloc K1.out _) _)) | replace K1 := Lib.hid (row_call hb8 (row_alloc (row_alloc (row_alloc K1.out _) _) _))
   clear hb8
   have A1_0 : V8.cell? ⟨w.heap.size, 0, none⟩ = some (.int .i64 y) := cell_of_row _ _ _ _ _ _ A1.out
   have A1_1 : V8.cell? ⟨w.heap.size, 1, none⟩ = some (.int .i64 (m)) := cell_of_row _ _ _ _ _ _ A1.out
   have A1_2 : V8.cell? ⟨w.heap.size, 2, none⟩ = some (.int .i64 d) := cell_of_row _ _ _ _ _ _ A1.out
   have I1_0 : V8.cell? ⟨V2.heap.size, 0, none⟩ = some (.int .i64 y) := cell_of_row _ _ _ _ _ _ I1.out
   have I1_1 : V8.cell? ⟨V2.heap.size, 1, none⟩ = some (.int .i64 (m)) := cell_of_row _ _ _ _ _ _ I1.out
   have I1_2 : V8.cell? ⟨V2.heap.size, 2, none⟩ = some (.int .i64 d) := cell_of_row _ _ _ _ _ _ I1.out
   have J1_0 : V8.cell? ⟨V4.heap.size, 0, none⟩ = some (.int .i64 y) := cell_of_row _ _ _ _ _ _ J1.out
   have J1_1 : V8.cell? ⟨V4.heap.size, 1, none⟩ = some (.int .i64 (m)) := cell_of_row _ _ _ _ _ _ J1.out
   have J1_2 : V8.cell? ⟨V4.heap.size, 2, none⟩ = some (.int .i64 d) := cell_of_row _ _ _ _ _ _ J1.out
   have K1_0 : V8.cell? ⟨V5.heap.size, 0, none⟩ = some (.int .i64 (y)) := cell_of_row _ _ _ _ _ _ K1.out
   have K1_1 : V8.cell? ⟨V5.heap.size, 1, none⟩ = some (.int .i64 (m + 1)) := cell_of_row _ _ _ _ _ _ K1.out
   have K1_2 : V8.cell? ⟨V5.heap.size, 2, none⟩ = some (.int .i64 (1)) := cell_of_row _ _ _ _ _ _ K1.out
   have zA1 := lt_of_heap A1.out
   have zI1 := lt_of_heap I1.out
   have zJ1 := lt_of_heap J1.out
   have zK1 := lt_of_heap K1.out
   go_simp
   go_wp2_with fail
   refine (HB.out _).mono ?_
   rintro e V9 ⟨rfl, hb9⟩
   clear A1_0 A1_1 A1_2 zA1 I1_0 I1_1 I1_2 zI1 J1_0 J1_1 J1_2 zJ1 K1_0 K1_1 K1_2 zK1
   have B9 : Hid (Below w.heap.size w V9) := by first | exact Lib.hid ((B8.out).trans (hb9.mono (by have := B8.out.size; first | assumption | (simp <;> omega) | (simp; done)))) | exact Lib.hid (((B8.out).alloc (B8.out.size) _).trans (hb9.mono (by have := B8.out.size; first | assumption | (simp <;> omega) | (simp; done)))) | exact Lib.hid ((((B8.out).alloc (B8.out.size) _).alloc (by have := B8.out.size; simp <;> omega) _).trans (hb9.mono (by have := B8.out.size; first | assumption | (simp <;> omega) | (simp; done)))) | exact Lib.hid (((((B8.out).alloc (B8.out.size) _).alloc (by have := B8.out.size; simp <;> omega) _).alloc (by have := B8.out.size; simp <;> omega) _).trans (hb9.mono (by have := B8.out.size; first | assumption | (simp <;> omega) | (simp; done))))
   first | replace A1 := Lib.hid (row_call hb9 A1.out) | replace A1 := Lib.hid (row_call hb9 (row_alloc A1.out _)) | replace A1 := Lib.hid (row_call hb9 (row_alloc (row_alloc A1.out _) _)) | replace A1 := Lib.hid (row_call hb9 (row_alloc (row_alloc (row_alloc A1.out _) _) _))
   first | replace I1 := Lib.hid (row_call hb9 I1.out) | replace I1 := Lib.hid (row_call hb9 (row_alloc I1.out _)) | replace I1 := Lib.hid (row_call hb9 (row_alloc (row_alloc I1.out _) _)) | replace I1 := Lib.hid (row_call hb9 (row_alloc (row_alloc (row_alloc I1.out _) _) _))
   first | replace J1 := Lib.hid (row_call hb9 J1.out) | replace J1 := Lib.hid (row_call hb9 (row_alloc J1.out _)) | replace J1 := Lib.hid (row_call hb9 (row_alloc (row_alloc J1.out _) _)) | replace J1 := Lib.hid (row_call hb9 (row_alloc (row_alloc (row_alloc J1.out _) _) _))
   first | replace K1 := Lib.hid (row_call hb9 K1.out) | replace K1 := Lib.hid (row_call hb9 (row_alloc K1.out _)) | replace K1 := Lib.hid (row_call hb9 (row_alloc (row_alloc K1.out _) _)) | replace K1 := Lib.hid (row_call hb9 (row_alloc (row_alloc (row_alloc K1.out _) _) _))
   clear hb9
   have A1_0 : V9.cell? ⟨w.heap.size, 0, none⟩ = some (.int .i64 y) := cell_of_row _ _ _ _ _ _ A1.out
   have A1_1 : V9.cell? ⟨w.heap.size, 1, none⟩ = some (.int .i64 (m)) := cell_of_row _ _ _ _ _ _ A1.out
   have A1_2 : V9.cell? ⟨w.heap.size, 2, none⟩ = some (.int .i64 d) := cell_of_row _ _ _ _ _ _ A1.out
   have I1_0 : V9.cell? ⟨V2.heap.size, 0, none⟩ = some (.int .i64 y) := cell_of_row _ _ _ _ _ _ I1.out
   have I1_1 : V9.cell? ⟨V2.heap.size, 1, none⟩ = some (.int .i64 (m)) := cell_of_row _ _ _ _ _ _ I1.out
   have I1_2 : V9.cell? ⟨V2.heap.size, 2, none⟩ = some (.int .i64 d) := cell_of_row _ _ _ _ _ _ I1.out
   have J1_0 : V9.cell? ⟨V4.heap.size, 0, none⟩ = some (.int .i64 y) := cell_of_row _ _ _ _ _ _ J1.out
   have J1_1 : V9.cell? ⟨V4.heap.size, 1, none⟩ = some (.int .i64 (m)) := cell_of_row _ _ _ _ _ _ J1.out
   have J1_2 : V9.cell? ⟨V4.heap.size, 2, none⟩ = some (.int .i64 d) := cell_of_row _ _ _ _ _ _ J1.out
   have K1_0 : V9.cell? ⟨V5.heap.size, 0, none⟩ = some (.int .i64 (y)) := cell_of_row _ _ _ _ _ _ K1.out
   have K1_1 : V9.cell? ⟨V5.heap.size, 1, none⟩ = some (.int .i64 (m + 1)) := cell_of_row _ _ _ _ _ _ K1.out
   have K1_2 : V9.cell? ⟨V5.heap.size, 2, none⟩ = some (.int .i64 (1)) := cell_of_row _ _ _ _ _ _ K1.out
   have zA1 := lt_of_heap A1.out
   have zI1 := lt_of_heap I1.out
   have zJ1 := lt_of_heap J1.out
   have zK1 := lt_of_heap K1.out
   go_simp
   go_wp2_with fail
   refine (HC.out _).mono ?_
   rintro e V10 ⟨rfl, hb10⟩
   clear A1_0 A1_1 A1_2 zA1 I1_0 I1_1 I1_2 zI1 J1_0 J1_1 J1_2 zJ1 K1_0 K1_1 K1_2 zK1
   have B10 : Hid (Below w.heap.size w V10) := by first | exact Lib.hid ((B9.out).trans (hb10.mono (by have := B9.out.size; first | assumption | (simp <;> omega) | (simp; done)))) | exact Lib.hid (((B9.out).alloc (B9.out.size) _).trans (hb10.mono (by have := B9.out.size; first | assumption | (simp <;> omega) | (simp; done)))) | exact Lib.hid ((((B9.out).alloc (B9.out.size) _).alloc (by have := B9.out.size; simp <;> omega) _).trans (hb10.mono (by have := B9.out.size; first | assumption | (simp <;> omega) | (simp; done)))) | exact Lib.hid (((((B9.out).alloc (B9.out.size) _).alloc (by have := B9.out.size; simp <;> omega) _).alloc (by have := B9.out.size; simp <;> omega) _).trans (hb10.mono (by have := B9.out.size; first | assumption | (simp <;> omega) | (simp; done))))
   first | replace A1 := Lib.hid (row_call hb10 A1.out) | replace A1 := Lib.hid (row_call hb10 (row_alloc A1.out _)) | replace A1 := Lib.hid (row_call hb10 (row_alloc (row_alloc A1.out _) _)) | replace A1 := Lib.hid (row_call hb10 (row_alloc (row_alloc (row_alloc A1.out _) _) _))
   first | replace I1 := Lib.hid (row_call hb10 I1.out) | replace I1 := Lib.hid (row_call hb10 (row_alloc I1.out _)) | replace I1 := Lib.hid (row_call hb10 (row_alloc (row_alloc I1.out _) _)) | replace I1 := Lib.hid (row_call hb10 (row_alloc (row_alloc (row_alloc I1.out _) _) _))
   first | replace J1 := Lib.hid (row_call hb10 J1.out) | replace J1 := Lib.hid (row_call hb10 (row_alloc J1.out _)) | replace J1 := Lib.hid (row_call hb10 (row_alloc (row_alloc J1.out _) _)) | replace J1 := Lib.hid (row_call hb10 (row_alloc (row_alloc (row_alloc J1.out _) _) _))
   first | replace K1 := Lib.hid (row_call hb10 K1.out) | replace K1 := Lib.hid (row_call hb10 (row_alloc K1.out _)) | replace K1 := Lib.hid (row_call hb10 (row_alloc (row_alloc K1.out _) _)) | replace K1 := Lib.hid (row_call hb10 (row_alloc (row_alloc (row_alloc K1.out _) _) _))
   clear hb10
   have A1_0 : V10.cell? ⟨w.heap.size, 0, none⟩ = some (.int .i64 y) := cell_of_row _ _ _ _ _ _ A1.out
   have A1_1 : V10.cell? ⟨w.heap.size, 1, none⟩ = some (.int .i64 (m)) := cell_of_row _ _ _ _ _ _ A1.out
   have A1_2 : V10.cell? ⟨w.heap.size, 2, none⟩ = some (.int .i64 d) := cell_of_row _ _ _ _ _ _ A1.out
   have I1_0 : V10.cell? ⟨V2.heap.size, 0, none⟩ = some (.int .i64 y) := cell_of_row _ _ _ _ _ _ I1.out
   have I1_1 : V10.cell? ⟨V2.heap.size, 1, none⟩ = some (.int .i64 (m)) := cell_of_row _ _ _ _ _ _ I1.out
   have I1_2 : V10.cell? ⟨V2.heap.size, 2, none⟩ = some (.int .i64 d) := cell_of_row _ _ _ _ _ _ I1.out
   have J1_0 : V10.cell? ⟨V4.heap.size, 0, none⟩ = some (.int .i64 y) := cell_of_row _ _ _ _ _ _ J1.out
   have J1_1 : V10.cell? ⟨V4.heap.size, 1, none⟩ = some (.int .i64 (m)) := cell_of_row _ _ _ _ _ _ J1.out
   have J1_2 : V10.cell? ⟨V4.heap.size, 2, none⟩ = some (.int .i64 d) := cell_of_row _ _ _ _ _ _ J1.out
   have K1_0 : V10.cell? ⟨V5.heap.size, 0, none⟩ = some (.int .i64 (y)) := cell_of_row _ _ _ _ _ _ K1.out
   have K1_1 : V10.cell? ⟨V5.heap.size, 1, none⟩ = some (.int .i64 (m + 1)) := cell_of_row _ _ _ _ _ _ K1.out
   have K1_2 : V10.cell? ⟨V5.heap.size, 2, none⟩ = some (.int .i64 (1)) := cell_of_row _ _ _ _ _ _ K1.out
   have zA1 := lt_of_heap A1.out
   have zI1 := lt_of_heap I1.out
   have zJ1 := lt_of_heap J1.out
   have zK1 := lt_of_heap K1.out
   go_simp
   go_wp2_with fail
   refine (H7.out _ (by first | exact md_keep hM (B10.out) | exact md_keep hM ((B10.out).alloc (B10.out.size) _) | exact md_keep hM (((B10.out).alloc (B10.out.size) _).alloc (by have := B10.out.size; simp <;> omega) _) | exact md_keep hM ((((B10.out).alloc (B10.out.size) _).alloc (by have := B10.out.size; simp <;> omega) _).alloc (by have := B10.out.size; simp <;> omega) _))).mono ?_
   rintro e V11 ⟨rfl, hb11⟩
   clear A1_0 A1_1 A1_2 zA1 I1_0 I1_1 I1_2 zI1 J1_0 J1_1 J1_2 zJ1 K1_0 K1_1 K1_2 zK1
   have B11 : Hid (Below w.heap.size w V11) := by first | exact Lib.hid ((B10.out).trans (hb11.mono (by have := B10.out.size; first | assumption | (simp <;> omega) | (simp; done)))) | exact Lib.hid (((B10.out).alloc (B10.out.size) _).trans (hb11.mono (by have := B10.out.size; first | assumption | (simp <;> omega) | (simp; done)))) | exact Lib.hid ((((B10.out).alloc (B10.out.size) _).alloc (by have := B10.out.size; simp <;> omega) _).trans (hb11.mono (by have := B10.out.size; first | assumption | (simp <;> omega) | (simp; done)))) | exact Lib.hid (((((B10.out).alloc (B10.out.size) _).alloc (by have := B10.out.size; simp <;> omega) _).alloc (by have := B10.out.size; simp <;> omega) _).trans (hb11.mono (by have := B10.out.size; first | assumption | (simp <;> omega) | (simp; done))))
   first | replace A1 := Lib.hid (row_call hb11 A1.out) | replace A1 := Lib.hid (row_call hb11 (row_alloc A1.out _)) | replace A1 := Lib.hid (row_call hb11 (row_alloc (row_alloc A1.out _) _)) | replace A1 := Lib.hid (row_call hb11 (row_alloc (row_alloc (row_alloc A1.out _) _) _))
   first | replace I1 := Lib.hid (row_call hb11 I1.out) | replace I1 := Lib.hid (row_call hb11 (row_alloc I1.out _)) | replace I1 := Lib.hid (row_call hb11 (row_alloc (row_alloc I1.out _) _)) | replace I1 := Lib.hid (row_call hb11 (row_alloc (row_alloc (row_alloc I1.out _) _) _))
   first | replace J1 := Lib.hid (row_call hb11 J1.out) | replace J1 := Lib.hid (row_call hb11 (row_alloc J1.out _)) | replace J1 := Lib.hid (row_call hb11 (row_alloc (row_alloc J1.out _) _)) | replace J1 := Lib.hid (row_call hb11 (row_alloc (row_alloc (row_alloc J1.out _) _) _))
   first | replace K1 := Lib.hid (row_call hb11 K1.out) | replace K1 := Lib.hid (row_call hb11 (row_alloc K1.out _)) | replace K1 := Lib.hid (row_call hb11 (row_alloc (row_alloc K1.out _) _)) | replace K1 := Lib.hid (row_call hb11 (row_alloc (row_alloc (row_alloc K1.out _) _) _))
   clear hb11
   have A1_0 : V11.cell? ⟨w.heap.size, 0, none⟩ = some (.int .i64 y) := cell_of_row _ _ _ _ _ _ A1.out
   have A1_1 : V11.cell? ⟨w.heap.size, 1, none⟩ = some (.int .i64 (m)) := cell_of_row _ _ _ _ _ _ A1.out
   have A1_2 : V11.cell? ⟨w.heap.size, 2, none⟩ = some (.int .i64 d) := cell_of_row _ _ _ _ _ _ A1.out
   have I1_0 : V11.cell? ⟨V2.heap.size, 0, none⟩ = some (.int .i64 y) := cell_of_row _ _ _ _ _ _ I1.out
   have I1_1 : V11.cell? ⟨V2.heap.size, 1, none⟩ = some (.int .i64 (m)) := cell_of_row _ _ _ _ _ _ I1.out
   have I1_2 : V11.cell? ⟨V2.heap.size, 2, none⟩ = some (.int .i64 d) := cell_of_row _ _ _ _ _ _ I1.out
   have J1_0 : V11.cell? ⟨V4.heap.size, 0, none⟩ = some (.int .i64 y) := cell_of_row _ _ _ _ _ _ J1.out
   have J1_1 : V11.cell? ⟨V4.heap.size, 1, none⟩ = some (.int .i64 (m)) := cell_of_row _ _ _ _ _ _ J1.out
   have J1_2 : V11.cell? ⟨V4.heap.size, 2, none⟩ = some (.int .i64 d) := cell_of_row _ _ _ _ _ _ J1.out
   have K1_0 : V11.cell? ⟨V5.heap.size, 0, none⟩ = some (.int .i64 (y)) := cell_of_row _ _ _ _ _ _ K1.out
   have K1_1 : V11.cell? ⟨V5.heap.size, 1, none⟩ = some (.int .i64 (m + 1)) := cell_of_row _ _ _ _ _ _ K1.out
   have K1_2 : V11.cell? ⟨V5.heap.size, 2, none⟩ = some (.int .i64 (1)) := cell_of_row _ _ _ _ _ _ K1.out
   have zA1 := lt_of_heap A1.out
   have zI1 := lt_of_heap I1.out
   have zJ1 := lt_of_heap J1.out
   have zK1 := lt_of_heap K1.out
   go_simp
   go_wp2
   go_ret
   exact ⟨rfl, by first | exact B11.out | exact B11.out.alloc B11.out.size _⟩
set_option maxHeartbeats 6400000 in
set_option maxRecDepth 100000 in
theorem back_year (y d n o : Int) (h : BackH y 12 d n o) (y1 : -9999 ≤ y) (y2 : y ≤ 9999) (d1 : 1 ≤ d) (d2 : d ≤ 31) (n1 : -4371587 ≤ n) (n2 : n ≤ 2932896)
    (q : ∀ w, MD w → Calls Tryd.prog 10 #[.int .i64 y, .int .i64 (12)] w fun e w' => e = .returned (.int .i64 d) ∧ Below w.heap.size w w')
    (hz : ∀ w, MD w → Calls Tryd.prog 19 #[.int .i64 (n + 1)] w fun e w' => e = .returned (.tuple #[.agg #[.int .i64 (y + 1), .int .i64 (1), .int .i64 (1)], .int .i64 0]) ∧ Below w.heap.size w w')
    (w : World) (hM : MD w) : Calls Tryd.prog 6 #[.agg #[.int .i64 y, .int .i64 12, .int .i64 d]] w fun e w' => e = .returned (.bool true) ∧ Below w.heap.size w w' := by
  have H1 := Lib.hid h.h1
  have H2 := Lib.hid h.h2
  have H3 := Lib.hid h.h3
  have H4 := Lib.hid h.h4
  have H5 := Lib.hid hz
  have H7 := Lib.hid awake6_any
  have H8 := Lib.hid q
  have X9 := fun w => grow_of (pWeekday_p (n + 1) w)
  rw [(wd_next n).1] at X9
  have w1 := (wd_next n).2.1
  have w2 := (wd_next n).2.2
  have HA := Lib.hid (fun w => grow_of (pWeekday_p n w))
  have XB := pCmp_any (y + 1) (1) (1) y 12 d
  have XC := pCmp_any y 12 d (y + 1) (1) (1)
  have lt : dLt y 12 d (y + 1) (1) (1) := by unfold dLt; omega
  rw [(ord3_lt lt).2] at XB
  rw [(ord3_lt lt).1] at XC
  have HB := Lib.hid XB
  have HC := Lib.hid XC
  clear h hz XB XC lt q
  generalize wdI n = W at *
  have H9 := Lib.hid X9
  clear X9
  replace hM := Lib.hid hM

  have g3 : (y + 1 == y) = false := by rw [beq_eq_false_iff_ne]; omega
  have g4 : decide (y + 1 = y) = false := decide_eq_false (by omega)
  have f4 : IntKind.i64.wrap (y + 1) = y + 1 := by rw [IntKind.wrap_i64]; omega

  go_enter Tryd.func6, Tryd.ntmps6
  go_wp2_with fail
  
  refine (H1.out _ (by first | exact md_keep hM ((Below.refl w.heap.size w).alloc (Nat.le_refl _) _))).mono ?_
  rintro e V1 ⟨rfl, hb1⟩
  have B1 := Lib.hid (((Below.refl w.heap.size w).alloc (Nat.le_refl _) _).trans (hb1.mono (by first | assumption | (simp <;> omega) | (simp; done))))
  have A1 := Lib.hid (row_call hb1 (heap_alloc_new _ _))
  clear hb1
  have A1_0 : V1.cell? ⟨w.heap.size, 0, none⟩ = some (.int .i64 y) := cell_of_row _ _ _ _ _ _ A1.out
  have A1_1 : V1.cell? ⟨w.heap.size, 1, none⟩ = some (.int .i64 (12)) := cell_of_row _ _ _ _ _ _ A1.out
  have A1_2 : V1.cell? ⟨w.heap.size, 2, none⟩ = some (.int .i64 d) := cell_of_row _ _ _ _ _ _ A1.out
  have zA1 := lt_of_heap A1.out
  go_simp
  go_wp2_with fail
  refine (H2.out _ (by first | exact md_keep hM (B1.out) | exact md_keep hM ((B1.out).alloc (B1.out.size) _) | exact md_keep hM (((B1.out).alloc (B1.out.size) _).alloc (by have := B1.out.size; simp <;> omega) _) | exact md_keep hM ((((B1.out).alloc (B1.out.size) _).alloc (by have := B1.out.size; simp <;> omega) _).alloc (by have := B1.out.size; simp <;> omega) _))).mono ?_
  rintro e V2 ⟨rfl, hb2⟩
  clear A1_0 A1_1 A1_2 zA1
  have B2 : Hid (Below w.heap.size w V2) := by first | exact Lib.hid ((B1.out).trans (hb2.mono (by have := B1.out.size; first | assumption | (simp <;> omega) | (simp; done)))) | exact Lib.hid (((B1.out).alloc (B1.out.size) _).trans (hb2.mono (by have := B1.out.size; first | assumption | (simp <;> omega) | (simp; done)))) | exact Lib.hid ((((B1.out).alloc (B1.out.size) _).alloc (by have := B1.out.size; simp <;> omega) _).trans (hb2.mono (by have := B1.out.size; first | assumption | (simp <;> omega) | (simp; done)))) | exact Lib.hid (((((B1.out).alloc (B1.out.size) _).alloc (by have := B1.out.size; simp <;> omega) _).alloc (by have := B1.out.size; simp <;> omega) _).trans (hb2.mono (by have := B1.out.size; first | assumption | (simp <;> omega) | (simp; done))))
  first | replace A1 := Lib.hid (row_call hb2 A1.out) | replace A1 := Lib.hid (row_call hb2 (row_alloc A1.out _)) | replace A1 := Lib.hid (row_call hb2 (row_alloc (row_alloc A1.out _) _)) | replace A1 := Lib.hid (row_call hb2 (row_alloc (row_alloc (row_alloc A1.out _) _) _))
  clear hb2
  have A1_0 : V2.cell? ⟨w.heap.size, 0, none⟩ = some (.int .i64 y) := cell_of_row _ _ _ _ _ _ A1.out
  have A1_1 : V2.cell? ⟨w.heap.size, 1, none⟩ = some (.int .i64 (12)) := cell_of_row _ _ _ _ _ _ A1.out
  have A1_2 : V2.cell? ⟨w.heap.size, 2, none⟩ = some (.int .i64 d) := cell_of_row _ _ _ _ _ _ A1.out
  have zA1 := lt_of_heap A1.out
  go_simp
  go_wp2_with fail
  refine (H3.out _ (by first | exact md_keep hM ((B2.out).alloc (B2.out.size) _))).mono ?_
  rintro e V3 ⟨rfl, hb3⟩
  clear A1_0 A1_1 A1_2 zA1
  have nA1I1 := Lib.hid (lt_of_heap A1.out)
  have B3 := Lib.hid (((B2.out).alloc (B2.out.size) _).trans (hb3.mono (by have := B2.out.size; first | assumption | (simp <;> omega) | (simp; done))))
  replace A1 := Lib.hid (row_call hb3 (row_alloc A1.out _))
  have I1 := Lib.hid (row_call hb3 (heap_alloc_new _ _))
  clear hb3
  have A1_0 : V3.cell? ⟨w.heap.size, 0, none⟩ = some (.int .i64 y) := cell_of_row _ _ _ _ _ _ A1.out
  have A1_1 : V3.cell? ⟨w.heap.size, 1, none⟩ = some (.int .i64 (12)) := cell_of_row _ _ _ _ _ _ A1.out
  have A1_2 : V3.cell? ⟨w.heap.size, 2, none⟩ = some (.int .i64 d) := cell_of_row _ _ _ _ _ _ A1.out
  have I1_0 : V3.cell? ⟨V2.heap.size, 0, none⟩ = some (.int .i64 y) := cell_of_row _ _ _ _ _ _ I1.out
  have I1_1 : V3.cell? ⟨V2.heap.size, 1, none⟩ = some (.int .i64 (12)) := cell_of_row _ _ _ _ _ _ I1.out
  have I1_2 : V3.cell? ⟨V2.heap.size, 2, none⟩ = some (.int .i64 d) := cell_of_row _ _ _ _ _ _ I1.out
  have zA1 := lt_of_heap A1.out
  have zI1 := lt_of_heap I1.out
  go_simp
  go_wp2_with fail
  refine (H4.out _ (by first | exact md_keep hM (B3.out) | exact md_keep hM ((B3.out).alloc (B3.out.size) _) | exact md_keep hM (((B3.out).alloc (B3.out.size) _).alloc (by have := B3.out.size; simp <;> omega) _) | exact md_keep hM ((((B3.out).alloc (B3.out.size) _).alloc (by have := B3.out.size; simp <;> omega) _).alloc (by have := B3.out.size; simp <;> omega) _))).mono ?_
  rintro e V4 ⟨rfl, hb4⟩
  clear A1_0 A1_1 A1_2 zA1 I1_0 I1_1 I1_2 zI1
  have B4 : Hid (Below w.heap.size w V4) := by first | exact Lib.hid ((B3.out).trans (hb4.mono (by have := B3.out.size; first | assumption | (simp <;> omega) | (simp; done)))) | exact Lib.hid (((B3.out).alloc (B3.out.size) _).trans (hb4.mono (by have := B3.out.size; first | assumption | (simp <;> omega) | (simp; done)))) | exact Lib.hid ((((B3.out).alloc (B3.out.size) _).alloc (by have := B3.out.size; simp <;> omega) _).trans (hb4.mono (by have := B3.out.size; first | assumption | (simp <;> omega) | (simp; done)))) | exact Lib.hid (((((B3.out).alloc (B3.out.size) _).alloc (by have := B3.out.size; simp <;> omega) _).alloc (by have := B3.out.size; simp <;> omega) _).trans (hb4.mono (by have := B3.out.size; first | assumption | (simp <;> omega) | (simp; done))))
  first | replace A1 := Lib.hid (row_call hb4 A1.out) | replace A1 := Lib.hid (row_call hb4 (row_alloc A1.out _)) | replace A1 := Lib.hid (row_call hb4 (row_alloc (row_alloc A1.out _) _)) | replace A1 := Lib.hid (row_call hb4 (row_alloc (row_alloc (row_alloc A1.out _) _) _))
  first | replace I1 := Lib.hid (row_call hb4 I1.out) | replace I1 := Lib.hid (row_call hb4 (row_alloc I1.out _)) | replace I1 := Lib.hid (row_call hb4 (row_alloc (row_alloc I1.out _) _)) | replace I1 := Lib.hid (row_call hb4 (row_alloc (row_alloc (row_alloc I1.out _) _) _))
  clear hb4
  have A1_0 : V4.cell? ⟨w.heap.size, 0, none⟩ = some (.int .i64 y) := cell_of_row _ _ _ _ _ _ A1.out
  have A1_1 : V4.cell? ⟨w.heap.size, 1, none⟩ = some (.int .i64 (12)) := cell_of_row _ _ _ _ _ _ A1.out
  have A1_2 : V4.cell? ⟨w.heap.size, 2, none⟩ = some (.int .i64 d) := cell_of_row _ _ _ _ _ _ A1.out
  have I1_0 : V4.cell? ⟨V2.heap.size, 0, none⟩ = some (.int .i64 y) := cell_of_row _ _ _ _ _ _ I1.out
  have I1_1 : V4.cell? ⟨V2.heap.size, 1, none⟩ = some (.int .i64 (12)) := cell_of_row _ _ _ _ _ _ I1.out
  have I1_2 : V4.cell? ⟨V2.heap.size, 2, none⟩ = some (.int .i64 d) := cell_of_row _ _ _ _ _ _ I1.out
  have zA1 := lt_of_heap A1.out
  have zI1 := lt_of_heap I1.out
  go_simp
  go_wp2_with fail
  refine (H5.out _ (by first | exact md_keep hM ((B4.out).alloc (B4.out.size) _))).mono ?_
  rintro e V5 ⟨rfl, hb5⟩
  clear A1_0 A1_1 A1_2 zA1 I1_0 I1_1 I1_2 zI1
  have nA1J1 := Lib.hid (lt_of_heap A1.out)
  have nI1J1 := Lib.hid (lt_of_heap I1.out)
  have B5 := Lib.hid (((B4.out).alloc (B4.out.size) _).trans (hb5.mono (by have := B4.out.size; first | assumption | (simp <;> omega) | (simp; done))))
  replace A1 := Lib.hid (row_call hb5 (row_alloc A1.out _))
  replace I1 := Lib.hid (row_call hb5 (row_alloc I1.out _))
  have J1 := Lib.hid (row_call hb5 (heap_alloc_new _ _))
  clear hb5
  have A1_0 : V5.cell? ⟨w.heap.size, 0, none⟩ = some (.int .i64 y) := cell_of_row _ _ _ _ _ _ A1.out
  have A1_1 : V5.cell? ⟨w.heap.size, 1, none⟩ = some (.int .i64 (12)) := cell_of_row _ _ _ _ _ _ A1.out
  have A1_2 : V5.cell? ⟨w.heap.size, 2, none⟩ = some (.int .i64 d) := cell_of_row _ _ _ _ _ _ A1.out
  have I1_0 : V5.cell? ⟨V2.heap.size, 0, none⟩ = some (.int .i64 y) := cell_of_row _ _ _ _ _ _ I1.out
  have I1_1 : V5.cell? ⟨V2.heap.size, 1, none⟩ = some (.int .i64 (12)) := cell_of_row _ _ _ _ _ _ I1.out
  have I1_2 : V5.cell? ⟨V2.heap.size, 2, none⟩ = some (.int .i64 d) := cell_of_row _ _ _ _ _ _ I1.out
  have J1_0 : V5.cell? ⟨V4.heap.size, 0, none⟩ = some (.int .i64 y) := cell_of_row _ _ _ _ _ _ J1.out
  have J1_1 : V5.cell? ⟨V4.heap.size, 1, none⟩ = some (.int .i64 (12)) := cell_of_row _ _ _ _ _ _ J1.out
  have J1_2 : V5.cell? ⟨V4.heap.size, 2, none⟩ = some (.int .i64 d) := cell_of_row _ _ _ _ _ _ J1.out
  have zA1 := lt_of_heap A1.out
  have zI1 := lt_of_heap I1.out
  have zJ1 := lt_of_heap J1.out
  go_simp
  go_wp2_with fail
  obtain ⟨W0, hW0⟩ : ∃ W0, W0 = (V5.alloc (Obj.cells #[Value.int .i64 (y + 1), Value.int .i64 (1), Value.int .i64 (1)] 27)) := ⟨_, rfl⟩
  replace A1 := Lib.hid (row_by hW0 (row_alloc A1.out _))
  replace I1 := Lib.hid (row_by hW0 (row_alloc I1.out _))
  replace J1 := Lib.hid (row_by hW0 (row_alloc J1.out _))
  have K1 := Lib.hid (row_at (k' := V5.heap.size) (by simp) (row_by hW0 (heap_alloc_new _ _)))
  clear A1_0 A1_1 A1_2 zA1 I1_0 I1_1 I1_2 zI1 J1_0 J1_1 J1_2 zJ1
  have A1_0 : W0.cell? ⟨w.heap.size, 0, none⟩ = some (.int .i64 y) := cell_of_row _ _ _ _ _ _ A1.out
  have A1_1 : W0.cell? ⟨w.heap.size, 1, none⟩ = some (.int .i64 (12)) := cell_of_row _ _ _ _ _ _ A1.out
  have A1_2 : W0.cell? ⟨w.heap.size, 2, none⟩ = some (.int .i64 d) := cell_of_row _ _ _ _ _ _ A1.out
  have zA1 := lt_of_heap A1.out
  have I1_0 : W0.cell? ⟨V2.heap.size, 0, none⟩ = some (.int .i64 y) := cell_of_row _ _ _ _ _ _ I1.out
  have I1_1 : W0.cell? ⟨V2.heap.size, 1, none⟩ = some (.int .i64 (12)) := cell_of_row _ _ _ _ _ _ I1.out
  have I1_2 : W0.cell? ⟨V2.heap.size, 2, none⟩ = some (.int .i64 d) := cell_of_row _ _ _ _ _ _ I1.out
  have zI1 := lt_of_heap I1.out
  have J1_0 : W0.cell? ⟨V4.heap.size, 0, none⟩ = some (.int .i64 y) := cell_of_row _ _ _ _ _ _ J1.out
  have J1_1 : W0.cell? ⟨V4.heap.size, 1, none⟩ = some (.int .i64 (12)) := cell_of_row _ _ _ _ _ _ J1.out
  have J1_2 : W0.cell? ⟨V4.heap.size, 2, none⟩ = some (.int .i64 d) := cell_of_row _ _ _ _ _ _ J1.out
  have zJ1 := lt_of_heap J1.out
  have K1_0 : W0.cell? ⟨V5.heap.size, 0, none⟩ = some (.int .i64 (y + 1)) := cell_of_row _ _ _ _ _ _ K1.out
  have K1_1 : W0.cell? ⟨V5.heap.size, 1, none⟩ = some (.int .i64 (1)) := cell_of_row _ _ _ _ _ _ K1.out
  have K1_2 : W0.cell? ⟨V5.heap.size, 2, none⟩ = some (.int .i64 (1)) := cell_of_row _ _ _ _ _ _ K1.out
  have zK1 := lt_of_heap K1.out
  have HB0 := Lib.hid (below_by hW0 ((B5.out).alloc (B5.out.size) _))
  have zW0 := HB0.out.size
  have HW0 := Lib.hid hW0
  clear hW0
  try go_simp
  rw [← HW0.out]
  have hk0 : ∀ w2, Below W0.heap.size W0 w2 → w2.cell? ⟨w.heap.size, 0, none⟩ = some (.int .i64 y) := fun w2 hb => (by rw [hb.cell (p := ⟨w.heap.size, 0, none⟩) (by assumption)]; assumption)
  have hk1 : ∀ w2, Below W0.heap.size W0 w2 → w2.cell? ⟨w.heap.size, 1, none⟩ = some (.int .i64 (12)) := fun w2 hb => (by rw [hb.cell (p := ⟨w.heap.size, 1, none⟩) (by assumption)]; assumption)
  have hk2 : ∀ w2, Below W0.heap.size W0 w2 → w2.cell? ⟨w.heap.size, 2, none⟩ = some (.int .i64 d) := fun w2 hb => (by rw [hb.cell (p := ⟨w.heap.size, 2, none⟩) (by assumption)]; assumption)
  have hk3 : ∀ w2, Below W0.heap.size W0 w2 → w2.cell? ⟨V2.heap.size, 0, none⟩ = some (.int .i64 y) := fun w2 hb => (by rw [hb.cell (p := ⟨V2.heap.size, 0, none⟩) (by assumption)]; assumption)
  have hk4 : ∀ w2, Below W0.heap.size W0 w2 → w2.cell? ⟨V2.heap.size, 1, none⟩ = some (.int .i64 (12)) := fun w2 hb => (by rw [hb.cell (p := ⟨V2.heap.size, 1, none⟩) (by assumption)]; assumption)
  have hk5 : ∀ w2, Below W0.heap.size W0 w2 → w2.cell? ⟨V2.heap.size, 2, none⟩ = some (.int .i64 d) := fun w2 hb => (by rw [hb.cell (p := ⟨V2.heap.size, 2, none⟩) (by assumption)]; assumption)
  have hk6 : ∀ w2, Below W0.heap.size W0 w2 → w2.cell? ⟨V4.heap.size, 0, none⟩ = some (.int .i64 y) := fun w2 hb => (by rw [hb.cell (p := ⟨V4.heap.size, 0, none⟩) (by assumption)]; assumption)
  have hk7 : ∀ w2, Below W0.heap.size W0 w2 → w2.cell? ⟨V4.heap.size, 1, none⟩ = some (.int .i64 (12)) := fun w2 hb => (by rw [hb.cell (p := ⟨V4.heap.size, 1, none⟩) (by assumption)]; assumption)
  have hk8 : ∀ w2, Below W0.heap.size W0 w2 → w2.cell? ⟨V4.heap.size, 2, none⟩ = some (.int .i64 d) := fun w2 hb => (by rw [hb.cell (p := ⟨V4.heap.size, 2, none⟩) (by assumption)]; assumption)
  have hk9 : ∀ w2, Below W0.heap.size W0 w2 → w2.cell? ⟨V5.heap.size, 0, none⟩ = some (.int .i64 (y + 1)) := fun w2 hb => (by rw [hb.cell (p := ⟨V5.heap.size, 0, none⟩) (by assumption)]; assumption)
  have hk10 : ∀ w2, Below W0.heap.size W0 w2 → w2.cell? ⟨V5.heap.size, 1, none⟩ = some (.int .i64 (1)) := fun w2 hb => (by rw [hb.cell (p := ⟨V5.heap.size, 1, none⟩) (by assumption)]; assumption)
  have hk11 : ∀ w2, Below W0.heap.size W0 w2 → w2.cell? ⟨V5.heap.size, 2, none⟩ = some (.int .i64 (1)) := fun w2 hb => (by rw [hb.cell (p := ⟨V5.heap.size, 2, none⟩) (by assumption)]; assumption)
  clear A1_0 A1_1 A1_2 I1_0 I1_1 I1_2 J1_0 J1_1 J1_2 K1_0 K1_1 K1_2
  refine region_plan (S := fun w2 => Below W0.heap.size W0 w2) [(0, true), (1, true), (2, true), (3, true), (4, true), (5, true), (6, true), (7, true), (8, true), (9, true), (10, false), (11, true), (12, true), (13, true), (14, true), (15, true), (16, true), (17, true), (18, true), (19, true), (20, true), (21, true), (22, true), (23, true), (24, true), (25, true), (26, true), (27, true), (28, true), (29, true), (30, true), (31, true), (32, true), (33, true), (34, true), (35, true), (36, true), (37, true), (38, true), (39, true), (40, true), (41, true), (42, true), (43, true), (44, true), (45, true), (46, true)] (by as_aux_lemma => kernel_rfl) (by as_aux_lemma => kernel_rfl) (by as_aux_lemma => kernel_rfl) (by as_aux_lemma => kernel_rfl) (Below.refl W0.heap.size W0).drew ?_
  have Y0 := Lib.hid (Below.refl W0.heap.size W0).drew
  refine plan_yes (v := ?v1_3) (by simp only [List.getElem?_toArray, List.getElem?_cons_zero, List.getElem?_cons_succ]; exact rfl) (Or.inl ⟨by as_aux_lemma => rfl, ?hy1_3⟩) ?rest1_3
  case hy1_3 => (intro w2 hSw; (try dsimp only at hSw); go_simp; try with_reducible rfl)
  try simp only [Act.put, List.setIfInBounds_toArray, List.set_cons_zero, List.set_cons_succ]
  refine plan_yes (v := ?v2_3) (by simp only [List.getElem?_toArray, List.getElem?_cons_zero, List.getElem?_cons_succ]; exact rfl) (Or.inl ⟨by as_aux_lemma => rfl, ?hy2_3⟩) ?rest2_3
  case hy2_3 => (intro w2 hSw; (try dsimp only at hSw); go_simp; try with_reducible rfl)
  try simp only [Act.put, List.setIfInBounds_toArray, List.set_cons_zero, List.set_cons_succ]
  refine plan_yes (v := ?v3_3) (by simp only [List.getElem?_toArray, List.getElem?_cons_zero, List.getElem?_cons_succ]; exact rfl) (Or.inl ⟨by as_aux_lemma => rfl, ?hy3_3⟩) ?rest3_3
  case hy3_3 => (intro w2 hSw; (try dsimp only at hSw); go_simp; try with_reducible rfl)
  try simp only [Act.put, List.setIfInBounds_toArray, List.set_cons_zero, List.set_cons_succ]
  refine plan_yes (v := ?v4_3) (by simp only [List.getElem?_toArray, List.getElem?_cons_zero, List.getElem?_cons_succ]; exact rfl) (Or.inl ⟨by as_aux_lemma => rfl, ?hy4_3⟩) ?rest4_3
  case hy4_3 => (intro w2 hSw; (try dsimp only at hSw); go_simp; try with_reducible rfl)
  try simp only [Act.put, List.setIfInBounds_toArray, List.set_cons_zero, List.set_cons_succ]
  refine plan_yes (v := ?v5_3) (by simp only [List.getElem?_toArray, List.getElem?_cons_zero, List.getElem?_cons_succ]; exact rfl) (Or.inl ⟨by as_aux_lemma => rfl, ?hy5_3⟩) ?rest5_3
  case hy5_3 => (intro w2 hSw; (try dsimp only at hSw); go_simp; try with_reducible rfl)
  try simp only [Act.put, List.setIfInBounds_toArray, List.set_cons_zero, List.set_cons_succ]
  refine plan_yes (v := ?v6_3) (by simp only [List.getElem?_toArray, List.getElem?_cons_zero, List.getElem?_cons_succ]; exact rfl) (Or.inl ⟨by as_aux_lemma => rfl, ?hy6_3⟩) ?rest6_3
  case hy6_3 => (intro w2 hSw; (try dsimp only at hSw); go_simp; try with_reducible rfl)
  try simp only [Act.put, List.setIfInBounds_toArray, List.set_cons_zero, List.set_cons_succ]
  refine plan_yes (v := ?v7_3) (by simp only [List.getElem?_toArray, List.getElem?_cons_zero, List.getElem?_cons_succ]; exact rfl) (Or.inl ⟨by as_aux_lemma => rfl, ?hy7_3⟩) ?rest7_3
  case hy7_3 => (intro w2 hSw; (try dsimp only at hSw); go_simp; try with_reducible rfl)
  try simp only [Act.put, List.setIfInBounds_toArray, List.set_cons_zero, List.set_cons_succ]
  refine plan_yes (v := ?v8_3) (by simp only [List.getElem?_toArray, List.getElem?_cons_zero, List.getElem?_cons_succ]; exact rfl) (Or.inl ⟨by as_aux_lemma => rfl, ?hy8_3⟩) ?rest8_3
  case hy8_3 => (intro w2 hSw; (try dsimp only at hSw); go_simp; try with_reducible rfl)
  try simp only [Act.put, List.setIfInBounds_toArray, List.set_cons_zero, List.set_cons_succ]
  refine plan_yes (v := ?v9_3) (by simp only [List.getElem?_toArray, List.getElem?_cons_zero, List.getElem?_cons_succ]; exact rfl) (Or.inl ⟨by as_aux_lemma => rfl, ?hy9_3⟩) ?rest9_3
  case hy9_3 => (intro w2 hSw; (try dsimp only at hSw); go_simp; try with_reducible rfl)
  try simp only [Act.put, List.setIfInBounds_toArray, List.set_cons_zero, List.set_cons_succ]
  refine plan_yes (v := ?v10_3) (by simp only [List.getElem?_toArray, List.getElem?_cons_zero, List.getElem?_cons_succ]; exact rfl) (Or.inl ⟨by as_aux_lemma => rfl, ?hy10_3⟩) ?rest10_3
  case hy10_3 => (intro w2 hSw; (try dsimp only at hSw); go_simp; try with_reducible rfl)
  try simp only [Act.put, List.setIfInBounds_toArray, List.set_cons_zero, List.set_cons_succ]
  refine plan_calls (by simp only [List.getElem?_toArray, List.getElem?_cons_zero, List.getElem?_cons_succ]; exact rfl) (by as_aux_lemma => rfl) (fun K hK => ?_)
  go_simp
  refine (H8.out _ (md_keep (Lib.hid (md_keep hM HB0.out)) Y0.out)).mono ?_
  rintro e Y1w ⟨rfl, hb1⟩
  have Y1 := Lib.hid (keepS (W0 := W0) Y0.out hb1)
  clear hb1
  refine hK.out _ _ Y1.out ?_
  clear hK K
  try simp only [Act.put, List.setIfInBounds_toArray, List.set_cons_zero, List.set_cons_succ]
  as_aux_lemma =>
   refine plan_yes (v := ?v11_3) (by simp only [List.getElem?_toArray, List.getElem?_cons_zero, List.getElem?_cons_succ]; exact rfl) (Or.inl ⟨by as_aux_lemma => rfl, ?hy11_3⟩) ?rest11_3
   case hy11_3 => (intro w2 hSw; (try dsimp only at hSw); go_simp; try with_reducible rfl)
   try simp only [Act.put, List.setIfInBounds_toArray, List.set_cons_zero, List.set_cons_succ]
   refine plan_yes (v := ?v12_3) (by simp only [List.getElem?_toArray, List.getElem?_cons_zero, List.getElem?_cons_succ]; exact rfl) (Or.inl ⟨by as_aux_lemma => rfl, ?hy12_3⟩) ?rest12_3
   case hy12_3 => (intro w2 hSw; (try dsimp only at hSw); go_simp; try with_reducible rfl)
   try simp only [Act.put, List.setIfInBounds_toArray, List.set_cons_zero, List.set_cons_succ]
   refine plan_yes (v := ?v13_3) (by simp only [List.getElem?_toArray, List.getElem?_cons_zero, List.getElem?_cons_succ]; exact rfl) (Or.inl ⟨by as_aux_lemma => rfl, ?hy13_3⟩) ?rest13_3
   case hy13_3 => (intro w2 hSw; (try dsimp only at hSw); go_simp; try with_reducible rfl)
   try simp only [Act.put, List.setIfInBounds_toArray, List.set_cons_zero, List.set_cons_succ]
   refine plan_yes (v := ?v14_3) (by simp only [List.getElem?_toArray, List.getElem?_cons_zero, List.getElem?_cons_succ]; exact rfl) (Or.inl ⟨by as_aux_lemma => rfl, ?hy14_3⟩) ?rest14_3
   case hy14_3 => (intro w2 hSw; (try dsimp only at hSw); go_simp; try with_reducible rfl)
   try simp only [Act.put, List.setIfInBounds_toArray, List.set_cons_zero, List.set_cons_succ]
   refine plan_yes (v := ?v15_3) (by simp only [List.getElem?_toArray, List.getElem?_cons_zero, List.getElem?_cons_succ]; exact rfl) (Or.inl ⟨by as_aux_lemma => rfl, ?hy15_3⟩) ?rest15_3
   case hy15_3 => (intro w2 hSw; (try dsimp only at hSw); go_simp; try with_reducible rfl)
   try simp only [Act.put, List.setIfInBounds_toArray, List.set_cons_zero, List.set_cons_succ]
   refine plan_yes (v := ?v16_3) (by simp only [List.getElem?_toArray, List.getElem?_cons_zero, List.getElem?_cons_succ]; exact rfl) (Or.inl ⟨by as_aux_lemma => rfl, ?hy16_3⟩) ?rest16_3
   case hy16_3 => (intro w2 hSw; (try dsimp only at hSw); go_simp; try with_reducible rfl)
   try simp only [Act.put, List.setIfInBounds_toArray, List.set_cons_zero, List.set_cons_succ]
   refine plan_yes (v := ?v17_3) (by simp only [List.getElem?_toArray, List.getElem?_cons_zero, List.getElem?_cons_succ]; exact rfl) (Or.inl ⟨by as_aux_lemma => rfl, ?hy17_3⟩) ?rest17_3
   case hy17_3 => (intro w2 hSw; (try dsimp only at hSw); go_simp; try with_reducible rfl)
   try simp only [Act.put, List.setIfInBounds_toArray, List.set_cons_zero, List.set_cons_succ]
   refine plan_yes (v := ?v18_3) (by simp only [List.getElem?_toArray, List.getElem?_cons_zero, List.getElem?_cons_succ]; exact rfl) (Or.inl ⟨by as_aux_lemma => rfl, ?hy18_3⟩) ?rest18_3
   case hy18_3 => (intro w2 hSw; (try dsimp only at hSw); go_simp; try with_reducible rfl)
   try simp only [Act.put, List.setIfInBounds_toArray, List.set_cons_zero, List.set_cons_succ]
   refine plan_yes (v := ?v19_3) (by simp only [List.getElem?_toArray, List.getElem?_cons_zero, List.getElem?_cons_succ]; exact rfl) (Or.inl ⟨by as_aux_lemma => rfl, ?hy19_3⟩) ?rest19_3
   case hy19_3 => (intro w2 hSw; (try dsimp only at hSw); go_simp; try with_reducible rfl)
   try simp only [Act.put, List.setIfInBounds_toArray, List.set_cons_zero, List.set_cons_succ]
   refine plan_yes (v := undef) (by simp only [List.getElem?_toArray, List.getElem?_cons_zero, List.getElem?_cons_succ]; exact rfl) (Or.inr ⟨by as_aux_lemma => rfl, rfl⟩) ?_
   try simp only [Act.put, List.setIfInBounds_toArray, List.set_cons_zero, List.set_cons_succ]
   refine plan_yes (v := undef) (by simp only [List.getElem?_toArray, List.getElem?_cons_zero, List.getElem?_cons_succ]; exact rfl) (Or.inr ⟨by as_aux_lemma => rfl, rfl⟩) ?_
   try simp only [Act.put, List.setIfInBounds_toArray, List.set_cons_zero, List.set_cons_succ]
   refine plan_yes (v := undef) (by simp only [List.getElem?_toArray, List.getElem?_cons_zero, List.getElem?_cons_succ]; exact rfl) (Or.inr ⟨by as_aux_lemma => rfl, rfl⟩) ?_
   try simp only [Act.put, List.setIfInBounds_toArray, List.set_cons_zero, List.set_cons_succ]
   refine plan_yes (v := undef) (by simp only [List.getElem?_toArray, List.getElem?_cons_zero, List.getElem?_cons_succ]; exact rfl) (Or.inr ⟨by as_aux_lemma => rfl, rfl⟩) ?_
   try simp only [Act.put, List.setIfInBounds_toArray, List.set_cons_zero, List.set_cons_succ]
   refine plan_yes (v := undef) (by simp only [List.getElem?_toArray, List.getElem?_cons_zero, List.getElem?_cons_succ]; exact rfl) (Or.inr ⟨by as_aux_lemma => rfl, rfl⟩) ?_
   try simp only [Act.put, List.setIfInBounds_toArray, List.set_cons_zero, List.set_cons_succ]
   refine plan_yes (v := undef) (by simp only [List.getElem?_toArray, List.getElem?_cons_zero, List.getElem?_cons_succ]; exact rfl) (Or.inr ⟨by as_aux_lemma => rfl, rfl⟩) ?_
   try simp only [Act.put, List.setIfInBounds_toArray, List.set_cons_zero, List.set_cons_succ]
   refine plan_yes (v := ?v20_3) (by simp only [List.getElem?_toArray, List.getElem?_cons_zero, List.getElem?_cons_succ]; exact rfl) (Or.inl ⟨by as_aux_lemma => rfl, ?hy20_3⟩) ?rest20_3
   case hy20_3 => (intro w2 hSw; (try dsimp only at hSw); go_simp; try with_reducible rfl)
   try simp only [Act.put, List.setIfInBounds_toArray, List.set_cons_zero, List.set_cons_succ]
   refine plan_yes (v := ?v21_3) (by simp only [List.getElem?_toArray, List.getElem?_cons_zero, List.getElem?_cons_succ]; exact rfl) (Or.inl ⟨by as_aux_lemma => rfl, ?hy21_3⟩) ?rest21_3
   case hy21_3 => (intro w2 hSw; (try dsimp only at hSw); go_simp; try with_reducible rfl)
   try simp only [Act.put, List.setIfInBounds_toArray, List.set_cons_zero, List.set_cons_succ]
   refine plan_yes (v := ?v22_3) (by simp only [List.getElem?_toArray, List.getElem?_cons_zero, List.getElem?_cons_succ]; exact rfl) (Or.inl ⟨by as_aux_lemma => rfl, ?hy22_3⟩) ?rest22_3
   case hy22_3 => (intro w2 hSw; (try dsimp only at hSw); go_simp; try with_reducible rfl)
   try simp only [Act.put, List.setIfInBounds_toArray, List.set_cons_zero, List.set_cons_succ]
   refine plan_yes (v := ?v23_3) (by simp only [List.getElem?_toArray, List.getElem?_cons_zero, List.getElem?_cons_succ]; exact rfl) (Or.inl ⟨by as_aux_lemma => rfl, ?hy23_3⟩) ?rest23_3
   case hy23_3 => (intro w2 hSw; (try dsimp only at hSw); go_simp; try with_reducible rfl)
   try simp only [Act.put, List.setIfInBounds_toArray, List.set_cons_zero, List.set_cons_succ]
   refine plan_yes (v := ?v24_3) (by simp only [List.getElem?_toArray, List.getElem?_cons_zero, List.getElem?_cons_succ]; exact rfl) (Or.inl ⟨by as_aux_lemma => rfl, ?hy24_3⟩) ?rest24_3
   case hy24_3 => (intro w2 hSw; (try dsimp only at hSw); go_simp; try with_reducible rfl)
   try simp only [Act.put, List.setIfInBounds_toArray, List.set_cons_zero, List.set_cons_succ]
   refine plan_yes (v := ?v25_3) (by simp only [List.getElem?_toArray, List.getElem?_cons_zero, List.getElem?_cons_succ]; exact rfl) (Or.inl ⟨by as_aux_lemma => rfl, ?hy25_3⟩) ?rest25_3
   case hy25_3 => (intro w2 hSw; (try dsimp only at hSw); go_simp; try with_reducible rfl)
   try simp only [Act.put, List.setIfInBounds_toArray, List.set_cons_zero, List.set_cons_succ]
   refine plan_yes (v := ?v26_3) (by simp only [List.getElem?_toArray, List.getElem?_cons_zero, List.getElem?_cons_succ]; exact rfl) (Or.inl ⟨by as_aux_lemma => rfl, ?hy26_3⟩) ?rest26_3
   case hy26_3 => (intro w2 hSw; (try dsimp only at hSw); go_simp; try with_reducible rfl)
   try simp only [Act.put, List.setIfInBounds_toArray, List.set_cons_zero, List.set_cons_succ]
   refine plan_yes (v := ?v27_3) (by simp only [List.getElem?_toArray, List.getElem?_cons_zero, List.getElem?_cons_succ]; exact rfl) (Or.inl ⟨by as_aux_lemma => rfl, ?hy27_3⟩) ?rest27_3
   case hy27_3 => (intro w2 hSw; (try dsimp only at hSw); go_simp; try with_reducible rfl)
   try simp only [Act.put, List.setIfInBounds_toArray, List.set_cons_zero, List.set_cons_succ]
   refine plan_yes (v := ?v28_3) (by simp only [List.getElem?_toArray, List.getElem?_cons_zero, List.getElem?_cons_succ]; exact rfl) (Or.inl ⟨by as_aux_lemma => rfl, ?hy28_3⟩) ?rest28_3
   case hy28_3 => (intro w2 hSw; (try dsimp only at hSw); go_simp; try with_reducible rfl)
   try simp only [Act.put, List.setIfInBounds_toArray, List.set_cons_zero, List.set_cons_succ]
   refine plan_yes (v := ?v29_3) (by simp only [List.getElem?_toArray, List.getElem?_cons_zero, List.getElem?_cons_succ]; exact rfl) (Or.inl ⟨by as_aux_lemma => rfl, ?hy29_3⟩) ?rest29_3
   case hy29_3 => (intro w2 hSw; (try dsimp only at hSw); go_simp; try with_reducible rfl)
   try simp only [Act.put, List.setIfInBounds_toArray, List.set_cons_zero, List.set_cons_succ]
   refine plan_yes (v := ?v30_3) (by simp only [List.getElem?_toArray, List.getElem?_cons_zero, List.getElem?_cons_succ]; exact rfl) (Or.inl ⟨by as_aux_lemma => rfl, ?hy30_3⟩) ?rest30_3
   case hy30_3 => (intro w2 hSw; (try dsimp only at hSw); go_simp; try with_reducible rfl)
   try simp only [Act.put, List.setIfInBounds_toArray, List.set_cons_zero, List.set_cons_succ]
   refine plan_yes (v := ?v31_3) (by simp only [List.getElem?_toArray, List.getElem?_cons_zero, List.getElem?_cons_succ]; exact rfl) (Or.inl ⟨by as_aux_lemma => rfl, ?hy31_3⟩) ?rest31_3
   case hy31_3 => (intro w2 hSw; (try dsimp only at hSw); go_simp; try with_reducible rfl)
   try simp only [Act.put, List.setIfInBounds_toArray, List.set_cons_zero, List.set_cons_succ]
   refine plan_yes (v := ?v32_3) (by simp only [List.getElem?_toArray, List.getElem?_cons_zero, List.getElem?_cons_succ]; exact rfl) (Or.inl ⟨by as_aux_lemma => rfl, ?hy32_3⟩) ?rest32_3
   case hy32_3 => (intro w2 hSw; (try dsimp only at hSw); go_simp; try with_reducible rfl)
   try simp only [Act.put, List.setIfInBounds_toArray, List.set_cons_zero, List.set_cons_succ]
   refine plan_yes (v := ?v33_3) (by simp only [List.getElem?_toArray, List.getElem?_cons_zero, List.getElem?_cons_succ]; exact rfl) (Or.inl ⟨by as_aux_lemma => rfl, ?hy33_3⟩) ?rest33_3
   case hy33_3 => (intro w2 hSw; (try dsimp only at hSw); go_simp; try with_reducible rfl)
   try simp only [Act.put, List.setIfInBounds_toArray, List.set_cons_zero, List.set_cons_succ]
   refine plan_yes (v := ?v34_3) (by simp only [List.getElem?_toArray, List.getElem?_cons_zero, List.getElem?_cons_succ]; exact rfl) (Or.inl ⟨by as_aux_lemma => rfl, ?hy34_3⟩) ?rest34_3
   case hy34_3 => (intro w2 hSw; (try dsimp only at hSw); go_simp; try with_reducible rfl)
   try simp only [Act.put, List.setIfInBounds_toArray, List.set_cons_zero, List.set_cons_succ]
   refine plan_yes (v := ?v35_3) (by simp only [List.getElem?_toArray, List.getElem?_cons_zero, List.getElem?_cons_succ]; exact rfl) (Or.inl ⟨by as_aux_lemma => rfl, ?hy35_3⟩) ?rest35_3
   case hy35_3 => (intro w2 hSw; (try dsimp only at hSw); go_simp; try with_reducible rfl)
   try simp only [Act.put, List.setIfInBounds_toArray, List.set_cons_zero, List.set_cons_succ]
   refine plan_yes (v := ?v36_3) (by simp only [List.getElem?_toArray, List.getElem?_cons_zero, List.getElem?_cons_succ]; exact rfl) (Or.inl ⟨by as_aux_lemma => rfl, ?hy36_3⟩) ?rest36_3
   case hy36_3 => (intro w2 hSw; (try dsimp only at hSw); go_simp; try with_reducible rfl)
   try simp only [Act.put, List.setIfInBounds_toArray, List.set_cons_zero, List.set_cons_succ]
   refine plan_yes (v := ?v37_3) (by simp only [List.getElem?_toArray, List.getElem?_cons_zero, List.getElem?_cons_succ]; exact rfl) (Or.inl ⟨by as_aux_lemma => rfl, ?hy37_3⟩) ?rest37_3
   case hy37_3 => (intro w2 hSw; (try dsimp only at hSw); go_simp; try with_reducible rfl)
   try simp only [Act.put, List.setIfInBounds_toArray, List.set_cons_zero, List.set_cons_succ]
   refine plan_yes (v := ?v38_3) (by simp only [List.getElem?_toArray, List.getElem?_cons_zero, List.getElem?_cons_succ]; exact rfl) (Or.inl ⟨by as_aux_lemma => rfl, ?hy38_3⟩) ?rest38_3
   case hy38_3 => (intro w2 hSw; (try dsimp only at hSw); go_simp; try with_reducible rfl)
   try simp only [Act.put, List.setIfInBounds_toArray, List.set_cons_zero, List.set_cons_succ]
   refine plan_yes (v := ?v39_3) (by simp only [List.getElem?_toArray, List.getElem?_cons_zero, List.getElem?_cons_succ]; exact rfl) (Or.inl ⟨by as_aux_lemma => rfl, ?hy39_3⟩) ?rest39_3
   case hy39_3 => (intro w2 hSw; (try dsimp only at hSw); go_simp; try with_reducible rfl)
   try simp only [Act.put, List.setIfInBounds_toArray, List.set_cons_zero, List.set_cons_succ]
   refine plan_yes (v := ?v40_3) (by simp only [List.getElem?_toArray, List.getElem?_cons_zero, List.getElem?_cons_succ]; exact rfl) (Or.inl ⟨by as_aux_lemma => rfl, ?hy40_3⟩) ?rest40_3
   case hy40_3 => (intro w2 hSw; (try dsimp only at hSw); go_simp; try with_reducible rfl)
   try simp only [Act.put, List.setIfInBounds_toArray, List.set_cons_zero, List.set_cons_succ]
   refine plan_done (NoPanic.normal ?_)
   have B0 := Y1.out
   have BW := Lib.hid (HB0.out.trans (B0.mono zW0))
   replace A1 := Lib.hid (row_call B0 A1.out)
   replace I1 := Lib.hid (row_call B0 I1.out)
   replace J1 := Lib.hid (row_call B0 J1.out)
   replace K1 := Lib.hid (row_call B0 K1.out)
   have B6 := BW
   clear BW B0 hk0 hk1 hk2 hk3 hk4 hk5 hk6 hk7 hk8 hk9 hk10 hk11 zA1 zI1 zJ1 zK1 Y0 Y1
   obtain ⟨V6, rfl⟩ : ∃ V, V = Y1w := ⟨_, rfl⟩
   have A1_0 : V6.cell? ⟨w.heap.size, 0, none⟩ = some (.int .i64 y) := cell_of_row _ _ _ _ _ _ A1.out
   have A1_1 : V6.cell? ⟨w.heap.size, 1, none⟩ = some (.int .i64 (12)) := cell_of_row _ _ _ _ _ _ A1.out
   have A1_2 : V6.cell? ⟨w.heap.size, 2, none⟩ = some (.int .i64 d) := cell_of_row _ _ _ _ _ _ A1.out
   have zA1 := lt_of_heap A1.out
   have I1_0 : V6.cell? ⟨V2.heap.size, 0, none⟩ = some (.int .i64 y) := cell_of_row _ _ _ _ _ _ I1.out
   have I1_1 : V6.cell? ⟨V2.heap.size, 1, none⟩ = some (.int .i64 (12)) := cell_of_row _ _ _ _ _ _ I1.out
   have I1_2 : V6.cell? ⟨V2.heap.size, 2, none⟩ = some (.int .i64 d) := cell_of_row _ _ _ _ _ _ I1.out
   have zI1 := lt_of_heap I1.out
   have J1_0 : V6.cell? ⟨V4.heap.size, 0, none⟩ = some (.int .i64 y) := cell_of_row _ _ _ _ _ _ J1.out
   have J1_1 : V6.cell? ⟨V4.heap.size, 1, none⟩ = some (.int .i64 (12)) := cell_of_row _ _ _ _ _ _ J1.out
   have J1_2 : V6.cell? ⟨V4.heap.size, 2, none⟩ = some (.int .i64 d) := cell_of_row _ _ _ _ _ _ J1.out
   have zJ1 := lt_of_heap J1.out
   have K1_0 : V6.cell? ⟨V5.heap.size, 0, none⟩ = some (.int .i64 (y + 1)) := cell_of_row _ _ _ _ _ _ K1.out
   have K1_1 : V6.cell? ⟨V5.heap.size, 1, none⟩ = some (.int .i64 (1)) := cell_of_row _ _ _ _ _ _ K1.out
   have K1_2 : V6.cell? ⟨V5.heap.size, 2, none⟩ = some (.int .i64 (1)) := cell_of_row _ _ _ _ _ _ K1.out
   have zK1 := lt_of_heap K1.out
   go_simp
   go_wp2_with fail
   refine (H9.out _).mono ?_
   rintro e V7 ⟨rfl, hb7⟩
   clear A1_0 A1_1 A1_2 zA1 I1_0 I1_1 I1_2 zI1 J1_0 J1_1 J1_2 zJ1 K1_0 K1_1 K1_2 zK1
   have B7 : Hid (Below w.heap.size w V7) := by first | exact Lib.hid ((B6.out).trans (hb7.mono (by have := B6.out.size; first | assumption | (simp <;> omega) | (simp; done)))) | exact Lib.hid (((B6.out).alloc (B6.out.size) _).trans (hb7.mono (by have := B6.out.size; first | assumption | (simp <;> omega) | (simp; done)))) | exact Lib.hid ((((B6.out).alloc (B6.out.size) _).alloc (by have := B6.out.size; simp <;> omega) _).trans (hb7.mono (by have := B6.out.size; first | assumption | (simp <;> omega) | (simp; done)))) | exact Lib.hid (((((B6.out).alloc (B6.out.size) _).alloc (by have := B6.out.size; simp <;> omega) _).alloc (by have := B6.out.size; simp <;> omega) _).trans (hb7.mono (by have := B6.out.size; first | assumption | (simp <;> omega) | (simp; done))))
   first | replace A1 := Lib.hid (row_call hb7 A1.out) | replace A1 := Lib.hid (row_call hb7 (row_alloc A1.out _)) | replace A1 := Lib.hid (row_call hb7 (row_alloc (row_alloc A1.out _) _)) | replace A1 := Lib.hid (row_call hb7 (row_alloc (row_alloc (row_alloc A1.out _) _) _))
   first | replace I1 := Lib.hid (row_call hb7 I1.out) | replace I1 := Lib.hid (row_call hb7 (row_alloc I1.out _)) | replace I1 := Lib.hid (row_call hb7 (row_alloc (row_alloc I1.out _) _)) | replace I1 := Lib.hid (row_call hb7 (row_alloc (row_alloc (row_alloc I1.out _) _) _))
   first | replace J1 := Lib.hid (row_call hb7 J1.out) | replace J1 := Lib.hid (row_call hb7 (row_alloc J1.out _)) | replace J1 := Lib.hid (row_call hb7 (row_alloc (row_alloc J1.out _) _)) | replace J1 := Lib.hid (row_call hb7 (row_alloc (row_alloc (row_alloc J1.out _) _) _))
   first | replace K1 := Lib.hid (row_call hb7 K1.out) | replace K1 := Lib.hid (row_call hb7 (row_alloc K1.out _)) | replace K1 := Lib.hid (row_call hb7 (row_alloc (row_alloc K1.out _) _)) | replace K1 := Lib.hid (row_call hb7 (row_alloc (row_alloc (row_alloc K1.out _) _) _))
   clear hb7
   have A1_0 : V7.cell? ⟨w.heap.size, 0, none⟩ = some (.int .i64 y) := cell_of_row _ _ _ _ _ _ A1.out
   have A1_1 : V7.cell? ⟨w.heap.size, 1, none⟩ = some (.int .i64 (12)) := cell_of_row _ _ _ _ _ _ A1.out
   have A1_2 : V7.cell? ⟨w.heap.size, 2, none⟩ = some (.int .i64 d) := cell_of_row _ _ _ _ _ _ A1.out
   have I1_0 : V7.cell? ⟨V2.heap.size, 0, none⟩ = some (.int .i64 y) := cell_of_row _ _ _ _ _ _ I1.out
   have I1_1 : V7.cell? ⟨V2.heap.size, 1, none⟩ = some (.int .i64 (12)) := cell_of_row _ _ _ _ _ _ I1.out
   have I1_2 : V7.cell? ⟨V2.heap.size, 2, none⟩ = some (.int .i64 d) := cell_of_row _ _ _ _ _ _ I1.out
   have J1_0 : V7.cell? ⟨V4.heap.size, 0, none⟩ = some (.int .i64 y) := cell_of_row _ _ _ _ _ _ J1.out
   have J1_1 : V7.cell? ⟨V4.heap.size, 1, none⟩ = some (.int .i64 (12)) := cell_of_row _ _ _ _ _ _ J1.out
   have J1_2 : V7.cell? ⟨V4.heap.size, 2, none⟩ = some (.int .i64 d) := cell_of_row _ _ _ _ _ _ J1.out
   have K1_0 : V7.cell? ⟨V5.heap.size, 0, none⟩ = some (.int .i64 (y + 1)) := cell_of_row _ _ _ _ _ _ K1.out
   have K1_1 : V7.cell? ⟨V5.heap.size, 1, none⟩ = some (.int .i64 (1)) := cell_of_row _ _ _ _ _ _ K1.out
   have K1_2 : V7.cell? ⟨V5.heap.size, 2, none⟩ = some (.int .i64 (1)) := cell_of_row _ _ _ _ _ _ K1.out
   have zA1 := lt_of_heap A1.out
   have zI1 := lt_of_heap I1.out
   have zJ1 := lt_of_heap J1.out
   have zK1 := lt_of_heap K1.out
   go_simp
   go_wp2_with fail
   refine (HA.out _).mono ?_
   rintro e V8 ⟨rfl, hb8⟩
   clear A1_0 A1_1 A1_2 zA1 I1_0 I1_1 I1_2 zI1 J1_0 J1_1 J1_2 zJ1 K1_0 K1_1 K1_2 zK1
   have B8 : Hid (Below w.heap.size w V8) := by first | exact Lib.hid ((B7.out).trans (hb8.mono (by have := B7.out.size; first | assumption | (simp <;> omega) | (simp; done)))) | exact Lib.hid (((B7.out).alloc (B7.out.size) _).trans (hb8.mono (by have := B7.out.size; first | assumption | (simp <;> omega) | (simp; done)))) | exact Lib.hid ((((B7.out).alloc (B7.out.size) _).alloc (by have := B7.out.size; simp <;> omega) _).trans (hb8.mono (by have := B7.out.size; first | assumption | (simp <;> omega) | (simp; done)))) | exact Lib.hid (((((B7.out).alloc (B7.out.size) _).alloc (by have := B7.out.size; simp <;> omega) _).alloc (by have := B7.out.size; simp <;> omega) _).trans (hb8.mono (by have := B7.out.size; first | assumption | (simp <;> omega) | (simp; done))))
   first | replace A1 := Lib.hid (row_call hb8 A1.out) | replace A1 := Lib.hid (row_call hb8 (row_alloc A1.out _)) | replace A1 := Lib.hid (row_call hb8 (row_alloc (row_alloc A1.out _) _)) | replace A1 := Lib.hid (row_call hb8 (row_alloc (row_alloc (row_alloc A1.out _) _) _))
   first | replace I1 := Lib.hid (row_call hb8 I1.out) | replace I1 := Lib.hid (row_call hb8 (row_alloc I1.out _)) | replace I1 := Lib.hid (row_call hb8 (row_alloc (row_alloc I1.out _) _)) | replace I1 := Lib.hid (row_call hb8 (row_alloc (row_alloc (row_alloc I1.out _) _) _))
   first | replace J1 := Lib.hid (row_call hb8 J1.out) | replace J1 := Lib.hid (row_call hb8 (row_alloc J1.out _)) | replace J1 := Lib.hid (row_call hb8 (row_alloc (row_alloc J1.out _) _)) | replace J1 := Lib.hid (row_call hb8 (row_alloc (row_alloc (row_alloc J1.out _) _) _))
   first | replace K1 := Lib.hid (row_call hb8 K1.out) | replace K1 := Lib.hid (row_call hb8 (row_alloc K1.out _)) | replace K1 := Lib.hid (row_call hb8 (row_alloc (row_alloc K1.out _) _)) | replace K1 := Lib.hid (row_call hb8 (row_alloc (row_alloc (row_alloc K1.out _) _) _))
   clear hb8
   have A1_0 : V8.cell? ⟨w.heap.size, 0, none⟩ = some (.int .i64 y) := cell_of_row _ _ _ _ _ _ A1.out
   have A1_1 : V8.cell? ⟨w.heap.size, 1, none⟩ = some (.int .i64 (12)) := cell_of_row _ _ _ _ _ _ A1.out
   have A1_2 : V8.cell? ⟨w.heap.size, 2, none⟩ = some (.int .i64 d) := cell_of_row _ _ _ _ _ _ A1.out
   have I1_0 : V8.cell? ⟨V2.heap.size, 0, none⟩ = some (.int .i64 y) := cell_of_row _ _ _ _ _ _ I1.out
   have I1_1 : V8.cell? ⟨V2.heap.size, 1, none⟩ = some (.int .i64 (12)) := cell_of_row _ _ _ _ _ _ I1.out
   have I1_2 : V8.cell? ⟨V2.heap.size, 2, none⟩ = some (.int .i64 d) := cell_of_row _ _ _ _ _ _ I1.out
   have J1_0 : V8.cell? ⟨V4.heap.size, 0, none⟩ = some (.int .i64 y) := cell_of_row _ _ _ _ _ _ J1.out
   have J1_1 : V8.cell? ⟨V4.heap.size, 1, none⟩ = some (.int .i64 (12)) := cell_of_row _ _ _ _ _ _ J1.out
   have J1_2 : V8.cell? ⟨V4.heap.size, 2, none⟩ = some (.int .i64 d) := cell_of_row _ _ _ _ _ _ J1.out
   have K1_0 : V8.cell? ⟨V5.heap.size, 0, none⟩ = some (.int .i64 (y + 1)) := cell_of_row _ _ _ _ _ _ K1.out
   have K1_1 : V8.cell? ⟨V5.heap.size, 1, none⟩ = some (.int .i64 (1)) := cell_of_row _ _ _ _ _ _ K1.out
   have K1_2 : V8.cell? ⟨V5.heap.size, 2, none⟩ = some (.int .i64 (1)) := cell_of_row _ _ _ _ _ _ K1.out
   have zA1 := lt_of_heap A1.out
   have zI1 := lt_of_heap I1.out
   have zJ1 := lt_of_heap J1.out
   have zK1 := lt_of_heap K1.out
   go_simp
   go_wp2_with fail
   refine (HB.out _).mono ?_
   rintro e V9 ⟨rfl, hb9⟩
   clear A1_0 A1_1 A1_2 zA1 I1_0 I1_1 I1_2 zI1 J1_0 J1_1 J1_2 zJ1 K1_0 K1_1 K1_2 zK1
   have B9 : Hid (Below w.heap.size w V9) := by first | exact Lib.hid ((B8.out).trans (hb9.mono (by have := B8.out.size; first | assumption | (simp <;> omega) | (simp; done)))) | exact Lib.hid (((B8.out).alloc (B8.out.size) _).trans (hb9.mono (by have := B8.out.size; first | assumption | (simp <;> omega) | (simp; done)))) | exact Lib.hid ((((B8.out).alloc (B8.out.size) _).alloc (by have := B8.out.size; simp <;> omega) _).trans (hb9.mono (by have := B8.out.size; first | assumption | (simp <;> omega) | (simp; done)))) | exact Lib.hid (((((B8.out).alloc (B8.out.size) _).alloc (by have := B8.out.size; simp <;> omega) _).alloc (by have := B8.out.size; simp <;> omega) _).trans (hb9.mono (by have := B8.out.size; first | assumption | (simp <;> omega) | (simp; done))))
   first | replace A1 := Lib.hid (row_call hb9 A1.out) | replace A1 := Lib.hid (row_call hb9 (row_alloc A1.out _)) | replace A1 := Lib.hid (row_call hb9 (row_alloc (row_alloc A1.out _) _)) | replace A1 := Lib.hid (row_call hb9 (row_alloc (row_alloc (row_alloc A1.out _) _) _))
   first | replace I1 := Lib.hid (row_call hb9 I1.out) | replace I1 := Lib.hid (row_call hb9 (row_alloc I1.out _)) | replace I1 := Lib.hid (row_call hb9 (row_alloc (row_alloc I1.out _) _)) | replace I1 := Lib.hid (row_call hb9 (row_alloc (row_alloc (row_alloc I1.out _) _) _))
   first | replace J1 := Lib.hid (row_call hb9 J1.out) | replace J1 := Lib.hid (row_call hb9 (row_alloc J1.out _)) | replace J1 := Lib.hid (row_call hb9 (row_alloc (row_alloc J1.out _) _)) | replace J1 := Lib.hid (row_call hb9 (row_alloc (row_alloc (row_alloc J1.out _) _) _))
   first | replace K1 := Lib.hid (row_call hb9 K1.out) | replace K1 := Lib.hid (row_call hb9 (row_alloc K1.out _)) | replace K1 := Lib.hid (row_call hb9 (row_alloc (row_alloc K1.out _) _)) | replace K1 := Lib.hid (row_call hb9 (row_alloc (row_alloc (row_alloc K1.out _) _) _))
   clear hb9
   have A1_0 : V9.cell? ⟨w.heap.size, 0, none⟩ = some (.int .i64 y) := cell_of_row _ _ _ _ _ _ A1.out
   have A1_1 : V9.cell? ⟨w.heap.size, 1, none⟩ = some (.int .i64 (12)) := cell_of_row _ _ _ _ _ _ A1.out
   have A1_2 : V9.cell? ⟨w.heap.size, 2, none⟩ = some (.int .i64 d) := cell_of_row _ _ _ _ _ _ A1.out
   have I1_0 : V9.cell? ⟨V2.heap.size, 0, none⟩ = some (.int .i64 y) := cell_of_row _ _ _ _ _ _ I1.out
   have I1_1 : V9.cell? ⟨V2.heap.size, 1, none⟩ = some (.int .i64 (12)) := cell_of_row _ _ _ _ _ _ I1.out
   have I1_2 : V9.cell? ⟨V2.heap.size, 2, none⟩ = some (.int .i64 d) := cell_of_row _ _ _ _ _ _ I1.out
   have J1_0 : V9.cell? ⟨V4.heap.size, 0, none⟩ = some (.int .i64 y) := cell_of_row _ _ _ _ _ _ J1.out
   have J1_1 : V9.cell? ⟨V4.heap.size, 1, none⟩ = some (.int .i64 (12)) := cell_of_row _ _ _ _ _ _ J1.out
   have J1_2 : V9.cell? ⟨V4.heap.size, 2, none⟩ = some (.int .i64 d) := cell_of_row _ _ _ _ _ _ J1.out
   have K1_0 : V9.cell? ⟨V5.heap.size, 0, none⟩ = some (.int .i64 (y + 1)) := cell_of_row _ _ _ _ _ _ K1.out
   have K1_1 : V9.cell? ⟨V5.heap.size, 1, none⟩ = some (.int .i64 (1)) := cell_of_row _ _ _ _ _ _ K1.out
   have K1_2 : V9.cell? ⟨V5.heap.size, 2, none⟩ = some (.int .i64 (1)) := cell_of_row _ _ _ _ _ _ K1.out
   have zA1 := lt_of_heap A1.out
   have zI1 := lt_of_heap I1.out
   have zJ1 := lt_of_heap J1.out
   have zK1 := lt_of_heap K1.out
   go_simp
   go_wp2_with fail
   refine (HC.out _).mono ?_
   rintro e V10 ⟨rfl, hb10⟩
   clear A1_0 A1_1 A1_2 zA1 I1_0 I1_1 I1_2 zI1 J1_0 J1_1 J1_2 zJ1 K1_0 K1_1 K1_2 zK1
   have B10 : Hid (Below w.heap.size w V10) := by first | exact Lib.hid ((B9.out).trans (hb10.mono (by have := B9.out.size; first | assumption | (simp <;> omega) | (simp; done)))) | exact Lib.hid (((B9.out).alloc (B9.out.size) _).trans (hb10.mono (by have := B9.out.size; first | assumption | (simp <;> omega) | (simp; done)))) | exact Lib.hid ((((B9.out).alloc (B9.out.size) _).alloc (by have := B9.out.size; simp <;> omega) _).trans (hb10.mono (by have := B9.out.size; first | assumption | (simp <;> omega) | (simp; done)))) | exact Lib.hid (((((B9.out).alloc (B9.out.size) _).alloc (by have := B9.out.size; simp <;> omega) _).alloc (by have := B9.out.size; simp <;> omega) _).trans (hb10.mono (by have := B9.out.size; first | assumption | (simp <;> omega) | (simp; done))))
   first | replace A1 := Lib.hid (row_call hb10 A1.out) | replace A1 := Lib.hid (row_call hb10 (row_alloc A1.out _)) | replace A1 := Lib.hid (row_call hb10 (row_alloc (row_alloc A1.out _) _)) | replace A1 := Lib.hid (row_call hb10 (row_alloc (row_alloc (row_alloc A1.out _) _) _))
   first | replace I1 := Lib.hid (row_call hb10 I1.out) | replace I1 := Lib.hid (row_call hb10 (row_alloc I1.out _)) | replace I1 := Lib.hid (row_call hb10 (row_alloc (row_alloc I1.out _) _)) | replace I1 := Lib.hid (row_call hb10 (row_alloc (row_alloc (row_alloc I1.out _) _) _))
   first | replace J1 := Lib.hid (row_call hb10 J1.out) | replace J1 := Lib.hid (row_call hb10 (row_alloc J1.out _)) | replace J1 := Lib.hid (row_call hb10 (row_alloc (row_alloc J1.out _) _)) | replace J1 := Lib.hid (row_call hb10 (row_alloc (row_alloc (row_alloc J1.out _) _) _))
   first | replace K1 := Lib.hid (row_call hb10 K1.out) | replace K1 := Lib.hid (row_call hb10 (row_alloc K1.out _)) | replace K1 := Lib.hid (row_call hb10 (row_alloc (row_alloc K1.out _) _)) | replace K1 := Lib.hid (row_call hb10 (row_alloc (row_alloc (row_alloc K1.out _) _) _))
   clear hb10
   have A1_0 : V10.cell? ⟨w.heap.size, 0, none⟩ = some (.int .i64 y) := cell_of_row _ _ _ _ _ _ A1.out
   have A1_1 : V10.cell? ⟨w.heap.size, 1, none⟩ = some (.int .i64 (12)) := cell_of_row _ _ _ _ _ _ A1.out
   have A1_2 : V10.cell? ⟨w.heap.size, 2, none⟩ = some (.int .i64 d) := cell_of_row _ _ _ _ _ _ A1.out
   have I1_0 : V10.cell? ⟨V2.heap.size, 0, none⟩ = some (.int .i64 y) := cell_of_row _ _ _ _ _ _ I1.out
   have I1_1 : V10.cell? ⟨V2.heap.size, 1, none⟩ = some (.int .i64 (12)) := cell_of_row _ _ _ _ _ _ I1.out
   have I1_2 : V10.cell? ⟨V2.heap.size, 2, none⟩ = some (.int .i64 d) := cell_of_row _ _ _ _ _ _ I1.out
   have J1_0 : V10.cell? ⟨V4.heap.size, 0, none⟩ = some (.int .i64 y) := cell_of_row _ _ _ _ _ _ J1.out
   have J1_1 : V10.cell? ⟨V4.heap.size, 1, none⟩ = some (.int .i64 (12)) := cell_of_row _ _ _ _ _ _ J1.out
   have J1_2 : V10.cell? ⟨V4.heap.size, 2, none⟩ = some (.int .i64 d) := cell_of_row _ _ _ _ _ _ J1.out
   have K1_0 : V10.cell? ⟨V5.heap.size, 0, none⟩ = some (.int .i64 (y + 1)) := cell_of_row _ _ _ _ _ _ K1.out
   have K1_1 : V10.cell? ⟨V5.heap.size, 1, none⟩ = some (.int .i64 (1)) := cell_of_row _ _ _ _ _ _ K1.out
   have K1_2 : V10.cell? ⟨V5.heap.size, 2, none⟩ = some (.int .i64 (1)) := cell_of_row _ _ _ _ _ _ K1.out
   have zA1 := lt_of_heap A1.out
   have zI1 := lt_of_heap I1.out
   have zJ1 := lt_of_heap J1.out
   have zK1 := lt_of_heap K1.out
   go_simp
   go_wp2_with fail
   refine (H7.out _ (by first | exact md_keep hM (B10.out) | exact md_keep hM ((B10.out).alloc (B10.out.size) _) | exact md_keep hM (((B10.out).alloc (B10.out.size) _).alloc (by have := B10.out.size; simp <;> omega) _) | exact md_keep hM ((((B10.out).alloc (B10.out.size) _).alloc (by have := B10.out.size; simp <;> omega) _).alloc (by have := B10.out.size; simp <;> omega) _))).mono ?_
   rintro e V11 ⟨rfl, hb11⟩
   clear A1_0 A1_1 A1_2 zA1 I1_0 I1_1 I1_2 zI1 J1_0 J1_1 J1_2 zJ1 K1_0 K1_1 K1_2 zK1
   have B11 : Hid (Below w.heap.size w V11) := by first | exact Lib.hid ((B10.out).trans (hb11.mono (by have := B10.out.size; first | assumption | (simp <;> omega) | (simp; done)))) | exact Lib.hid (((B10.out).alloc (B10.out.size) _).trans (hb11.mono (by have := B10.out.size; first | assumption | (simp <;> omega) | (simp; done)))) | exact Lib.hid ((((B10.out).alloc (B10.out.size) _).alloc (by have := B10.out.size; simp <;> omega) _).trans (hb11.mono (by have := B10.out.size; first | assumption | (simp <;> omega) | (simp; done)))) | exact Lib.hid (((((B10.out).alloc (B10.out.size) _).alloc (by have := B10.out.size; simp <;> omega) _).alloc (by have := B10.out.size; simp <;> omega) _).trans (hb11.mono (by have := B10.out.size; first | assumption | (simp <;> omega) | (simp; done))))
   first | replace A1 := Lib.hid (row_call hb11 A1.out) | replace A1 := Lib.hid (row_call hb11 (row_alloc A1.out _)) | replace A1 := Lib.hid (row_call hb11 (row_alloc (row_alloc A1.out _) _)) | replace A1 := Lib.hid (row_call hb11 (row_alloc (row_alloc (row_alloc A1.out _) _) _))
   first | replace I1 := Lib.hid (row_call hb11 I1.out) | replace I1 := Lib.hid (row_call hb11 (row_alloc I1.out _)) | replace I1 := Lib.hid (row_call hb11 (row_alloc (row_alloc I1.out _) _)) | replace I1 := Lib.hid (row_call hb11 (row_alloc (row_alloc (row_alloc I1.out _) _) _))
   first | replace J1 := Lib.hid (row_call hb11 J1.out) | replace J1 := Lib.hid (row_call hb11 (row_alloc J1.out _)) | replace J1 := Lib.hid (row_call hb11 (row_alloc (row_alloc J1.out _) _)) | replace J1 := Lib.hid (row_call hb11 (row_alloc (row_alloc (row_alloc J1.out _) _) _))
   first | replace K1 := Lib.hid (row_call hb11 K1.out) | replace K1 := Lib.hid (row_call hb11 (row_alloc K1.out _)) | replace K1 := Lib.hid (row_call hb11 (row_alloc (row_alloc K1.out _) _)) | replace K1 := Lib.hid (row_call hb11 (row_alloc (row_alloc (row_alloc K1.out _) _) _))
   clear hb11
   have A1_0 : V11.cell? ⟨w.heap.size, 0, none⟩ = some (.int .i64 y) := cell_of_row _ _ _ _ _ _ A1.out
   have A1_1 : V11.cell? ⟨w.heap.size, 1, none⟩ = some (.int .i64 (12)) := cell_of_row _ _ _ _ _ _ A1.out
   have A1_2 : V11.cell? ⟨w.heap.size, 2, none⟩ = some (.int .i64 d) := cell_of_row _ _ _ _ _ _ A1.out
   have I1_0 : V11.cell? ⟨V2.heap.size, 0, none⟩ = some (.int .i64 y) := cell_of_row _ _ _ _ _ _ I1.out
   have I1_1 : V11.cell? ⟨V2.heap.size, 1, none⟩ = some (.int .i64 (12)) := cell_of_row _ _ _ _ _ _ I1.out
   have I1_2 : V11.cell? ⟨V2.heap.size, 2, none⟩ = some (.int .i64 d) := cell_of_row _ _ _ _ _ _ I1.out
   have J1_0 : V11.cell? ⟨V4.heap.size, 0, none⟩ = some (.int .i64 y) := cell_of_row _ _ _ _ _ _ J1.out
   have J1_1 : V11.cell? ⟨V4.heap.size, 1, none⟩ = some (.int .i64 (12)) := cell_of_row _ _ _ _ _ _ J1.out
   have J1_2 : V11.cell? ⟨V4.heap.size, 2, none⟩ = some (.int .i64 d) := cell_of_row _ _ _ _ _ _ J1.out
   have K1_0 : V11.cell? ⟨V5.heap.size, 0, none⟩ = some (.int .i64 (y + 1)) := cell_of_row _ _ _ _ _ _ K1.out
   have K1_1 : V11.cell? ⟨V5.heap.size, 1, none⟩ = some (.int .i64 (1)) := cell_of_row _ _ _ _ _ _ K1.out
   have K1_2 : V11.cell? ⟨V5.heap.size, 2, none⟩ = some (.int .i64 (1)) := cell_of_row _ _ _ _ _ _ K1.out
   have zA1 := lt_of_heap A1.out
   have zI1 := lt_of_heap I1.out
   have zJ1 := lt_of_heap J1.out
   have zK1 := lt_of_heap K1.out
   go_simp
   go_wp2
   go_ret
   exact ⟨rfl, by first | exact B11.out | exact B11.out.alloc B11.out.size _⟩
theorem civilBack_walk (y m d : Int) (w : World) (hM : MD w) : Calls Tryd.prog 6 #[.agg #[.int .i64 y, .int .i64 m, .int .i64 d]] w fun e w' => e = .returned (.bool true) ∧ Below w.heap.size w w' := by
  by_cases hc : ckC y m d = 0
  · obtain ⟨h, hm, y1, y2, n1, n2⟩ := back_h hc
    obtain ⟨p1, p2, p3, p4, p5⟩ := mayB_yes hm
    obtain ⟨y', m', d', k1, k2, k3⟩ := dn_next hm
    have XD : y' ≤ 9999 → ∀ w, MD w → Calls Tryd.prog 19 #[.int .i64 (dnI y m d + 1)] w fun e w' => e = .returned (.tuple #[.agg #[.int .i64 y', .int .i64 m', .int .i64 d'], .int .i64 0]) ∧ Below w.heap.size w w' := fun h9 => by
      have X := pDateOf_any y' m' d' k1 (by omega) h9
      rw [k2] at X
      exact X
    have XM := fun w h => grow_of (pMonthDays_p y m w h)
    rcases k3 with ⟨rfl, rfl, rfl, k4⟩ | ⟨rfl, rfl, rfl, k4, k5⟩ | ⟨rfl, rfl, rfl, k4, k5⟩
    · exact back_same _ _ _ _ _ h y1 y2 p3 p4 p1 p5 n1 n2 (XD y2) w hM
    · rw [← k4] at XM
      exact back_month _ _ _ _ _ h y1 y2 p3 p4 p1 p5 n1 n2 XM (XD y2) w hM
    · rw [← k4] at XM
      subst k5
      by_cases h9 : y + 1 ≤ 9999
      · exact back_year _ _ _ _ h y1 y2 p1 p5 n1 n2 XM (XD h9) w hM
      · obtain rfl : y = 9999 := by omega
        have e1 := dn_in hm
        have e2 := cm_year 9999
        have e3 := dn_in k1
        have e4 := yst_bounds.2
        have e5 : dnI 9999 12 d = 2932896 := by
          have e6 : dnI (9999 + 1) 1 1 = yst (9999 + 1) + cmN (9999 + 1) (1 - 1 : Int).toNat + 1 - 1 := e3.1
          have e7 : cmN (9999 + 1) (1 - 1 : Int).toNat = 0 := rfl
          rw [show (9999 : Int) + 1 = 10000 from rfl] at e6 e7 k2
          omega
        rw [e5] at h
        exact back_last _ _ _ _ h w hM
  · exact back_err y m d hc w hM
end Go.Proofs.YtbphbkllbdoldaaDoor
