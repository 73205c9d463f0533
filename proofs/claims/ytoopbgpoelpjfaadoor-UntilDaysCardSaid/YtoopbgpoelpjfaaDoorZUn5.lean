/- Several texts in one: UnD. -/
import Derived.Test.YtoopbgpoelpjfaaDoorZUn3
namespace Go.Proofs.YtoopbgpoelpjfaaDoor
set_option linter.unusedVariables false
set_option linter.unusedSimpArgs false
open Go.ChangeShapes Go.WideShapes Go.ChangeAt Go.RowKit
theorem far_months {y m d Y M D : Int} (hm : mayB y m d = true) (hM : mayB Y M D = true) (h : uT y m + 2 ≤ uT Y M) : dnI y m d + 28 ≤ dnI Y M D := by
  obtain ⟨p1, p2, p3, p4, p5⟩ := mayB_yes hm
  obtain ⟨q1, q2, q3, q4, q5⟩ := mayB_yes hM
  obtain ⟨a1, a2, a3⟩ := mo_T y m 1
  obtain ⟨b1, b2, b3⟩ := mo_T y m 2
  have f1 := fm_next p3 p4 a2 a3 a1
  have f2 := fm_next a2 a3 b2 b3 (show uT (moY y m 2) (moM y m 2) = uT (moY y m 1) (moM y m 1) + 1 by omega)
  have g1 := mdI_ge (moY y m 1) (moM y m 1) ⟨a2, a3⟩
  have g2 := mdI_ge (moY y m 2) (moM y m 2) ⟨b2, b3⟩
  have hx : mayB (moY y m 2) (moM y m 2) 1 = true := may_of (by decide) (by omega)
  have hx2 := dn_fm (moY y m 2) (moM y m 2) 1
  have hy2 := dn_fm y m d
  have le : dnI (moY y m 2) (moM y m 2) 1 ≤ dnI Y M D := by
    by_cases e : moY y m 2 = Y ∧ moM y m 2 = M ∧ D = 1
    · obtain ⟨e1, e2, e3⟩ := e
      rw [e1, e2, e3]; exact Int.le_refl _
    · refine Int.le_of_lt (dn_lt hx hM ?_)
      unfold uT at b1 h
      unfold dLt
      omega
  omega
theorem un_near {y m d Y M D t : Int} (ha : ckC y m d = 0) (hb : ckC Y M D = 0) (ht : dnI Y M D = dnI y m d + t) (t1 : -28 < t) (t2 : t < 28) :
    (unN y m d Y M D = 0 ∧ unD y m d Y M D = t) ∨ unN y m d Y M D = 1 ∨ unN y m d Y M D = -1 := by
  obtain ⟨hm, y1, y2⟩ := of_ckC ha
  obtain ⟨hM, Y1, Y2⟩ := of_ckC hb
  obtain ⟨p1, p2, p3, p4, p5⟩ := mayB_yes hm
  by_cases h0 : unN y m d Y M D = 0
  · refine Or.inl ⟨h0, ?_⟩
    obtain ⟨e1, e2, e3⟩ := moD_at (d := d) (n := 0) p3 p4 p3 p4 (by omega : uT y m + 0 = uT y m)
    unfold unD
    rw [h0, e1, e2, e3, show min d (mdI y m) = d by omega]
    omega
  · right
    by_cases ho : ord3 y m d Y M D ≤ 0
    · obtain ⟨u1, u2, u3, _⟩ := un_up ha hb ho
      by_cases h2 : 2 ≤ unN y m d Y M D
      · have := far_months hm hM (by omega); omega
      · omega
    · obtain ⟨u1, u2, u3, _⟩ := un_down ha hb ho
      by_cases h2 : unN y m d Y M D ≤ -2
      · have := far_months hM hm (by omega); omega
      · omega
set_option maxHeartbeats 3200000 in
set_option maxRecDepth 100000 in
theorem ud_z (y m d x t r Y M D N : Int) (hx : x.tmod 28 = t) (t1 : -28 < t) (t2 : t < 28) (r1 : -30 ≤ r) (r2 : r ≤ 30) (n1 : -1000000000 ≤ N) (n2 : N ≤ 1000001000)
    (H1 : Hid (∀ w, Calls Tryd.prog 15 #[.agg #[.int .i64 y, .int .i64 m, .int .i64 d]] w fun e w' => e = .returned (.tuple #[.int .i64 N, .int .i64 0]) ∧ Below w.heap.size w w'))
    (H2 : Hid (∀ w, Calls Tryd.prog 16 #[.int .i64 (N + t)] w fun e w' => e = .returned (.tuple #[.agg #[.int .i64 Y, .int .i64 M, .int .i64 D], .int .i64 0]) ∧ Below w.heap.size w w'))
    (H3 : Hid (∀ w, MD w → Calls Tryd.prog 7 #[.agg #[.int .i64 y, .int .i64 m, .int .i64 d], .agg #[.int .i64 Y, .int .i64 M, .int .i64 D]] w fun e w' => e = .returned (.tuple #[.agg #[.int .i64 0, .int .i64 (0), .int .i64 t], .int .i64 0]) ∧ Below w.heap.size w w')) (w : World) (hM : MD w) :
    Calls Tryd.prog 6 #[.agg #[.int .i64 y, .int .i64 m, .int .i64 d], .int .i64 x] w fun e w' => e = .returned (.bool true) ∧ Below w.heap.size w w' := by
  have HK := Lib.hid awake12_any
  replace hM := Lib.hid hM
  go_enter Tryd.func6, Tryd.ntmps6
  go_wp2_with fail
  
  refine (H1.out _).mono ?_
  rintro e V1 ⟨rfl, hb1⟩
  have B1 := Lib.hid (((Below.refl w.heap.size w).alloc (Nat.le_refl _) _).trans (hb1.mono (by first | assumption | (simp <;> omega) | (simp; done))))
  have A1 := Lib.hid (row_call hb1 (heap_alloc_new _ _))
  clear hb1
  have A1_0 : V1.cell? ⟨w.heap.size, 0, none⟩ = some (.int .i64 y) := cell_of_row _ _ _ _ _ _ A1.out
  have A1_1 : V1.cell? ⟨w.heap.size, 1, none⟩ = some (.int .i64 m) := cell_of_row _ _ _ _ _ _ A1.out
  have A1_2 : V1.cell? ⟨w.heap.size, 2, none⟩ = some (.int .i64 d) := cell_of_row _ _ _ _ _ _ A1.out
  have zA1 := lt_of_heap A1.out
  go_simp
  go_wp2_with fail
  refine (H2.out _).mono ?_
  rintro e V2 ⟨rfl, hb2⟩
  clear A1_0 A1_1 A1_2 zA1
  have B2 : Hid (Below w.heap.size w V2) := by first | exact Lib.hid ((B1.out).trans (hb2.mono (by have := B1.out.size; first | assumption | (simp <;> omega) | (simp; done)))) | exact Lib.hid (((B1.out).alloc (B1.out.size) _).trans (hb2.mono (by have := B1.out.size; first | assumption | (simp <;> omega) | (simp; done)))) | exact Lib.hid ((((B1.out).alloc (B1.out.size) _).alloc (by have := B1.out.size; simp <;> omega) _).trans (hb2.mono (by have := B1.out.size; first | assumption | (simp <;> omega) | (simp; done)))) | exact Lib.hid (((((B1.out).alloc (B1.out.size) _).alloc (by have := B1.out.size; simp <;> omega) _).alloc (by have := B1.out.size; simp <;> omega) _).trans (hb2.mono (by have := B1.out.size; first | assumption | (simp <;> omega) | (simp; done))))
  first | replace A1 := Lib.hid (row_call hb2 A1.out) | replace A1 := Lib.hid (row_call hb2 (row_alloc A1.out _)) | replace A1 := Lib.hid (row_call hb2 (row_alloc (row_alloc A1.out _) _)) | replace A1 := Lib.hid (row_call hb2 (row_alloc (row_alloc (row_alloc A1.out _) _) _))
  clear hb2
  have A1_0 : V2.cell? ⟨w.heap.size, 0, none⟩ = some (.int .i64 y) := cell_of_row _ _ _ _ _ _ A1.out
  have A1_1 : V2.cell? ⟨w.heap.size, 1, none⟩ = some (.int .i64 m) := cell_of_row _ _ _ _ _ _ A1.out
  have A1_2 : V2.cell? ⟨w.heap.size, 2, none⟩ = some (.int .i64 d) := cell_of_row _ _ _ _ _ _ A1.out
  have zA1 := lt_of_heap A1.out
  go_simp
  go_wp2_with fail
  refine (H3.out _ (by first | exact md_keep hM ((B2.out).alloc (B2.out.size) _))).mono ?_
  rintro e V3 ⟨rfl, hb3⟩
  clear A1_0 A1_1 A1_2 zA1
  have nA1C1 := Lib.hid (lt_of_heap A1.out)
  have B3 := Lib.hid (((B2.out).alloc (B2.out.size) _).trans (hb3.mono (by have := B2.out.size; first | assumption | (simp <;> omega) | (simp; done))))
  replace A1 := Lib.hid (row_call hb3 (row_alloc A1.out _))
  have C1 := Lib.hid (row_call hb3 (heap_alloc_new _ _))
  clear hb3
  have A1_0 : V3.cell? ⟨w.heap.size, 0, none⟩ = some (.int .i64 y) := cell_of_row _ _ _ _ _ _ A1.out
  have A1_1 : V3.cell? ⟨w.heap.size, 1, none⟩ = some (.int .i64 m) := cell_of_row _ _ _ _ _ _ A1.out
  have A1_2 : V3.cell? ⟨w.heap.size, 2, none⟩ = some (.int .i64 d) := cell_of_row _ _ _ _ _ _ A1.out
  have C1_0 : V3.cell? ⟨V2.heap.size, 0, none⟩ = some (.int .i64 Y) := cell_of_row _ _ _ _ _ _ C1.out
  have C1_1 : V3.cell? ⟨V2.heap.size, 1, none⟩ = some (.int .i64 M) := cell_of_row _ _ _ _ _ _ C1.out
  have C1_2 : V3.cell? ⟨V2.heap.size, 2, none⟩ = some (.int .i64 D) := cell_of_row _ _ _ _ _ _ C1.out
  have zA1 := lt_of_heap A1.out
  have zC1 := lt_of_heap C1.out
  go_simp
  go_wp2_with fail
  refine (HK.out _ (by first | exact md_keep hM ((B3.out).alloc (B3.out.size) _))).mono ?_
  rintro e V4 ⟨rfl, hb4⟩
  clear A1_0 A1_1 A1_2 zA1 C1_0 C1_1 C1_2 zC1
  have nA1P1 := Lib.hid (lt_of_heap A1.out)
  have nC1P1 := Lib.hid (lt_of_heap C1.out)
  have B4 := Lib.hid (((B3.out).alloc (B3.out.size) _).trans (hb4.mono (by have := B3.out.size; first | assumption | (simp <;> omega) | (simp; done))))
  replace A1 := Lib.hid (row_call hb4 (row_alloc A1.out _))
  replace C1 := Lib.hid (row_call hb4 (row_alloc C1.out _))
  have P1 := Lib.hid (row_call hb4 (heap_alloc_new _ _))
  clear hb4
  have A1_0 : V4.cell? ⟨w.heap.size, 0, none⟩ = some (.int .i64 y) := cell_of_row _ _ _ _ _ _ A1.out
  have A1_1 : V4.cell? ⟨w.heap.size, 1, none⟩ = some (.int .i64 m) := cell_of_row _ _ _ _ _ _ A1.out
  have A1_2 : V4.cell? ⟨w.heap.size, 2, none⟩ = some (.int .i64 d) := cell_of_row _ _ _ _ _ _ A1.out
  have C1_0 : V4.cell? ⟨V2.heap.size, 0, none⟩ = some (.int .i64 Y) := cell_of_row _ _ _ _ _ _ C1.out
  have C1_1 : V4.cell? ⟨V2.heap.size, 1, none⟩ = some (.int .i64 M) := cell_of_row _ _ _ _ _ _ C1.out
  have C1_2 : V4.cell? ⟨V2.heap.size, 2, none⟩ = some (.int .i64 D) := cell_of_row _ _ _ _ _ _ C1.out
  have P1_0 : V4.cell? ⟨V3.heap.size, 0, none⟩ = some (.int .i64 0) := cell_of_row _ _ _ _ _ _ P1.out
  have P1_1 : V4.cell? ⟨V3.heap.size, 1, none⟩ = some (.int .i64 (0)) := cell_of_row _ _ _ _ _ _ P1.out
  have P1_2 : V4.cell? ⟨V3.heap.size, 2, none⟩ = some (.int .i64 t) := cell_of_row _ _ _ _ _ _ P1.out
  have zA1 := lt_of_heap A1.out
  have zC1 := lt_of_heap C1.out
  have zP1 := lt_of_heap P1.out
  go_simp
  go_wp2
  go_ret
  exact ⟨rfl, by first | exact B4.out | exact B4.out.alloc B4.out.size _⟩
set_option maxHeartbeats 3200000 in
set_option maxRecDepth 100000 in
theorem ud_u (y m d x t r Y M D N : Int) (hx : x.tmod 28 = t) (t1 : -28 < t) (t2 : t < 28) (r1 : -30 ≤ r) (r2 : r ≤ 30) (n1 : -1000000000 ≤ N) (n2 : N ≤ 1000001000)
    (H1 : Hid (∀ w, Calls Tryd.prog 15 #[.agg #[.int .i64 y, .int .i64 m, .int .i64 d]] w fun e w' => e = .returned (.tuple #[.int .i64 N, .int .i64 0]) ∧ Below w.heap.size w w'))
    (H2 : Hid (∀ w, Calls Tryd.prog 16 #[.int .i64 (N + t)] w fun e w' => e = .returned (.tuple #[.agg #[.int .i64 Y, .int .i64 M, .int .i64 D], .int .i64 0]) ∧ Below w.heap.size w w'))
    (H3 : Hid (∀ w, MD w → Calls Tryd.prog 7 #[.agg #[.int .i64 y, .int .i64 m, .int .i64 d], .agg #[.int .i64 Y, .int .i64 M, .int .i64 D]] w fun e w' => e = .returned (.tuple #[.agg #[.int .i64 0, .int .i64 (1), .int .i64 r], .int .i64 0]) ∧ Below w.heap.size w w')) (w : World) (hM : MD w) :
    Calls Tryd.prog 6 #[.agg #[.int .i64 y, .int .i64 m, .int .i64 d], .int .i64 x] w fun e w' => e = .returned (.bool true) ∧ Below w.heap.size w w' := by
  have HK := Lib.hid awake12_any
  replace hM := Lib.hid hM
  go_enter Tryd.func6, Tryd.ntmps6
  go_wp2_with fail
  
  refine (H1.out _).mono ?_
  rintro e V1 ⟨rfl, hb1⟩
  have B1 := Lib.hid (((Below.refl w.heap.size w).alloc (Nat.le_refl _) _).trans (hb1.mono (by first | assumption | (simp <;> omega) | (simp; done))))
  have A1 := Lib.hid (row_call hb1 (heap_alloc_new _ _))
  clear hb1
  have A1_0 : V1.cell? ⟨w.heap.size, 0, none⟩ = some (.int .i64 y) := cell_of_row _ _ _ _ _ _ A1.out
  have A1_1 : V1.cell? ⟨w.heap.size, 1, none⟩ = some (.int .i64 m) := cell_of_row _ _ _ _ _ _ A1.out
  have A1_2 : V1.cell? ⟨w.heap.size, 2, none⟩ = some (.int .i64 d) := cell_of_row _ _ _ _ _ _ A1.out
  have zA1 := lt_of_heap A1.out
  go_simp
  go_wp2_with fail
  refine (H2.out _).mono ?_
  rintro e V2 ⟨rfl, hb2⟩
  clear A1_0 A1_1 A1_2 zA1
  have B2 : Hid (Below w.heap.size w V2) := by first | exact Lib.hid ((B1.out).trans (hb2.mono (by have := B1.out.size; first | assumption | (simp <;> omega) | (simp; done)))) | exact Lib.hid (((B1.out).alloc (B1.out.size) _).trans (hb2.mono (by have := B1.out.size; first | assumption | (simp <;> omega) | (simp; done)))) | exact Lib.hid ((((B1.out).alloc (B1.out.size) _).alloc (by have := B1.out.size; simp <;> omega) _).trans (hb2.mono (by have := B1.out.size; first | assumption | (simp <;> omega) | (simp; done)))) | exact Lib.hid (((((B1.out).alloc (B1.out.size) _).alloc (by have := B1.out.size; simp <;> omega) _).alloc (by have := B1.out.size; simp <;> omega) _).trans (hb2.mono (by have := B1.out.size; first | assumption | (simp <;> omega) | (simp; done))))
  first | replace A1 := Lib.hid (row_call hb2 A1.out) | replace A1 := Lib.hid (row_call hb2 (row_alloc A1.out _)) | replace A1 := Lib.hid (row_call hb2 (row_alloc (row_alloc A1.out _) _)) | replace A1 := Lib.hid (row_call hb2 (row_alloc (row_alloc (row_alloc A1.out _) _) _))
  clear hb2
  have A1_0 : V2.cell? ⟨w.heap.size, 0, none⟩ = some (.int .i64 y) := cell_of_row _ _ _ _ _ _ A1.out
  have A1_1 : V2.cell? ⟨w.heap.size, 1, none⟩ = some (.int .i64 m) := cell_of_row _ _ _ _ _ _ A1.out
  have A1_2 : V2.cell? ⟨w.heap.size, 2, none⟩ = some (.int .i64 d) := cell_of_row _ _ _ _ _ _ A1.out
  have zA1 := lt_of_heap A1.out
  go_simp
  go_wp2_with fail
  refine (H3.out _ (by first | exact md_keep hM ((B2.out).alloc (B2.out.size) _))).mono ?_
  rintro e V3 ⟨rfl, hb3⟩
  clear A1_0 A1_1 A1_2 zA1
  have nA1C1 := Lib.hid (lt_of_heap A1.out)
  have B3 := Lib.hid (((B2.out).alloc (B2.out.size) _).trans (hb3.mono (by have := B2.out.size; first | assumption | (simp <;> omega) | (simp; done))))
  replace A1 := Lib.hid (row_call hb3 (row_alloc A1.out _))
  have C1 := Lib.hid (row_call hb3 (heap_alloc_new _ _))
  clear hb3
  have A1_0 : V3.cell? ⟨w.heap.size, 0, none⟩ = some (.int .i64 y) := cell_of_row _ _ _ _ _ _ A1.out
  have A1_1 : V3.cell? ⟨w.heap.size, 1, none⟩ = some (.int .i64 m) := cell_of_row _ _ _ _ _ _ A1.out
  have A1_2 : V3.cell? ⟨w.heap.size, 2, none⟩ = some (.int .i64 d) := cell_of_row _ _ _ _ _ _ A1.out
  have C1_0 : V3.cell? ⟨V2.heap.size, 0, none⟩ = some (.int .i64 Y) := cell_of_row _ _ _ _ _ _ C1.out
  have C1_1 : V3.cell? ⟨V2.heap.size, 1, none⟩ = some (.int .i64 M) := cell_of_row _ _ _ _ _ _ C1.out
  have C1_2 : V3.cell? ⟨V2.heap.size, 2, none⟩ = some (.int .i64 D) := cell_of_row _ _ _ _ _ _ C1.out
  have zA1 := lt_of_heap A1.out
  have zC1 := lt_of_heap C1.out
  go_simp
  go_wp2_with fail
  refine (HK.out _ (by first | exact md_keep hM ((B3.out).alloc (B3.out.size) _))).mono ?_
  rintro e V4 ⟨rfl, hb4⟩
  clear A1_0 A1_1 A1_2 zA1 C1_0 C1_1 C1_2 zC1
  have nA1P1 := Lib.hid (lt_of_heap A1.out)
  have nC1P1 := Lib.hid (lt_of_heap C1.out)
  have B4 := Lib.hid (((B3.out).alloc (B3.out.size) _).trans (hb4.mono (by have := B3.out.size; first | assumption | (simp <;> omega) | (simp; done))))
  replace A1 := Lib.hid (row_call hb4 (row_alloc A1.out _))
  replace C1 := Lib.hid (row_call hb4 (row_alloc C1.out _))
  have P1 := Lib.hid (row_call hb4 (heap_alloc_new _ _))
  clear hb4
  have A1_0 : V4.cell? ⟨w.heap.size, 0, none⟩ = some (.int .i64 y) := cell_of_row _ _ _ _ _ _ A1.out
  have A1_1 : V4.cell? ⟨w.heap.size, 1, none⟩ = some (.int .i64 m) := cell_of_row _ _ _ _ _ _ A1.out
  have A1_2 : V4.cell? ⟨w.heap.size, 2, none⟩ = some (.int .i64 d) := cell_of_row _ _ _ _ _ _ A1.out
  have C1_0 : V4.cell? ⟨V2.heap.size, 0, none⟩ = some (.int .i64 Y) := cell_of_row _ _ _ _ _ _ C1.out
  have C1_1 : V4.cell? ⟨V2.heap.size, 1, none⟩ = some (.int .i64 M) := cell_of_row _ _ _ _ _ _ C1.out
  have C1_2 : V4.cell? ⟨V2.heap.size, 2, none⟩ = some (.int .i64 D) := cell_of_row _ _ _ _ _ _ C1.out
  have P1_0 : V4.cell? ⟨V3.heap.size, 0, none⟩ = some (.int .i64 0) := cell_of_row _ _ _ _ _ _ P1.out
  have P1_1 : V4.cell? ⟨V3.heap.size, 1, none⟩ = some (.int .i64 (1)) := cell_of_row _ _ _ _ _ _ P1.out
  have P1_2 : V4.cell? ⟨V3.heap.size, 2, none⟩ = some (.int .i64 r) := cell_of_row _ _ _ _ _ _ P1.out
  have zA1 := lt_of_heap A1.out
  have zC1 := lt_of_heap C1.out
  have zP1 := lt_of_heap P1.out
  go_simp
  go_wp2
  go_ret
  exact ⟨rfl, by first | exact B4.out | exact B4.out.alloc B4.out.size _⟩
set_option maxHeartbeats 3200000 in
set_option maxRecDepth 100000 in
theorem ud_d (y m d x t r Y M D N : Int) (hx : x.tmod 28 = t) (t1 : -28 < t) (t2 : t < 28) (r1 : -30 ≤ r) (r2 : r ≤ 30) (n1 : -1000000000 ≤ N) (n2 : N ≤ 1000001000)
    (H1 : Hid (∀ w, Calls Tryd.prog 15 #[.agg #[.int .i64 y, .int .i64 m, .int .i64 d]] w fun e w' => e = .returned (.tuple #[.int .i64 N, .int .i64 0]) ∧ Below w.heap.size w w'))
    (H2 : Hid (∀ w, Calls Tryd.prog 16 #[.int .i64 (N + t)] w fun e w' => e = .returned (.tuple #[.agg #[.int .i64 Y, .int .i64 M, .int .i64 D], .int .i64 0]) ∧ Below w.heap.size w w'))
    (H3 : Hid (∀ w, MD w → Calls Tryd.prog 7 #[.agg #[.int .i64 y, .int .i64 m, .int .i64 d], .agg #[.int .i64 Y, .int .i64 M, .int .i64 D]] w fun e w' => e = .returned (.tuple #[.agg #[.int .i64 0, .int .i64 (-1), .int .i64 r], .int .i64 0]) ∧ Below w.heap.size w w')) (w : World) (hM : MD w) :
    Calls Tryd.prog 6 #[.agg #[.int .i64 y, .int .i64 m, .int .i64 d], .int .i64 x] w fun e w' => e = .returned (.bool true) ∧ Below w.heap.size w w' := by
  have HK := Lib.hid awake12_any
  replace hM := Lib.hid hM
  go_enter Tryd.func6, Tryd.ntmps6
  go_wp2_with fail
  
  refine (H1.out _).mono ?_
  rintro e V1 ⟨rfl, hb1⟩
  have B1 := Lib.hid (((Below.refl w.heap.size w).alloc (Nat.le_refl _) _).trans (hb1.mono (by first | assumption | (simp <;> omega) | (simp; done))))
  have A1 := Lib.hid (row_call hb1 (heap_alloc_new _ _))
  clear hb1
  have A1_0 : V1.cell? ⟨w.heap.size, 0, none⟩ = some (.int .i64 y) := cell_of_row _ _ _ _ _ _ A1.out
  have A1_1 : V1.cell? ⟨w.heap.size, 1, none⟩ = some (.int .i64 m) := cell_of_row _ _ _ _ _ _ A1.out
  have A1_2 : V1.cell? ⟨w.heap.size, 2, none⟩ = some (.int .i64 d) := cell_of_row _ _ _ _ _ _ A1.out
  have zA1 := lt_of_heap A1.out
  go_simp
  go_wp2_with fail
  refine (H2.out _).mono ?_
  rintro e V2 ⟨rfl, hb2⟩
  clear A1_0 A1_1 A1_2 zA1
  have B2 : Hid (Below w.heap.size w V2) := by first | exact Lib.hid ((B1.out).trans (hb2.mono (by have := B1.out.size; first | assumption | (simp <;> omega) | (simp; done)))) | exact Lib.hid (((B1.out).alloc (B1.out.size) _).trans (hb2.mono (by have := B1.out.size; first | assumption | (simp <;> omega) | (simp; done)))) | exact Lib.hid ((((B1.out).alloc (B1.out.size) _).alloc (by have := B1.out.size; simp <;> omega) _).trans (hb2.mono (by have := B1.out.size; first | assumption | (simp <;> omega) | (simp; done)))) | exact Lib.hid (((((B1.out).alloc (B1.out.size) _).alloc (by have := B1.out.size; simp <;> omega) _).alloc (by have := B1.out.size; simp <;> omega) _).trans (hb2.mono (by have := B1.out.size; first | assumption | (simp <;> omega) | (simp; done))))
  first | replace A1 := Lib.hid (row_call hb2 A1.out) | replace A1 := Lib.hid (row_call hb2 (row_alloc A1.out _)) | replace A1 := Lib.hid (row_call hb2 (row_alloc (row_alloc A1.out _) _)) | replace A1 := Lib.hid (row_call hb2 (row_alloc (row_alloc (row_alloc A1.out _) _) _))
  clear hb2
  have A1_0 : V2.cell? ⟨w.heap.size, 0, none⟩ = some (.int .i64 y) := cell_of_row _ _ _ _ _ _ A1.out
  have A1_1 : V2.cell? ⟨w.heap.size, 1, none⟩ = some (.int .i64 m) := cell_of_row _ _ _ _ _ _ A1.out
  have A1_2 : V2.cell? ⟨w.heap.size, 2, none⟩ = some (.int .i64 d) := cell_of_row _ _ _ _ _ _ A1.out
  have zA1 := lt_of_heap A1.out
  go_simp
  go_wp2_with fail
  refine (H3.out _ (by first | exact md_keep hM ((B2.out).alloc (B2.out.size) _))).mono ?_
  rintro e V3 ⟨rfl, hb3⟩
  clear A1_0 A1_1 A1_2 zA1
  have nA1C1 := Lib.hid (lt_of_heap A1.out)
  have B3 := Lib.hid (((B2.out).alloc (B2.out.size) _).trans (hb3.mono (by have := B2.out.size; first | assumption | (simp <;> omega) | (simp; done))))
  replace A1 := Lib.hid (row_call hb3 (row_alloc A1.out _))
  have C1 := Lib.hid (row_call hb3 (heap_alloc_new _ _))
  clear hb3
  have A1_0 : V3.cell? ⟨w.heap.size, 0, none⟩ = some (.int .i64 y) := cell_of_row _ _ _ _ _ _ A1.out
  have A1_1 : V3.cell? ⟨w.heap.size, 1, none⟩ = some (.int .i64 m) := cell_of_row _ _ _ _ _ _ A1.out
  have A1_2 : V3.cell? ⟨w.heap.size, 2, none⟩ = some (.int .i64 d) := cell_of_row _ _ _ _ _ _ A1.out
  have C1_0 : V3.cell? ⟨V2.heap.size, 0, none⟩ = some (.int .i64 Y) := cell_of_row _ _ _ _ _ _ C1.out
  have C1_1 : V3.cell? ⟨V2.heap.size, 1, none⟩ = some (.int .i64 M) := cell_of_row _ _ _ _ _ _ C1.out
  have C1_2 : V3.cell? ⟨V2.heap.size, 2, none⟩ = some (.int .i64 D) := cell_of_row _ _ _ _ _ _ C1.out
  have zA1 := lt_of_heap A1.out
  have zC1 := lt_of_heap C1.out
  go_simp
  go_wp2_with fail
  refine (HK.out _ (by first | exact md_keep hM ((B3.out).alloc (B3.out.size) _))).mono ?_
  rintro e V4 ⟨rfl, hb4⟩
  clear A1_0 A1_1 A1_2 zA1 C1_0 C1_1 C1_2 zC1
  have nA1P1 := Lib.hid (lt_of_heap A1.out)
  have nC1P1 := Lib.hid (lt_of_heap C1.out)
  have B4 := Lib.hid (((B3.out).alloc (B3.out.size) _).trans (hb4.mono (by have := B3.out.size; first | assumption | (simp <;> omega) | (simp; done))))
  replace A1 := Lib.hid (row_call hb4 (row_alloc A1.out _))
  replace C1 := Lib.hid (row_call hb4 (row_alloc C1.out _))
  have P1 := Lib.hid (row_call hb4 (heap_alloc_new _ _))
  clear hb4
  have A1_0 : V4.cell? ⟨w.heap.size, 0, none⟩ = some (.int .i64 y) := cell_of_row _ _ _ _ _ _ A1.out
  have A1_1 : V4.cell? ⟨w.heap.size, 1, none⟩ = some (.int .i64 m) := cell_of_row _ _ _ _ _ _ A1.out
  have A1_2 : V4.cell? ⟨w.heap.size, 2, none⟩ = some (.int .i64 d) := cell_of_row _ _ _ _ _ _ A1.out
  have C1_0 : V4.cell? ⟨V2.heap.size, 0, none⟩ = some (.int .i64 Y) := cell_of_row _ _ _ _ _ _ C1.out
  have C1_1 : V4.cell? ⟨V2.heap.size, 1, none⟩ = some (.int .i64 M) := cell_of_row _ _ _ _ _ _ C1.out
  have C1_2 : V4.cell? ⟨V2.heap.size, 2, none⟩ = some (.int .i64 D) := cell_of_row _ _ _ _ _ _ C1.out
  have P1_0 : V4.cell? ⟨V3.heap.size, 0, none⟩ = some (.int .i64 0) := cell_of_row _ _ _ _ _ _ P1.out
  have P1_1 : V4.cell? ⟨V3.heap.size, 1, none⟩ = some (.int .i64 (-1)) := cell_of_row _ _ _ _ _ _ P1.out
  have P1_2 : V4.cell? ⟨V3.heap.size, 2, none⟩ = some (.int .i64 r) := cell_of_row _ _ _ _ _ _ P1.out
  have zA1 := lt_of_heap A1.out
  have zC1 := lt_of_heap C1.out
  have zP1 := lt_of_heap P1.out
  go_simp
  go_wp2
  go_ret
  exact ⟨rfl, by first | exact B4.out | exact B4.out.alloc B4.out.size _⟩
set_option maxHeartbeats 3200000 in
set_option maxRecDepth 100000 in
theorem ud_bad (y m d x : Int) (hc : ckC y m d ≠ 0) (w : World) (hM : MD w) : Calls Tryd.prog 6 #[.agg #[.int .i64 y, .int .i64 m, .int .i64 d], .int .i64 x] w fun e w' => e = .returned (.bool true) ∧ Below w.heap.size w w' := by
  have HK := Lib.hid awake12_any
  have H1 := Lib.hid (rDays_any y m d)
  generalize ckC y m d = E at *
  generalize dyV y m d = N at *
  have f1 : (E != 0) = true := by rw [bne_iff_ne]; exact hc
  replace hM := Lib.hid hM
  go_enter Tryd.func6, Tryd.ntmps6
  go_wp2_with fail
  
  refine (H1.out _).mono ?_
  rintro e V1 ⟨rfl, hb1⟩
  have B1 := Lib.hid (((Below.refl w.heap.size w).alloc (Nat.le_refl _) _).trans (hb1.mono (by first | assumption | (simp <;> omega) | (simp; done))))
  have A1 := Lib.hid (row_call hb1 (heap_alloc_new _ _))
  clear hb1
  have A1_0 : V1.cell? ⟨w.heap.size, 0, none⟩ = some (.int .i64 y) := cell_of_row _ _ _ _ _ _ A1.out
  have A1_1 : V1.cell? ⟨w.heap.size, 1, none⟩ = some (.int .i64 m) := cell_of_row _ _ _ _ _ _ A1.out
  have A1_2 : V1.cell? ⟨w.heap.size, 2, none⟩ = some (.int .i64 d) := cell_of_row _ _ _ _ _ _ A1.out
  have zA1 := lt_of_heap A1.out
  go_simp
  go_wp2_with fail
  refine (HK.out _ (by first | exact md_keep hM (B1.out) | exact md_keep hM ((B1.out).alloc (B1.out.size) _) | exact md_keep hM (((B1.out).alloc (B1.out.size) _).alloc (by have := B1.out.size; simp <;> omega) _) | exact md_keep hM ((((B1.out).alloc (B1.out.size) _).alloc (by have := B1.out.size; simp <;> omega) _).alloc (by have := B1.out.size; simp <;> omega) _))).mono ?_
  rintro e V2 ⟨rfl, hb2⟩
  clear A1_0 A1_1 A1_2 zA1
  have B2 : Hid (Below w.heap.size w V2) := by first | exact Lib.hid ((B1.out).trans (hb2.mono (by have := B1.out.size; first | assumption | (simp <;> omega) | (simp; done)))) | exact Lib.hid (((B1.out).alloc (B1.out.size) _).trans (hb2.mono (by have := B1.out.size; first | assumption | (simp <;> omega) | (simp; done)))) | exact Lib.hid ((((B1.out).alloc (B1.out.size) _).alloc (by have := B1.out.size; simp <;> omega) _).trans (hb2.mono (by have := B1.out.size; first | assumption | (simp <;> omega) | (simp; done)))) | exact Lib.hid (((((B1.out).alloc (B1.out.size) _).alloc (by have := B1.out.size; simp <;> omega) _).alloc (by have := B1.out.size; simp <;> omega) _).trans (hb2.mono (by have := B1.out.size; first | assumption | (simp <;> omega) | (simp; done))))
  first | replace A1 := Lib.hid (row_call hb2 A1.out) | replace A1 := Lib.hid (row_call hb2 (row_alloc A1.out _)) | replace A1 := Lib.hid (row_call hb2 (row_alloc (row_alloc A1.out _) _)) | replace A1 := Lib.hid (row_call hb2 (row_alloc (row_alloc (row_alloc A1.out _) _) _))
  clear hb2
  have A1_0 : V2.cell? ⟨w.heap.size, 0, none⟩ = some (.int .i64 y) := cell_of_row _ _ _ _ _ _ A1.out
  have A1_1 : V2.cell? ⟨w.heap.size, 1, none⟩ = some (.int .i64 m) := cell_of_row _ _ _ _ _ _ A1.out
  have A1_2 : V2.cell? ⟨w.heap.size, 2, none⟩ = some (.int .i64 d) := cell_of_row _ _ _ _ _ _ A1.out
  have zA1 := lt_of_heap A1.out
  go_simp
  go_wp2
  go_ret
  exact ⟨rfl, by first | exact B2.out | exact B2.out.alloc B2.out.size _⟩
set_option maxHeartbeats 3200000 in
set_option maxRecDepth 100000 in
theorem ud_out (y m d x t N : Int) (hx : x.tmod 28 = t) (t1 : -28 < t) (t2 : t < 28) (n1 : -1000000000 ≤ N) (n2 : N ≤ 1000001000)
    (H1 : Hid (∀ w, Calls Tryd.prog 15 #[.agg #[.int .i64 y, .int .i64 m, .int .i64 d]] w fun e w' => e = .returned (.tuple #[.int .i64 N, .int .i64 0]) ∧ Below w.heap.size w w'))
    (H2 : Hid (∀ w, Calls Tryd.prog 16 #[.int .i64 (N + t)] w fun e w' => e = .returned (.tuple #[.agg #[.int .i64 0, .int .i64 0, .int .i64 0], .int .i64 8]) ∧ Below w.heap.size w w')) (w : World) (hM : MD w) : Calls Tryd.prog 6 #[.agg #[.int .i64 y, .int .i64 m, .int .i64 d], .int .i64 x] w fun e w' => e = .returned (.bool true) ∧ Below w.heap.size w w' := by
  have HK := Lib.hid awake12_any
  replace hM := Lib.hid hM
  go_enter Tryd.func6, Tryd.ntmps6
  go_wp2_with fail
  
  refine (H1.out _).mono ?_
  rintro e V1 ⟨rfl, hb1⟩
  have B1 := Lib.hid (((Below.refl w.heap.size w).alloc (Nat.le_refl _) _).trans (hb1.mono (by first | assumption | (simp <;> omega) | (simp; done))))
  have A1 := Lib.hid (row_call hb1 (heap_alloc_new _ _))
  clear hb1
  have A1_0 : V1.cell? ⟨w.heap.size, 0, none⟩ = some (.int .i64 y) := cell_of_row _ _ _ _ _ _ A1.out
  have A1_1 : V1.cell? ⟨w.heap.size, 1, none⟩ = some (.int .i64 m) := cell_of_row _ _ _ _ _ _ A1.out
  have A1_2 : V1.cell? ⟨w.heap.size, 2, none⟩ = some (.int .i64 d) := cell_of_row _ _ _ _ _ _ A1.out
  have zA1 := lt_of_heap A1.out
  go_simp
  go_wp2_with fail
  refine (H2.out _).mono ?_
  rintro e V2 ⟨rfl, hb2⟩
  clear A1_0 A1_1 A1_2 zA1
  have B2 : Hid (Below w.heap.size w V2) := by first | exact Lib.hid ((B1.out).trans (hb2.mono (by have := B1.out.size; first | assumption | (simp <;> omega) | (simp; done)))) | exact Lib.hid (((B1.out).alloc (B1.out.size) _).trans (hb2.mono (by have := B1.out.size; first | assumption | (simp <;> omega) | (simp; done)))) | exact Lib.hid ((((B1.out).alloc (B1.out.size) _).alloc (by have := B1.out.size; simp <;> omega) _).trans (hb2.mono (by have := B1.out.size; first | assumption | (simp <;> omega) | (simp; done)))) | exact Lib.hid (((((B1.out).alloc (B1.out.size) _).alloc (by have := B1.out.size; simp <;> omega) _).alloc (by have := B1.out.size; simp <;> omega) _).trans (hb2.mono (by have := B1.out.size; first | assumption | (simp <;> omega) | (simp; done))))
  first | replace A1 := Lib.hid (row_call hb2 A1.out) | replace A1 := Lib.hid (row_call hb2 (row_alloc A1.out _)) | replace A1 := Lib.hid (row_call hb2 (row_alloc (row_alloc A1.out _) _)) | replace A1 := Lib.hid (row_call hb2 (row_alloc (row_alloc (row_alloc A1.out _) _) _))
  clear hb2
  have A1_0 : V2.cell? ⟨w.heap.size, 0, none⟩ = some (.int .i64 y) := cell_of_row _ _ _ _ _ _ A1.out
  have A1_1 : V2.cell? ⟨w.heap.size, 1, none⟩ = some (.int .i64 m) := cell_of_row _ _ _ _ _ _ A1.out
  have A1_2 : V2.cell? ⟨w.heap.size, 2, none⟩ = some (.int .i64 d) := cell_of_row _ _ _ _ _ _ A1.out
  have zA1 := lt_of_heap A1.out
  go_simp
  go_wp2_with fail
  refine (HK.out _ (by first | exact md_keep hM ((B2.out).alloc (B2.out.size) _))).mono ?_
  rintro e V3 ⟨rfl, hb3⟩
  clear A1_0 A1_1 A1_2 zA1
  have nA1C1 := Lib.hid (lt_of_heap A1.out)
  have B3 := Lib.hid (((B2.out).alloc (B2.out.size) _).trans (hb3.mono (by have := B2.out.size; first | assumption | (simp <;> omega) | (simp; done))))
  replace A1 := Lib.hid (row_call hb3 (row_alloc A1.out _))
  have C1 := Lib.hid (row_call hb3 (heap_alloc_new _ _))
  clear hb3
  have A1_0 : V3.cell? ⟨w.heap.size, 0, none⟩ = some (.int .i64 y) := cell_of_row _ _ _ _ _ _ A1.out
  have A1_1 : V3.cell? ⟨w.heap.size, 1, none⟩ = some (.int .i64 m) := cell_of_row _ _ _ _ _ _ A1.out
  have A1_2 : V3.cell? ⟨w.heap.size, 2, none⟩ = some (.int .i64 d) := cell_of_row _ _ _ _ _ _ A1.out
  have C1_0 : V3.cell? ⟨V2.heap.size, 0, none⟩ = some (.int .i64 0) := cell_of_row _ _ _ _ _ _ C1.out
  have C1_1 : V3.cell? ⟨V2.heap.size, 1, none⟩ = some (.int .i64 0) := cell_of_row _ _ _ _ _ _ C1.out
  have C1_2 : V3.cell? ⟨V2.heap.size, 2, none⟩ = some (.int .i64 0) := cell_of_row _ _ _ _ _ _ C1.out
  have zA1 := lt_of_heap A1.out
  have zC1 := lt_of_heap C1.out
  go_simp
  go_wp2
  go_ret
  exact ⟨rfl, by first | exact B3.out | exact B3.out.alloc B3.out.size _⟩
theorem untilDays_walk (y m d x : Int) (w : World) (hM : MD w) : Calls Tryd.prog 6 #[.agg #[.int .i64 y, .int .i64 m, .int .i64 d], .int .i64 x] w fun e w' => e = .returned (.bool true) ∧ Below w.heap.size w w' := by
  by_cases hc : ckC y m d = 0
  · obtain ⟨hm, y1, y2⟩ := of_ckC hc
    obtain ⟨p1, p2, p3, p4, p5⟩ := mayB_yes hm
    obtain ⟨b1, b2⟩ := dn_bd (y := y) (m := m) (d := d) (by omega) ⟨p3, p4⟩ ⟨p1, p5⟩
    have t1 := Int.lt_tmod_of_pos x (show (0 : Int) < 28 by decide)
    have t2 := Int.tmod_lt_of_pos x (show (0 : Int) < 28 by decide)
    have X1 := rDays_any y m d
    rw [hc, (dy_ok hc).1] at X1
    obtain ⟨Y, M, D, E, hd⟩ := isDate_ex (dnI y m d + x.tmod 28)
    have X2 := rDateOf_is hd
    rcases hd with ⟨hd, rfl, rfl, rfl, rfl⟩ | ⟨hM2, Y1, Y2, hd, rfl⟩
    · exact ud_out y m d x _ _ rfl t1 t2 b1 b2 (Lib.hid X1) (Lib.hid X2) w hM
    · have hb := ckC_ok hM2 (by omega)
      have hu : unE y m d Y M D = 0 := by unfold unE; rw [if_neg (by omega)]; exact hb
      have X3 := pUntil_any y m d Y M D hu
      have gD : -30 ≤ unD y m d Y M D ∧ unD y m d Y M D ≤ 30 := by
        obtain ⟨g1, g2⟩ := un_days hc hb
        by_cases ho : ord3 y m d Y M D ≤ 0
        · have := g1 ho; omega
        · have := g2 ho; omega
      rcases un_near hc hb hd t1 t2 with ⟨e1, e2⟩ | e1 | e1
      · rw [e1, e2] at X3
        exact ud_z y m d x _ 0 Y M D _ rfl t1 t2 (by decide) (by decide) b1 b2 (Lib.hid X1) (Lib.hid X2) (Lib.hid X3) w hM
      · rw [e1] at X3
        exact ud_u y m d x _ _ Y M D _ rfl t1 t2 gD.1 gD.2 b1 b2 (Lib.hid X1) (Lib.hid X2) (Lib.hid X3) w hM
      · rw [e1] at X3
        exact ud_d y m d x _ _ Y M D _ rfl t1 t2 gD.1 gD.2 b1 b2 (Lib.hid X1) (Lib.hid X2) (Lib.hid X3) w hM
  · exact ud_bad y m d x hc w hM
end Go.Proofs.YtoopbgpoelpjfaaDoor
