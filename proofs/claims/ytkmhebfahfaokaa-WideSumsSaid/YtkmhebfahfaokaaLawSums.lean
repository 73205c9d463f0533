/- The walk of the law WideSums. -/
import Derived.Test.YtkmhebfahfaokaaLawBack
import Derived.Test.YtkmhebfahfaokaaPkgF
import Derived.Test.YtkmhebfahfaokaaRefS
import Derived.Test.YtkmhebfahfaokaaEqlW
import Derived.Deep.DrawnRows
namespace Go.Proofs.Ytkmhebfahfaokaa
set_option linter.unusedVariables false
set_option linter.unusedSimpArgs false
open Go.ChangeShapes Go.WideShapes Go.ChangeAt Go.RowKit

attribute [local go_sem ↓] Go.wp_at_zero Go.wp_at_succ
set_option maxHeartbeats 1600000 in
theorem wideSums_walk (h l b c : Nat) (u : U h) (v : U l) (ub : U b) (uc : U c) (w : World) :
    Calls Try.prog 3 #[.agg #[.int .u64 h, .int .u64 l], .agg #[.int .u64 b, .int .u64 c]] w fun e w' => e = .returned (.bool true) ∧ Below w.heap.size w w' := by
  have H1 := Lib.hid (add_any h l b c u v ub uc)
  have H2 := Lib.hid (refAdd_any h l b c u v ub uc)
  have H3 := Lib.hid (sub_any h l b c u v ub uc)
  have H4 := Lib.hid (refSub_any h l b c u v ub uc)
  have H5 := Lib.hid (neg_any h l u v)
  have H6 := Lib.hid (refNeg_any h l u v)
  have H7 := Lib.hid (cmp_any h l b c u v ub uc)
  have H8 := Lib.hid (refCmp_any h l b c v uc)
  have H9 := Lib.hid (signed_any h l b c u v ub uc)
  have HA := Lib.hid (refSigned_any h l b c v uc)
  have HB := Lib.hid awake_any
  generalize decide (num h l < num b c) = o2 at *
  generalize cmpI (num h l) (num b c) = m at *
  generalize sgnI (num h l) h (num b c) b = m2 at *
  generalize big (num h l + num b c) = o1 at *
  generalize hi (num h l + num b c) = x1 at *
  generalize lo (num h l + num b c) = x2 at *
  generalize hi (num h l + 340282366920938463463374607431768211456 - num b c) = y1 at *
  generalize lo (num h l + 340282366920938463463374607431768211456 - num b c) = y2 at *
  generalize hi (340282366920938463463374607431768211456 - num h l) = z1 at *
  generalize lo (340282366920938463463374607431768211456 - num h l) = z2 at *
  clear u v ub uc
  go_enter Try.func3, Try.ntmps3
  go_wp2_with fail
  
  refine (H1.out _).mono ?_
  rintro e V1 ⟨rfl, hb1⟩
  have B1 := Lib.hid ((((Below.refl w.heap.size w).alloc (Nat.le_refl _) _).alloc (by simp <;> omega) _).trans (hb1.mono (by first | assumption | (simp <;> omega) | (simp; done))))
  have R1 := Lib.hid (row_call hb1 (row_alloc (heap_alloc_new _ _) _))
  have R2 := Lib.hid (row_at (k' := w.heap.size + 1) (by simp) (row_call hb1 (heap_alloc_new _ _)))
  clear hb1
  have R1_0 : V1.cell? ⟨w.heap.size, 0, none⟩ = some (.int .u64 h) := cell_of_row _ _ _ _ _ _ R1.out
  have R1_1 : V1.cell? ⟨w.heap.size, 1, none⟩ = some (.int .u64 l) := cell_of_row _ _ _ _ _ _ R1.out
  have R2_0 : V1.cell? ⟨w.heap.size + 1, 0, none⟩ = some (.int .u64 b) := cell_of_row _ _ _ _ _ _ R2.out
  have R2_1 : V1.cell? ⟨w.heap.size + 1, 1, none⟩ = some (.int .u64 c) := cell_of_row _ _ _ _ _ _ R2.out
  have zR1 := lt_of_heap R1.out
  have zR2 := lt_of_heap R2.out
  go_simp
  go_wp2_with fail
  refine (H2.out _).mono ?_
  rintro e V2 ⟨rfl, hb2⟩
  clear R1_0 R1_1 zR1 R2_0 R2_1 zR2
  have nR1C1 := Lib.hid (lt_of_heap R1.out)
  have nR2C1 := Lib.hid (lt_of_heap R2.out)
  have B2 := Lib.hid (((B1.out).alloc (B1.out.size) _).trans (hb2.mono (by have := B1.out.size; first | assumption | (simp <;> omega) | (simp; done))))
  replace R1 := Lib.hid (row_call hb2 (row_alloc R1.out _))
  replace R2 := Lib.hid (row_call hb2 (row_alloc R2.out _))
  have C1 := Lib.hid (row_call hb2 (heap_alloc_new _ _))
  clear hb2
  have R1_0 : V2.cell? ⟨w.heap.size, 0, none⟩ = some (.int .u64 h) := cell_of_row _ _ _ _ _ _ R1.out
  have R1_1 : V2.cell? ⟨w.heap.size, 1, none⟩ = some (.int .u64 l) := cell_of_row _ _ _ _ _ _ R1.out
  have R2_0 : V2.cell? ⟨w.heap.size + 1, 0, none⟩ = some (.int .u64 b) := cell_of_row _ _ _ _ _ _ R2.out
  have R2_1 : V2.cell? ⟨w.heap.size + 1, 1, none⟩ = some (.int .u64 c) := cell_of_row _ _ _ _ _ _ R2.out
  have C1_0 : V2.cell? ⟨V1.heap.size, 0, none⟩ = some (.int .u64 x1) := cell_of_row _ _ _ _ _ _ C1.out
  have C1_1 : V2.cell? ⟨V1.heap.size, 1, none⟩ = some (.int .u64 x2) := cell_of_row _ _ _ _ _ _ C1.out
  have zR1 := lt_of_heap R1.out
  have zR2 := lt_of_heap R2.out
  have zC1 := lt_of_heap C1.out
  go_simp
  go_wp2_with fail
  refine (H3.out _).mono ?_
  rintro e V3 ⟨rfl, hb3⟩
  clear R1_0 R1_1 zR1 R2_0 R2_1 zR2 C1_0 C1_1 zC1
  have nR1D1 := Lib.hid (lt_of_heap R1.out)
  have nR2D1 := Lib.hid (lt_of_heap R2.out)
  have nC1D1 := Lib.hid (lt_of_heap C1.out)
  have B3 := Lib.hid (((B2.out).alloc (B2.out.size) _).trans (hb3.mono (by have := B2.out.size; first | assumption | (simp <;> omega) | (simp; done))))
  replace R1 := Lib.hid (row_call hb3 (row_alloc R1.out _))
  replace R2 := Lib.hid (row_call hb3 (row_alloc R2.out _))
  replace C1 := Lib.hid (row_call hb3 (row_alloc C1.out _))
  have D1 := Lib.hid (row_call hb3 (heap_alloc_new _ _))
  clear hb3
  have R1_0 : V3.cell? ⟨w.heap.size, 0, none⟩ = some (.int .u64 h) := cell_of_row _ _ _ _ _ _ R1.out
  have R1_1 : V3.cell? ⟨w.heap.size, 1, none⟩ = some (.int .u64 l) := cell_of_row _ _ _ _ _ _ R1.out
  have R2_0 : V3.cell? ⟨w.heap.size + 1, 0, none⟩ = some (.int .u64 b) := cell_of_row _ _ _ _ _ _ R2.out
  have R2_1 : V3.cell? ⟨w.heap.size + 1, 1, none⟩ = some (.int .u64 c) := cell_of_row _ _ _ _ _ _ R2.out
  have C1_0 : V3.cell? ⟨V1.heap.size, 0, none⟩ = some (.int .u64 x1) := cell_of_row _ _ _ _ _ _ C1.out
  have C1_1 : V3.cell? ⟨V1.heap.size, 1, none⟩ = some (.int .u64 x2) := cell_of_row _ _ _ _ _ _ C1.out
  have D1_0 : V3.cell? ⟨V2.heap.size, 0, none⟩ = some (.int .u64 x1) := cell_of_row _ _ _ _ _ _ D1.out
  have D1_1 : V3.cell? ⟨V2.heap.size, 1, none⟩ = some (.int .u64 x2) := cell_of_row _ _ _ _ _ _ D1.out
  have zR1 := lt_of_heap R1.out
  have zR2 := lt_of_heap R2.out
  have zC1 := lt_of_heap C1.out
  have zD1 := lt_of_heap D1.out
  go_simp
  go_wp2_with fail
  refine (H4.out _).mono ?_
  rintro e V4 ⟨rfl, hb4⟩
  clear R1_0 R1_1 zR1 R2_0 R2_1 zR2 C1_0 C1_1 zC1 D1_0 D1_1 zD1
  have nR1E1 := Lib.hid (lt_of_heap R1.out)
  have nR2E1 := Lib.hid (lt_of_heap R2.out)
  have nC1E1 := Lib.hid (lt_of_heap C1.out)
  have nD1E1 := Lib.hid (lt_of_heap D1.out)
  have B4 := Lib.hid (((B3.out).alloc (B3.out.size) _).trans (hb4.mono (by have := B3.out.size; first | assumption | (simp <;> omega) | (simp; done))))
  replace R1 := Lib.hid (row_call hb4 (row_alloc R1.out _))
  replace R2 := Lib.hid (row_call hb4 (row_alloc R2.out _))
  replace C1 := Lib.hid (row_call hb4 (row_alloc C1.out _))
  replace D1 := Lib.hid (row_call hb4 (row_alloc D1.out _))
  have E1 := Lib.hid (row_call hb4 (heap_alloc_new _ _))
  clear hb4
  have R1_0 : V4.cell? ⟨w.heap.size, 0, none⟩ = some (.int .u64 h) := cell_of_row _ _ _ _ _ _ R1.out
  have R1_1 : V4.cell? ⟨w.heap.size, 1, none⟩ = some (.int .u64 l) := cell_of_row _ _ _ _ _ _ R1.out
  have R2_0 : V4.cell? ⟨w.heap.size + 1, 0, none⟩ = some (.int .u64 b) := cell_of_row _ _ _ _ _ _ R2.out
  have R2_1 : V4.cell? ⟨w.heap.size + 1, 1, none⟩ = some (.int .u64 c) := cell_of_row _ _ _ _ _ _ R2.out
  have C1_0 : V4.cell? ⟨V1.heap.size, 0, none⟩ = some (.int .u64 x1) := cell_of_row _ _ _ _ _ _ C1.out
  have C1_1 : V4.cell? ⟨V1.heap.size, 1, none⟩ = some (.int .u64 x2) := cell_of_row _ _ _ _ _ _ C1.out
  have D1_0 : V4.cell? ⟨V2.heap.size, 0, none⟩ = some (.int .u64 x1) := cell_of_row _ _ _ _ _ _ D1.out
  have D1_1 : V4.cell? ⟨V2.heap.size, 1, none⟩ = some (.int .u64 x2) := cell_of_row _ _ _ _ _ _ D1.out
  have E1_0 : V4.cell? ⟨V3.heap.size, 0, none⟩ = some (.int .u64 y1) := cell_of_row _ _ _ _ _ _ E1.out
  have E1_1 : V4.cell? ⟨V3.heap.size, 1, none⟩ = some (.int .u64 y2) := cell_of_row _ _ _ _ _ _ E1.out
  have zR1 := lt_of_heap R1.out
  have zR2 := lt_of_heap R2.out
  have zC1 := lt_of_heap C1.out
  have zD1 := lt_of_heap D1.out
  have zE1 := lt_of_heap E1.out
  go_simp
  go_wp2_with fail
  obtain ⟨W0, hW0⟩ : ∃ W0, W0 = (V4.alloc (Obj.cells #[Value.int .u64 y1, Value.int .u64 y2] 24)) := ⟨_, rfl⟩
  replace R1 := Lib.hid (row_by hW0 (row_alloc R1.out _))
  replace R2 := Lib.hid (row_by hW0 (row_alloc R2.out _))
  replace C1 := Lib.hid (row_by hW0 (row_alloc C1.out _))
  replace D1 := Lib.hid (row_by hW0 (row_alloc D1.out _))
  replace E1 := Lib.hid (row_by hW0 (row_alloc E1.out _))
  have F1 := Lib.hid (row_at (k' := V4.heap.size) (by simp) (row_by hW0 (heap_alloc_new _ _)))
  clear R1_0 R1_1 zR1 R2_0 R2_1 zR2 C1_0 C1_1 zC1 D1_0 D1_1 zD1 E1_0 E1_1 zE1
  have R1_0 : W0.cell? ⟨w.heap.size, 0, none⟩ = some (.int .u64 h) := cell_of_row _ _ _ _ _ _ R1.out
  have R1_1 : W0.cell? ⟨w.heap.size, 1, none⟩ = some (.int .u64 l) := cell_of_row _ _ _ _ _ _ R1.out
  have zR1 := lt_of_heap R1.out
  have R2_0 : W0.cell? ⟨w.heap.size + 1, 0, none⟩ = some (.int .u64 b) := cell_of_row _ _ _ _ _ _ R2.out
  have R2_1 : W0.cell? ⟨w.heap.size + 1, 1, none⟩ = some (.int .u64 c) := cell_of_row _ _ _ _ _ _ R2.out
  have zR2 := lt_of_heap R2.out
  have C1_0 : W0.cell? ⟨V1.heap.size, 0, none⟩ = some (.int .u64 x1) := cell_of_row _ _ _ _ _ _ C1.out
  have C1_1 : W0.cell? ⟨V1.heap.size, 1, none⟩ = some (.int .u64 x2) := cell_of_row _ _ _ _ _ _ C1.out
  have zC1 := lt_of_heap C1.out
  have D1_0 : W0.cell? ⟨V2.heap.size, 0, none⟩ = some (.int .u64 x1) := cell_of_row _ _ _ _ _ _ D1.out
  have D1_1 : W0.cell? ⟨V2.heap.size, 1, none⟩ = some (.int .u64 x2) := cell_of_row _ _ _ _ _ _ D1.out
  have zD1 := lt_of_heap D1.out
  have E1_0 : W0.cell? ⟨V3.heap.size, 0, none⟩ = some (.int .u64 y1) := cell_of_row _ _ _ _ _ _ E1.out
  have E1_1 : W0.cell? ⟨V3.heap.size, 1, none⟩ = some (.int .u64 y2) := cell_of_row _ _ _ _ _ _ E1.out
  have zE1 := lt_of_heap E1.out
  have F1_0 : W0.cell? ⟨V4.heap.size, 0, none⟩ = some (.int .u64 y1) := cell_of_row _ _ _ _ _ _ F1.out
  have F1_1 : W0.cell? ⟨V4.heap.size, 1, none⟩ = some (.int .u64 y2) := cell_of_row _ _ _ _ _ _ F1.out
  have zF1 := lt_of_heap F1.out
  have HB0 := Lib.hid (below_by hW0 ((B4.out).alloc (B4.out.size) _))
  have zW0 := HB0.out.size
  have HW0 := Lib.hid hW0
  clear hW0
  try go_simp
  rw [← HW0.out]
  have hk0 : ∀ w2, Below W0.heap.size W0 w2 → w2.cell? ⟨w.heap.size, 0, none⟩ = some (.int .u64 h) := fun w2 hb => (by rw [hb.cell (p := ⟨w.heap.size, 0, none⟩) (by assumption)]; assumption)
  have hk1 : ∀ w2, Below W0.heap.size W0 w2 → w2.cell? ⟨w.heap.size, 1, none⟩ = some (.int .u64 l) := fun w2 hb => (by rw [hb.cell (p := ⟨w.heap.size, 1, none⟩) (by assumption)]; assumption)
  have hk2 : ∀ w2, Below W0.heap.size W0 w2 → w2.cell? ⟨w.heap.size + 1, 0, none⟩ = some (.int .u64 b) := fun w2 hb => (by rw [hb.cell (p := ⟨w.heap.size + 1, 0, none⟩) (by assumption)]; assumption)
  have hk3 : ∀ w2, Below W0.heap.size W0 w2 → w2.cell? ⟨w.heap.size + 1, 1, none⟩ = some (.int .u64 c) := fun w2 hb => (by rw [hb.cell (p := ⟨w.heap.size + 1, 1, none⟩) (by assumption)]; assumption)
  have hk4 : ∀ w2, Below W0.heap.size W0 w2 → w2.cell? ⟨V1.heap.size, 0, none⟩ = some (.int .u64 x1) := fun w2 hb => (by rw [hb.cell (p := ⟨V1.heap.size, 0, none⟩) (by assumption)]; assumption)
  have hk5 : ∀ w2, Below W0.heap.size W0 w2 → w2.cell? ⟨V1.heap.size, 1, none⟩ = some (.int .u64 x2) := fun w2 hb => (by rw [hb.cell (p := ⟨V1.heap.size, 1, none⟩) (by assumption)]; assumption)
  have hk6 : ∀ w2, Below W0.heap.size W0 w2 → w2.cell? ⟨V2.heap.size, 0, none⟩ = some (.int .u64 x1) := fun w2 hb => (by rw [hb.cell (p := ⟨V2.heap.size, 0, none⟩) (by assumption)]; assumption)
  have hk7 : ∀ w2, Below W0.heap.size W0 w2 → w2.cell? ⟨V2.heap.size, 1, none⟩ = some (.int .u64 x2) := fun w2 hb => (by rw [hb.cell (p := ⟨V2.heap.size, 1, none⟩) (by assumption)]; assumption)
  have hk8 : ∀ w2, Below W0.heap.size W0 w2 → w2.cell? ⟨V3.heap.size, 0, none⟩ = some (.int .u64 y1) := fun w2 hb => (by rw [hb.cell (p := ⟨V3.heap.size, 0, none⟩) (by assumption)]; assumption)
  have hk9 : ∀ w2, Below W0.heap.size W0 w2 → w2.cell? ⟨V3.heap.size, 1, none⟩ = some (.int .u64 y2) := fun w2 hb => (by rw [hb.cell (p := ⟨V3.heap.size, 1, none⟩) (by assumption)]; assumption)
  have hk10 : ∀ w2, Below W0.heap.size W0 w2 → w2.cell? ⟨V4.heap.size, 0, none⟩ = some (.int .u64 y1) := fun w2 hb => (by rw [hb.cell (p := ⟨V4.heap.size, 0, none⟩) (by assumption)]; assumption)
  have hk11 : ∀ w2, Below W0.heap.size W0 w2 → w2.cell? ⟨V4.heap.size, 1, none⟩ = some (.int .u64 y2) := fun w2 hb => (by rw [hb.cell (p := ⟨V4.heap.size, 1, none⟩) (by assumption)]; assumption)
  clear R1_0 R1_1 R2_0 R2_1 C1_0 C1_1 D1_0 D1_1 E1_0 E1_1 F1_0 F1_1
  refine region_plan (S := fun w2 => Below W0.heap.size W0 w2) [(0, true), (1, true), (2, true), (3, true), (4, true), (5, true), (6, true), (7, true), (8, true), (9, true), (10, true), (11, true), (12, true), (13, true), (14, true), (15, true), (16, true), (17, true), (18, true), (19, true), (21, true), (20, false), (22, false), (23, true), (24, true), (25, true), (26, true), (27, true), (29, true), (30, true), (28, false), (31, false), (32, true), (33, true), (34, true), (35, true), (36, true), (38, true), (39, true), (37, false), (40, false), (41, true), (42, true), (43, true), (44, false), (45, true), (46, true)] (by as_aux_lemma => kernel_rfl) (by as_aux_lemma => kernel_rfl) (by as_aux_lemma => kernel_rfl) (by as_aux_lemma => kernel_rfl) (Below.refl W0.heap.size W0).drew ?_
  have Y0 := Lib.hid (Below.refl W0.heap.size W0).drew
  refine plan_yes (v := ?v1) (by simp only [List.getElem?_toArray, List.getElem?_cons_zero, List.getElem?_cons_succ]; exact rfl) (Or.inl ⟨by as_aux_lemma => rfl, ?hy1⟩) ?rest1
  case hy1 => (intro w2 hSw; (try dsimp only at hSw); go_simp; try with_reducible rfl)
  try simp only [Act.put, List.setIfInBounds_toArray, List.set_cons_zero, List.set_cons_succ]
  refine plan_yes (v := ?v2) (by simp only [List.getElem?_toArray, List.getElem?_cons_zero, List.getElem?_cons_succ]; exact rfl) (Or.inl ⟨by as_aux_lemma => rfl, ?hy2⟩) ?rest2
  case hy2 => (intro w2 hSw; (try dsimp only at hSw); go_simp; try with_reducible rfl)
  try simp only [Act.put, List.setIfInBounds_toArray, List.set_cons_zero, List.set_cons_succ]
  refine plan_yes (v := .bool true) (by simp only [List.getElem?_toArray, List.getElem?_cons_zero, List.getElem?_cons_succ]; exact rfl) (Or.inl ⟨by as_aux_lemma => rfl, ?hy3⟩) ?rest3
  case hy3 => (intro w2 hSw; apply eql_wide; rfl; rfl; rfl)
  try simp only [Act.put, List.setIfInBounds_toArray, List.set_cons_zero, List.set_cons_succ]
  refine plan_yes (v := ?v4) (by simp only [List.getElem?_toArray, List.getElem?_cons_zero, List.getElem?_cons_succ]; exact rfl) (Or.inl ⟨by as_aux_lemma => rfl, ?hy4⟩) ?rest4
  case hy4 => (intro w2 hSw; (try dsimp only at hSw); go_simp; try with_reducible rfl)
  try simp only [Act.put, List.setIfInBounds_toArray, List.set_cons_zero, List.set_cons_succ]
  refine plan_yes (v := ?v5) (by simp only [List.getElem?_toArray, List.getElem?_cons_zero, List.getElem?_cons_succ]; exact rfl) (Or.inl ⟨by as_aux_lemma => rfl, ?hy5⟩) ?rest5
  case hy5 => (intro w2 hSw; (try dsimp only at hSw); go_simp; try with_reducible rfl)
  try simp only [Act.put, List.setIfInBounds_toArray, List.set_cons_zero, List.set_cons_succ]
  refine plan_yes (v := ?v6) (by simp only [List.getElem?_toArray, List.getElem?_cons_zero, List.getElem?_cons_succ]; exact rfl) (Or.inl ⟨by as_aux_lemma => rfl, ?hy6⟩) ?rest6
  case hy6 => (intro w2 hSw; (try dsimp only at hSw); go_simp; try with_reducible rfl)
  try simp only [Act.put, List.setIfInBounds_toArray, List.set_cons_zero, List.set_cons_succ]
  refine plan_yes (v := ?v7) (by simp only [List.getElem?_toArray, List.getElem?_cons_zero, List.getElem?_cons_succ]; exact rfl) (Or.inl ⟨by as_aux_lemma => rfl, ?hy7⟩) ?rest7
  case hy7 => (intro w2 hSw; (try dsimp only at hSw); go_simp; try with_reducible rfl)
  try simp only [Act.put, List.setIfInBounds_toArray, List.set_cons_zero, List.set_cons_succ]
  refine plan_yes (v := ?v8) (by simp only [List.getElem?_toArray, List.getElem?_cons_zero, List.getElem?_cons_succ]; exact rfl) (Or.inl ⟨by as_aux_lemma => rfl, ?hy8⟩) ?rest8
  case hy8 => (intro w2 hSw; (try dsimp only at hSw); go_simp; try with_reducible rfl)
  try simp only [Act.put, List.setIfInBounds_toArray, List.set_cons_zero, List.set_cons_succ]
  refine plan_yes (v := ?v9) (by simp only [List.getElem?_toArray, List.getElem?_cons_zero, List.getElem?_cons_succ]; exact rfl) (Or.inl ⟨by as_aux_lemma => rfl, ?hy9⟩) ?rest9
  case hy9 => (intro w2 hSw; (try dsimp only at hSw); go_simp; try with_reducible rfl)
  try simp only [Act.put, List.setIfInBounds_toArray, List.set_cons_zero, List.set_cons_succ]
  refine plan_yes (v := ?v10) (by simp only [List.getElem?_toArray, List.getElem?_cons_zero, List.getElem?_cons_succ]; exact rfl) (Or.inl ⟨by as_aux_lemma => rfl, ?hy10⟩) ?rest10
  case hy10 => (intro w2 hSw; (try dsimp only at hSw); go_simp; try with_reducible rfl)
  try simp only [Act.put, List.setIfInBounds_toArray, List.set_cons_zero, List.set_cons_succ]
  refine plan_yes (v := ?v11) (by simp only [List.getElem?_toArray, List.getElem?_cons_zero, List.getElem?_cons_succ]; exact rfl) (Or.inl ⟨by as_aux_lemma => rfl, ?hy11⟩) ?rest11
  case hy11 => (intro w2 hSw; (try dsimp only at hSw); go_simp; try with_reducible rfl)
  try simp only [Act.put, List.setIfInBounds_toArray, List.set_cons_zero, List.set_cons_succ]
  refine plan_yes (v := .bool true) (by simp only [List.getElem?_toArray, List.getElem?_cons_zero, List.getElem?_cons_succ]; exact rfl) (Or.inl ⟨by as_aux_lemma => rfl, ?hy12⟩) ?rest12
  case hy12 => (intro w2 hSw; apply eql_wide; rfl; rfl; rfl)
  try simp only [Act.put, List.setIfInBounds_toArray, List.set_cons_zero, List.set_cons_succ]
  refine plan_yes (v := ?v13) (by simp only [List.getElem?_toArray, List.getElem?_cons_zero, List.getElem?_cons_succ]; exact rfl) (Or.inl ⟨by as_aux_lemma => rfl, ?hy13⟩) ?rest13
  case hy13 => (intro w2 hSw; (try dsimp only at hSw); go_simp; try with_reducible rfl)
  try simp only [Act.put, List.setIfInBounds_toArray, List.set_cons_zero, List.set_cons_succ]
  refine plan_yes (v := ?v14) (by simp only [List.getElem?_toArray, List.getElem?_cons_zero, List.getElem?_cons_succ]; exact rfl) (Or.inl ⟨by as_aux_lemma => rfl, ?hy14⟩) ?rest14
  case hy14 => (intro w2 hSw; (try dsimp only at hSw); go_simp; try with_reducible rfl)
  try simp only [Act.put, List.setIfInBounds_toArray, List.set_cons_zero, List.set_cons_succ]
  refine plan_yes (v := ?v15) (by simp only [List.getElem?_toArray, List.getElem?_cons_zero, List.getElem?_cons_succ]; exact rfl) (Or.inl ⟨by as_aux_lemma => rfl, ?hy15⟩) ?rest15
  case hy15 => (intro w2 hSw; (try dsimp only at hSw); go_simp; try with_reducible rfl)
  try simp only [Act.put, List.setIfInBounds_toArray, List.set_cons_zero, List.set_cons_succ]
  refine plan_yes (v := ?v16) (by simp only [List.getElem?_toArray, List.getElem?_cons_zero, List.getElem?_cons_succ]; exact rfl) (Or.inl ⟨by as_aux_lemma => rfl, ?hy16⟩) ?rest16
  case hy16 => (intro w2 hSw; (try dsimp only at hSw); go_simp; try with_reducible rfl)
  try simp only [Act.put, List.setIfInBounds_toArray, List.set_cons_zero, List.set_cons_succ]
  refine plan_yes (v := ?v17) (by simp only [List.getElem?_toArray, List.getElem?_cons_zero, List.getElem?_cons_succ]; exact rfl) (Or.inl ⟨by as_aux_lemma => rfl, ?hy17⟩) ?rest17
  case hy17 => (intro w2 hSw; (try dsimp only at hSw); go_simp; try with_reducible rfl)
  try simp only [Act.put, List.setIfInBounds_toArray, List.set_cons_zero, List.set_cons_succ]
  refine plan_yes (v := ?v18) (by simp only [List.getElem?_toArray, List.getElem?_cons_zero, List.getElem?_cons_succ]; exact rfl) (Or.inl ⟨by as_aux_lemma => rfl, ?hy18⟩) ?rest18
  case hy18 => (intro w2 hSw; (try dsimp only at hSw); go_simp; try with_reducible rfl)
  try simp only [Act.put, List.setIfInBounds_toArray, List.set_cons_zero, List.set_cons_succ]
  refine plan_yes (v := ?v19) (by simp only [List.getElem?_toArray, List.getElem?_cons_zero, List.getElem?_cons_succ]; exact rfl) (Or.inl ⟨by as_aux_lemma => rfl, ?hy19⟩) ?rest19
  case hy19 => (intro w2 hSw; (try dsimp only at hSw); go_simp; try with_reducible rfl)
  try simp only [Act.put, List.setIfInBounds_toArray, List.set_cons_zero, List.set_cons_succ]
  refine plan_yes (v := ?v20) (by simp only [List.getElem?_toArray, List.getElem?_cons_zero, List.getElem?_cons_succ]; exact rfl) (Or.inl ⟨by as_aux_lemma => rfl, ?hy20⟩) ?rest20
  case hy20 => (intro w2 hSw; (try dsimp only at hSw); go_simp; try with_reducible rfl)
  try simp only [Act.put, List.setIfInBounds_toArray, List.set_cons_zero, List.set_cons_succ]
  refine plan_yes (v := ?v21) (by simp only [List.getElem?_toArray, List.getElem?_cons_zero, List.getElem?_cons_succ]; exact rfl) (Or.inl ⟨by as_aux_lemma => rfl, ?hy21⟩) ?rest21
  case hy21 => (intro w2 hSw; (try dsimp only at hSw); go_simp; try with_reducible rfl)
  try simp only [Act.put, List.setIfInBounds_toArray, List.set_cons_zero, List.set_cons_succ]
  refine plan_calls (by simp only [List.getElem?_toArray, List.getElem?_cons_zero, List.getElem?_cons_succ]; exact rfl) (by as_aux_lemma => rfl) (fun K hK => ?_)
  go_simp
  refine (H5.out _).mono ?_
  rintro e Y1w ⟨rfl, hb1⟩
  have Y1 := Lib.hid (keepS (W0 := W0) Y0.out hb1)
  clear hb1
  refine hK.out _ _ Y1.out ?_
  clear hK K
  try simp only [Act.put, List.setIfInBounds_toArray, List.set_cons_zero, List.set_cons_succ]
  as_aux_lemma =>
   refine plan_calls (by simp only [List.getElem?_toArray, List.getElem?_cons_zero, List.getElem?_cons_succ]; exact rfl) (by as_aux_lemma => rfl) (fun K hK => ?_)
   go_simp
   refine (H6.out _).mono ?_
   rintro e Y2w ⟨rfl, hb1⟩
   have Y2 := Lib.hid (keepS (W0 := W0) Y1.out hb1)
   clear hb1
   refine hK.out _ _ Y2.out ?_
   clear hK K
   try simp only [Act.put, List.setIfInBounds_toArray, List.set_cons_zero, List.set_cons_succ]
   as_aux_lemma =>
    refine plan_yes (v := .bool true) (by simp only [List.getElem?_toArray, List.getElem?_cons_zero, List.getElem?_cons_succ]; exact rfl) (Or.inl ⟨by as_aux_lemma => rfl, ?hy22⟩) ?rest22
    case hy22 => (intro w2 hSw; apply eql_wide; rfl; rfl; rfl)
    try simp only [Act.put, List.setIfInBounds_toArray, List.set_cons_zero, List.set_cons_succ]
    refine plan_yes (v := ?v23) (by simp only [List.getElem?_toArray, List.getElem?_cons_zero, List.getElem?_cons_succ]; exact rfl) (Or.inl ⟨by as_aux_lemma => rfl, ?hy23⟩) ?rest23
    case hy23 => (intro w2 hSw; (try dsimp only at hSw); go_simp; try with_reducible rfl)
    try simp only [Act.put, List.setIfInBounds_toArray, List.set_cons_zero, List.set_cons_succ]
    refine plan_yes (v := ?v24) (by simp only [List.getElem?_toArray, List.getElem?_cons_zero, List.getElem?_cons_succ]; exact rfl) (Or.inl ⟨by as_aux_lemma => rfl, ?hy24⟩) ?rest24
    case hy24 => (intro w2 hSw; (try dsimp only at hSw); go_simp; try with_reducible rfl)
    try simp only [Act.put, List.setIfInBounds_toArray, List.set_cons_zero, List.set_cons_succ]
    refine plan_yes (v := ?v25) (by simp only [List.getElem?_toArray, List.getElem?_cons_zero, List.getElem?_cons_succ]; exact rfl) (Or.inl ⟨by as_aux_lemma => rfl, ?hy25⟩) ?rest25
    case hy25 => (intro w2 hSw; (try dsimp only at hSw); go_simp; try with_reducible rfl)
    try simp only [Act.put, List.setIfInBounds_toArray, List.set_cons_zero, List.set_cons_succ]
    refine plan_yes (v := ?v26) (by simp only [List.getElem?_toArray, List.getElem?_cons_zero, List.getElem?_cons_succ]; exact rfl) (Or.inl ⟨by as_aux_lemma => rfl, ?hy26⟩) ?rest26
    case hy26 => (intro w2 hSw; (try dsimp only at hSw); go_simp; try with_reducible rfl)
    try simp only [Act.put, List.setIfInBounds_toArray, List.set_cons_zero, List.set_cons_succ]
    refine plan_yes (v := ?v27) (by simp only [List.getElem?_toArray, List.getElem?_cons_zero, List.getElem?_cons_succ]; exact rfl) (Or.inl ⟨by as_aux_lemma => rfl, ?hy27⟩) ?rest27
    case hy27 => (intro w2 hSw; (try dsimp only at hSw); go_simp; try with_reducible rfl)
    try simp only [Act.put, List.setIfInBounds_toArray, List.set_cons_zero, List.set_cons_succ]
    refine plan_yes (v := ?v28) (by simp only [List.getElem?_toArray, List.getElem?_cons_zero, List.getElem?_cons_succ]; exact rfl) (Or.inl ⟨by as_aux_lemma => rfl, ?hy28⟩) ?rest28
    case hy28 => (intro w2 hSw; (try dsimp only at hSw); go_simp; try with_reducible rfl)
    try simp only [Act.put, List.setIfInBounds_toArray, List.set_cons_zero, List.set_cons_succ]
    refine plan_calls (by simp only [List.getElem?_toArray, List.getElem?_cons_zero, List.getElem?_cons_succ]; exact rfl) (by as_aux_lemma => rfl) (fun K hK => ?_)
    go_simp
    refine (H7.out _).mono ?_
    rintro e Y3w ⟨rfl, hb1⟩
    have Y3 := Lib.hid (keepS (W0 := W0) Y2.out hb1)
    clear hb1
    refine hK.out _ _ Y3.out ?_
    clear hK K
    try simp only [Act.put, List.setIfInBounds_toArray, List.set_cons_zero, List.set_cons_succ]
    as_aux_lemma =>
     refine plan_calls (by simp only [List.getElem?_toArray, List.getElem?_cons_zero, List.getElem?_cons_succ]; exact rfl) (by as_aux_lemma => rfl) (fun K hK => ?_)
     go_simp
     refine (H8.out _).mono ?_
     rintro e Y4w ⟨rfl, hb1⟩
     have Y4 := Lib.hid (keepS (W0 := W0) Y3.out hb1)
     clear hb1
     refine hK.out _ _ Y4.out ?_
     clear hK K
     try simp only [Act.put, List.setIfInBounds_toArray, List.set_cons_zero, List.set_cons_succ]
     as_aux_lemma =>
      refine plan_yes (v := ?v29) (by simp only [List.getElem?_toArray, List.getElem?_cons_zero, List.getElem?_cons_succ]; exact rfl) (Or.inl ⟨by as_aux_lemma => rfl, ?hy29⟩) ?rest29
      case hy29 => (intro w2 hSw; (try dsimp only at hSw); go_simp; try with_reducible rfl)
      try simp only [Act.put, List.setIfInBounds_toArray, List.set_cons_zero, List.set_cons_succ]
      refine plan_yes (v := ?v30) (by simp only [List.getElem?_toArray, List.getElem?_cons_zero, List.getElem?_cons_succ]; exact rfl) (Or.inl ⟨by as_aux_lemma => rfl, ?hy30⟩) ?rest30
      case hy30 => (intro w2 hSw; (try dsimp only at hSw); go_simp; try with_reducible rfl)
      try simp only [Act.put, List.setIfInBounds_toArray, List.set_cons_zero, List.set_cons_succ]
      refine plan_yes (v := ?v31) (by simp only [List.getElem?_toArray, List.getElem?_cons_zero, List.getElem?_cons_succ]; exact rfl) (Or.inl ⟨by as_aux_lemma => rfl, ?hy31⟩) ?rest31
      case hy31 => (intro w2 hSw; (try dsimp only at hSw); go_simp; try with_reducible rfl)
      try simp only [Act.put, List.setIfInBounds_toArray, List.set_cons_zero, List.set_cons_succ]
      refine plan_yes (v := ?v32) (by simp only [List.getElem?_toArray, List.getElem?_cons_zero, List.getElem?_cons_succ]; exact rfl) (Or.inl ⟨by as_aux_lemma => rfl, ?hy32⟩) ?rest32
      case hy32 => (intro w2 hSw; (try dsimp only at hSw); go_simp; try with_reducible rfl)
      try simp only [Act.put, List.setIfInBounds_toArray, List.set_cons_zero, List.set_cons_succ]
      refine plan_yes (v := ?v33) (by simp only [List.getElem?_toArray, List.getElem?_cons_zero, List.getElem?_cons_succ]; exact rfl) (Or.inl ⟨by as_aux_lemma => rfl, ?hy33⟩) ?rest33
      case hy33 => (intro w2 hSw; (try dsimp only at hSw); go_simp; try with_reducible rfl)
      try simp only [Act.put, List.setIfInBounds_toArray, List.set_cons_zero, List.set_cons_succ]
      refine plan_yes (v := ?v34) (by simp only [List.getElem?_toArray, List.getElem?_cons_zero, List.getElem?_cons_succ]; exact rfl) (Or.inl ⟨by as_aux_lemma => rfl, ?hy34⟩) ?rest34
      case hy34 => (intro w2 hSw; (try dsimp only at hSw); go_simp; try with_reducible rfl)
      try simp only [Act.put, List.setIfInBounds_toArray, List.set_cons_zero, List.set_cons_succ]
      refine plan_yes (v := ?v35) (by simp only [List.getElem?_toArray, List.getElem?_cons_zero, List.getElem?_cons_succ]; exact rfl) (Or.inl ⟨by as_aux_lemma => rfl, ?hy35⟩) ?rest35
      case hy35 => (intro w2 hSw; (try dsimp only at hSw); go_simp; try with_reducible rfl)
      try simp only [Act.put, List.setIfInBounds_toArray, List.set_cons_zero, List.set_cons_succ]
      refine plan_calls (by simp only [List.getElem?_toArray, List.getElem?_cons_zero, List.getElem?_cons_succ]; exact rfl) (by as_aux_lemma => rfl) (fun K hK => ?_)
      go_simp
      refine (H9.out _).mono ?_
      rintro e Y5w ⟨rfl, hb1⟩
      have Y5 := Lib.hid (keepS (W0 := W0) Y4.out hb1)
      clear hb1
      refine hK.out _ _ Y5.out ?_
      clear hK K
      try simp only [Act.put, List.setIfInBounds_toArray, List.set_cons_zero, List.set_cons_succ]
      as_aux_lemma =>
       refine plan_calls (by simp only [List.getElem?_toArray, List.getElem?_cons_zero, List.getElem?_cons_succ]; exact rfl) (by as_aux_lemma => rfl) (fun K hK => ?_)
       go_simp
       refine (HA.out _).mono ?_
       rintro e Y6w ⟨rfl, hb1⟩
       have Y6 := Lib.hid (keepS (W0 := W0) Y5.out hb1)
       clear hb1
       refine hK.out _ _ Y6.out ?_
       clear hK K
       try simp only [Act.put, List.setIfInBounds_toArray, List.set_cons_zero, List.set_cons_succ]
       as_aux_lemma =>
        refine plan_yes (v := ?v36) (by simp only [List.getElem?_toArray, List.getElem?_cons_zero, List.getElem?_cons_succ]; exact rfl) (Or.inl ⟨by as_aux_lemma => rfl, ?hy36⟩) ?rest36
        case hy36 => (intro w2 hSw; (try dsimp only at hSw); go_simp; try with_reducible rfl)
        try simp only [Act.put, List.setIfInBounds_toArray, List.set_cons_zero, List.set_cons_succ]
        refine plan_yes (v := ?v37) (by simp only [List.getElem?_toArray, List.getElem?_cons_zero, List.getElem?_cons_succ]; exact rfl) (Or.inl ⟨by as_aux_lemma => rfl, ?hy37⟩) ?rest37
        case hy37 => (intro w2 hSw; (try dsimp only at hSw); go_simp; try with_reducible rfl)
        try simp only [Act.put, List.setIfInBounds_toArray, List.set_cons_zero, List.set_cons_succ]
        refine plan_yes (v := ?v38) (by simp only [List.getElem?_toArray, List.getElem?_cons_zero, List.getElem?_cons_succ]; exact rfl) (Or.inl ⟨by as_aux_lemma => rfl, ?hy38⟩) ?rest38
        case hy38 => (intro w2 hSw; (try dsimp only at hSw); go_simp; try with_reducible rfl)
        try simp only [Act.put, List.setIfInBounds_toArray, List.set_cons_zero, List.set_cons_succ]
        refine plan_calls (by simp only [List.getElem?_toArray, List.getElem?_cons_zero, List.getElem?_cons_succ]; exact rfl) (by as_aux_lemma => rfl) (fun K hK => ?_)
        go_simp
        refine (HB.out _).mono ?_
        rintro e Y7w ⟨rfl, hb1⟩
        have Y7 := Lib.hid (keepS (W0 := W0) Y6.out hb1)
        clear hb1
        refine hK.out _ _ Y7.out ?_
        clear hK K
        try simp only [Act.put, List.setIfInBounds_toArray, List.set_cons_zero, List.set_cons_succ]
        as_aux_lemma =>
         refine plan_yes (v := ?v39) (by simp only [List.getElem?_toArray, List.getElem?_cons_zero, List.getElem?_cons_succ]; exact rfl) (Or.inl ⟨by as_aux_lemma => rfl, ?hy39⟩) ?rest39
         case hy39 => (intro w2 hSw; (try dsimp only at hSw); go_simp; try with_reducible rfl)
         try simp only [Act.put, List.setIfInBounds_toArray, List.set_cons_zero, List.set_cons_succ]
         refine plan_yes (v := ?v40) (by simp only [List.getElem?_toArray, List.getElem?_cons_zero, List.getElem?_cons_succ]; exact rfl) (Or.inl ⟨by as_aux_lemma => rfl, ?hy40⟩) ?rest40
         case hy40 => (intro w2 hSw; (try dsimp only at hSw); go_simp; try with_reducible rfl)
         try simp only [Act.put, List.setIfInBounds_toArray, List.set_cons_zero, List.set_cons_succ]
         refine plan_done (NoPanic.normal ?_)
         have B0 := Y7.out
         have BW := Lib.hid (HB0.out.trans (B0.mono zW0))
         go_simp
         go_wp2
         go_ret
         exact ⟨rfl, BW.out⟩
end Go.Proofs.Ytkmhebfahfaokaa
