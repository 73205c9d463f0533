/- The walks of the laws of layer 4. -/
import Derived.Test.YtjgpjphffjjhdaaDurH
import Derived.Deep.DrawnRows
namespace Go.Proofs.Ytjgpjphffjjhdaa
set_option linter.unusedVariables false
set_option linter.unusedSimpArgs false
open Go.ChangeShapes Go.WideShapes Go.ChangeAt Go.RowKit

set_option maxHeartbeats 3200000 in
set_option maxRecDepth 100000 in
theorem awake4_any (w : World) : Calls Try.prog 12 #[] w fun e w' => e = .returned (.bool true) ∧ Below w.heap.size w w' := by
  have X1 := dNeg_any 0 1
  rw [show dpS (ckD 0 1) (-nanos 0 1) = -1 by decide +kernel, show dpN (ckD 0 1) (-nanos 0 1) = 999999999 by decide +kernel, show dpE (ckD 0 1) (-nanos 0 1) = 0 by decide +kernel] at X1
  have X2 := dMul_any 0 500000000 3 (by unfold in64; omega)
  rw [show dpS (ckD 0 500000000) (3 * nanos 0 500000000) = 1 by decide +kernel, show dpN (ckD 0 500000000) (3 * nanos 0 500000000) = 500000000 by decide +kernel, show dpE (ckD 0 500000000) (3 * nanos 0 500000000) = 0 by decide +kernel] at X2
  have X3 := dDiv_any (-1) 999999999 2 (by unfold in64; omega)
  rw [show dpS (dvF (-1) 999999999 2) (fq (nanos (-1) 999999999) 2) = -1 by decide +kernel, show dpN (dvF (-1) 999999999 2) (fq (nanos (-1) 999999999) 2) = 999999999 by decide +kernel, show dpE (dvF (-1) 999999999 2) (fq (nanos (-1) 999999999) 2) = 0 by decide +kernel] at X3
  have X4 := dNew_any 1099511627776 1 (by unfold in64; omega) (by unfold in64; omega)
  rw [show duS (nanos 1099511627776 1) = 0 by decide +kernel, show duN (nanos 1099511627776 1) = 0 by decide +kernel, show duE (nanos 1099511627776 1) = 8 by decide +kernel] at X4
  have H1 := Lib.hid X1
  have H2 := Lib.hid X2
  have H3 := Lib.hid X3
  have H4 := Lib.hid X4
  clear X1 X2 X3 X4
  go_enter Try.func12, Try.ntmps12
  go_wp2_with fail
  
  refine (H1.out _).mono ?_
  rintro e V1 ⟨rfl, hb1⟩
  have B1 : Hid (Below w.heap.size w V1) := by first | exact Lib.hid ((Below.refl w.heap.size w).trans (hb1.mono (by first | assumption | (simp <;> omega) | (simp; done)))) | exact Lib.hid (((Below.refl w.heap.size w).alloc (Nat.le_refl _) _).trans (hb1.mono (by first | assumption | (simp <;> omega) | (simp; done)))) | exact Lib.hid ((((Below.refl w.heap.size w).alloc (Nat.le_refl _) _).alloc (by simp <;> omega) _).trans (hb1.mono (by first | assumption | (simp <;> omega) | (simp; done)))) | exact Lib.hid (((((Below.refl w.heap.size w).alloc (Nat.le_refl _) _).alloc (by simp <;> omega) _).alloc (by simp <;> omega) _).trans (hb1.mono (by first | assumption | (simp <;> omega) | (simp; done))))
  clear hb1
  go_simp
  go_wp2_with fail
  refine (H2.out _).mono ?_
  rintro e V2 ⟨rfl, hb2⟩
  have B2 := Lib.hid (((B1.out).alloc (B1.out.size) _).trans (hb2.mono (by have := B1.out.size; first | assumption | (simp <;> omega) | (simp; done))))
  have A1 := Lib.hid (row_call hb2 (heap_alloc_new _ _))
  clear hb2
  have A1_0 : V2.cell? ⟨V1.heap.size, 0, none⟩ = some (.int .i64 (-1)) := cell_of_row _ _ _ _ _ _ A1.out
  have A1_1 : V2.cell? ⟨V1.heap.size, 1, none⟩ = some (.int .i64 999999999) := cell_of_row _ _ _ _ _ _ A1.out
  have zA1 := lt_of_heap A1.out
  go_simp
  go_wp2_with fail
  refine (H3.out _).mono ?_
  rintro e V3 ⟨rfl, hb3⟩
  clear A1_0 A1_1 zA1
  have nA1A2 := Lib.hid (lt_of_heap A1.out)
  have B3 := Lib.hid (((B2.out).alloc (B2.out.size) _).trans (hb3.mono (by have := B2.out.size; first | assumption | (simp <;> omega) | (simp; done))))
  replace A1 := Lib.hid (row_call hb3 (row_alloc A1.out _))
  have A2 := Lib.hid (row_call hb3 (heap_alloc_new _ _))
  clear hb3
  have A1_0 : V3.cell? ⟨V1.heap.size, 0, none⟩ = some (.int .i64 (-1)) := cell_of_row _ _ _ _ _ _ A1.out
  have A1_1 : V3.cell? ⟨V1.heap.size, 1, none⟩ = some (.int .i64 999999999) := cell_of_row _ _ _ _ _ _ A1.out
  have A2_0 : V3.cell? ⟨V2.heap.size, 0, none⟩ = some (.int .i64 1) := cell_of_row _ _ _ _ _ _ A2.out
  have A2_1 : V3.cell? ⟨V2.heap.size, 1, none⟩ = some (.int .i64 500000000) := cell_of_row _ _ _ _ _ _ A2.out
  have zA1 := lt_of_heap A1.out
  have zA2 := lt_of_heap A2.out
  go_simp
  go_wp2_with fail
  refine (H4.out _).mono ?_
  rintro e V4 ⟨rfl, hb4⟩
  clear A1_0 A1_1 zA1 A2_0 A2_1 zA2
  have nA1A3 := Lib.hid (lt_of_heap A1.out)
  have nA2A3 := Lib.hid (lt_of_heap A2.out)
  have B4 := Lib.hid (((B3.out).alloc (B3.out.size) _).trans (hb4.mono (by have := B3.out.size; first | assumption | (simp <;> omega) | (simp; done))))
  replace A1 := Lib.hid (row_call hb4 (row_alloc A1.out _))
  replace A2 := Lib.hid (row_call hb4 (row_alloc A2.out _))
  have A3 := Lib.hid (row_call hb4 (heap_alloc_new _ _))
  clear hb4
  have A1_0 : V4.cell? ⟨V1.heap.size, 0, none⟩ = some (.int .i64 (-1)) := cell_of_row _ _ _ _ _ _ A1.out
  have A1_1 : V4.cell? ⟨V1.heap.size, 1, none⟩ = some (.int .i64 999999999) := cell_of_row _ _ _ _ _ _ A1.out
  have A2_0 : V4.cell? ⟨V2.heap.size, 0, none⟩ = some (.int .i64 1) := cell_of_row _ _ _ _ _ _ A2.out
  have A2_1 : V4.cell? ⟨V2.heap.size, 1, none⟩ = some (.int .i64 500000000) := cell_of_row _ _ _ _ _ _ A2.out
  have A3_0 : V4.cell? ⟨V3.heap.size, 0, none⟩ = some (.int .i64 (-1)) := cell_of_row _ _ _ _ _ _ A3.out
  have A3_1 : V4.cell? ⟨V3.heap.size, 1, none⟩ = some (.int .i64 999999999) := cell_of_row _ _ _ _ _ _ A3.out
  have zA1 := lt_of_heap A1.out
  have zA2 := lt_of_heap A2.out
  have zA3 := lt_of_heap A3.out
  go_simp
  go_wp2
  go_ret
  exact ⟨rfl, by first | exact B4.out | exact B4.out.alloc B4.out.size _⟩
set_option maxHeartbeats 3200000 in
set_option maxRecDepth 100000 in
theorem durMakes_walk (s n : Int) (bs : in64 s) (bn : in64 n) (w : World) :
    Calls Try.prog 3 #[.int .i64 s, .int .i64 n] w fun e w' => e = .returned (.bool true) ∧ Below w.heap.size w w' := by
  have H1 := Lib.hid (dNew_any s n bs bn)
  have H2 := Lib.hid (rdNew_any s n bs bn)
  have H3 := Lib.hid (dCheck_any s n)
  have H4 := Lib.hid (rCheckDur_any s n)
  have H5 := Lib.hid awake4_any
  clear bs bn
  generalize nanos s n = T at *
  generalize duS T = S at *
  generalize duN T = N at *
  generalize duE T = E at *
  generalize ckD s n = c at *
  go_enter Try.func3, Try.ntmps3
  go_wp2_with fail
  
  refine (H1.out _).mono ?_
  rintro e V1 ⟨rfl, hb1⟩
  have B1 : Hid (Below w.heap.size w V1) := by first | exact Lib.hid ((Below.refl w.heap.size w).trans (hb1.mono (by first | assumption | (simp <;> omega) | (simp; done)))) | exact Lib.hid (((Below.refl w.heap.size w).alloc (Nat.le_refl _) _).trans (hb1.mono (by first | assumption | (simp <;> omega) | (simp; done)))) | exact Lib.hid ((((Below.refl w.heap.size w).alloc (Nat.le_refl _) _).alloc (by simp <;> omega) _).trans (hb1.mono (by first | assumption | (simp <;> omega) | (simp; done)))) | exact Lib.hid (((((Below.refl w.heap.size w).alloc (Nat.le_refl _) _).alloc (by simp <;> omega) _).alloc (by simp <;> omega) _).trans (hb1.mono (by first | assumption | (simp <;> omega) | (simp; done))))
  clear hb1
  go_simp
  go_wp2_with fail
  refine (H2.out _).mono ?_
  rintro e V2 ⟨rfl, hb2⟩
  have B2 := Lib.hid (((B1.out).alloc (B1.out.size) _).trans (hb2.mono (by have := B1.out.size; first | assumption | (simp <;> omega) | (simp; done))))
  have I1 := Lib.hid (row_call hb2 (heap_alloc_new _ _))
  clear hb2
  have I1_0 : V2.cell? ⟨V1.heap.size, 0, none⟩ = some (.int .i64 S) := cell_of_row _ _ _ _ _ _ I1.out
  have I1_1 : V2.cell? ⟨V1.heap.size, 1, none⟩ = some (.int .i64 N) := cell_of_row _ _ _ _ _ _ I1.out
  have zI1 := lt_of_heap I1.out
  go_simp
  go_wp2_with fail
  obtain ⟨W0, hW0⟩ : ∃ W0, W0 = ((V2.alloc (Obj.cells #[Value.int .i64 S, Value.int .i64 N] 23)).alloc (Obj.cells #[Value.int .i64 s, Value.int .i64 n] 23)) := ⟨_, rfl⟩
  replace I1 := Lib.hid (row_by hW0 (row_alloc (row_alloc I1.out _) _))
  have J1 := Lib.hid (row_at (k' := V2.heap.size) (by simp) (row_by hW0 (row_alloc (heap_alloc_new _ _) _)))
  have R1 := Lib.hid (row_at (k' := V2.heap.size + 1) (by simp) (row_by hW0 (heap_alloc_new _ _)))
  clear I1_0 I1_1 zI1
  have I1_0 : W0.cell? ⟨V1.heap.size, 0, none⟩ = some (.int .i64 S) := cell_of_row _ _ _ _ _ _ I1.out
  have I1_1 : W0.cell? ⟨V1.heap.size, 1, none⟩ = some (.int .i64 N) := cell_of_row _ _ _ _ _ _ I1.out
  have zI1 := lt_of_heap I1.out
  have J1_0 : W0.cell? ⟨V2.heap.size, 0, none⟩ = some (.int .i64 S) := cell_of_row _ _ _ _ _ _ J1.out
  have J1_1 : W0.cell? ⟨V2.heap.size, 1, none⟩ = some (.int .i64 N) := cell_of_row _ _ _ _ _ _ J1.out
  have zJ1 := lt_of_heap J1.out
  have R1_0 : W0.cell? ⟨V2.heap.size + 1, 0, none⟩ = some (.int .i64 s) := cell_of_row _ _ _ _ _ _ R1.out
  have R1_1 : W0.cell? ⟨V2.heap.size + 1, 1, none⟩ = some (.int .i64 n) := cell_of_row _ _ _ _ _ _ R1.out
  have zR1 := lt_of_heap R1.out
  have HB0 := Lib.hid (below_by hW0 (((B2.out).alloc (B2.out.size) _).alloc (by have := B2.out.size; simp <;> omega) _))
  have zW0 := HB0.out.size
  have HW0 := Lib.hid hW0
  clear hW0
  try go_simp
  rw [← HW0.out]
  have hk0 : ∀ w2, Below W0.heap.size W0 w2 → w2.cell? ⟨V1.heap.size, 0, none⟩ = some (.int .i64 S) := fun w2 hb => (by rw [hb.cell (p := ⟨V1.heap.size, 0, none⟩) (by assumption)]; assumption)
  have hk1 : ∀ w2, Below W0.heap.size W0 w2 → w2.cell? ⟨V1.heap.size, 1, none⟩ = some (.int .i64 N) := fun w2 hb => (by rw [hb.cell (p := ⟨V1.heap.size, 1, none⟩) (by assumption)]; assumption)
  have hk2 : ∀ w2, Below W0.heap.size W0 w2 → w2.cell? ⟨V2.heap.size, 0, none⟩ = some (.int .i64 S) := fun w2 hb => (by rw [hb.cell (p := ⟨V2.heap.size, 0, none⟩) (by assumption)]; assumption)
  have hk3 : ∀ w2, Below W0.heap.size W0 w2 → w2.cell? ⟨V2.heap.size, 1, none⟩ = some (.int .i64 N) := fun w2 hb => (by rw [hb.cell (p := ⟨V2.heap.size, 1, none⟩) (by assumption)]; assumption)
  have hk4 : ∀ w2, Below W0.heap.size W0 w2 → w2.cell? ⟨V2.heap.size + 1, 0, none⟩ = some (.int .i64 s) := fun w2 hb => (by rw [hb.cell (p := ⟨V2.heap.size + 1, 0, none⟩) (by assumption)]; assumption)
  have hk5 : ∀ w2, Below W0.heap.size W0 w2 → w2.cell? ⟨V2.heap.size + 1, 1, none⟩ = some (.int .i64 n) := fun w2 hb => (by rw [hb.cell (p := ⟨V2.heap.size + 1, 1, none⟩) (by assumption)]; assumption)
  clear I1_0 I1_1 J1_0 J1_1 R1_0 R1_1
  refine region_plan (S := fun w2 => Below W0.heap.size W0 w2) [(0, true), (1, true), (2, true), (3, true), (4, true), (5, true), (6, true), (7, true), (8, true), (9, true), (11, true), (10, false), (12, false), (13, true), (14, true), (15, true), (16, false), (17, true), (18, true)] (by as_aux_lemma => kernel_rfl) (by as_aux_lemma => kernel_rfl) (by as_aux_lemma => kernel_rfl) (by as_aux_lemma => kernel_rfl) (Below.refl W0.heap.size W0).drew ?_
  have Y0 := Lib.hid (Below.refl W0.heap.size W0).drew
  refine plan_yes (v := ?v1) (by simp only [List.getElem?_toArray, List.getElem?_cons_zero, List.getElem?_cons_succ]; exact rfl) (Or.inl ⟨by as_aux_lemma => rfl, ?hy1⟩) ?rest1
  case hy1 => (intro w2 hSw; (try dsimp only at hSw); go_simp; try with_reducible rfl)
  try simp only [Act.put, List.setIfInBounds_toArray, List.set_cons_zero, List.set_cons_succ]
  refine plan_yes (v := ?v2) (by simp only [List.getElem?_toArray, List.getElem?_cons_zero, List.getElem?_cons_succ]; exact rfl) (Or.inl ⟨by as_aux_lemma => rfl, ?hy2⟩) ?rest2
  case hy2 => (intro w2 hSw; (try dsimp only at hSw); go_simp; try with_reducible rfl)
  try simp only [Act.put, List.setIfInBounds_toArray, List.set_cons_zero, List.set_cons_succ]
  refine plan_yes (v := .bool true) (by simp only [List.getElem?_toArray, List.getElem?_cons_zero, List.getElem?_cons_succ]; exact rfl) (Or.inl ⟨by as_aux_lemma => rfl, ?hy3⟩) ?rest3
  case hy3 => (intro w2 hSw; first | (apply eql_wide; rfl; rfl; rfl) | (apply eql_dur; rfl; rfl; rfl))
  try simp only [Act.put, List.setIfInBounds_toArray, List.set_cons_zero, List.set_cons_succ]
  refine plan_yes (v := ?v4) (by simp only [List.getElem?_toArray, List.getElem?_cons_zero, List.getElem?_cons_succ]; exact rfl) (Or.inl ⟨by as_aux_lemma => rfl, ?hy4⟩) ?rest4
  case hy4 => (intro w2 hSw; (try dsimp only at hSw); go_simp; try with_reducible rfl)
  try simp only [Act.put, List.setIfInBounds_toArray, List.set_cons_zero, List.set_cons_succ]
  refine plan_yes (v := ?v5) (by simp only [List.getElem?_toArray, List.getElem?_cons_zero, List.getElem?_cons_succ]; exact rfl) (Or.inl ⟨by as_aux_lemma => rfl, ?hy5⟩) ?rest5
  case hy5 => (intro w2 hSw; (try dsimp only at hSw); go_simp; try with_reducible rfl)
  try simp only [Act.put, List.setIfInBounds_toArray, List.set_cons_zero, List.set_cons_succ]
  refine plan_yes (v := ?v6) (by simp only [List.getElem?_toArray, List.getElem?_cons_zero, List.getElem?_cons_succ]; exact rfl) (Or.inl ⟨by as_aux_lemma => rfl, ?hy6⟩) ?rest6
  case hy6 => (intro w2 hSw; (try dsimp only at hSw); go_simp; try with_reducible rfl)
  try simp only [Act.put, List.setIfInBounds_toArray, List.set_cons_zero, List.set_cons_succ]
  refine plan_yes (v := ?v7) (by simp only [List.getElem?_toArray, List.getElem?_cons_zero, List.getElem?_cons_succ]; exact rfl) (Or.inl ⟨by as_aux_lemma => rfl, ?hy7⟩) ?rest7
  case hy7 => (intro w2 hSw; (try dsimp only at hSw); go_simp; try with_reducible rfl)
  try simp only [Act.put, List.setIfInBounds_toArray, List.set_cons_zero, List.set_cons_succ]
  refine plan_yes (v := ?v8) (by simp only [List.getElem?_toArray, List.getElem?_cons_zero, List.getElem?_cons_succ]; exact rfl) (Or.inl ⟨by as_aux_lemma => rfl, ?hy8⟩) ?rest8
  case hy8 => (intro w2 hSw; (try dsimp only at hSw); go_simp; try with_reducible rfl)
  try simp only [Act.put, List.setIfInBounds_toArray, List.set_cons_zero, List.set_cons_succ]
  refine plan_yes (v := ?v9) (by simp only [List.getElem?_toArray, List.getElem?_cons_zero, List.getElem?_cons_succ]; exact rfl) (Or.inl ⟨by as_aux_lemma => rfl, ?hy9⟩) ?rest9
  case hy9 => (intro w2 hSw; (try dsimp only at hSw); go_simp; try with_reducible rfl)
  try simp only [Act.put, List.setIfInBounds_toArray, List.set_cons_zero, List.set_cons_succ]
  refine plan_yes (v := ?v10) (by simp only [List.getElem?_toArray, List.getElem?_cons_zero, List.getElem?_cons_succ]; exact rfl) (Or.inl ⟨by as_aux_lemma => rfl, ?hy10⟩) ?rest10
  case hy10 => (intro w2 hSw; (try dsimp only at hSw); go_simp; try with_reducible rfl)
  try simp only [Act.put, List.setIfInBounds_toArray, List.set_cons_zero, List.set_cons_succ]
  refine plan_yes (v := ?v11) (by simp only [List.getElem?_toArray, List.getElem?_cons_zero, List.getElem?_cons_succ]; exact rfl) (Or.inl ⟨by as_aux_lemma => rfl, ?hy11⟩) ?rest11
  case hy11 => (intro w2 hSw; (try dsimp only at hSw); go_simp; try with_reducible rfl)
  try simp only [Act.put, List.setIfInBounds_toArray, List.set_cons_zero, List.set_cons_succ]
  refine plan_calls (by simp only [List.getElem?_toArray, List.getElem?_cons_zero, List.getElem?_cons_succ]; exact rfl) (by as_aux_lemma => rfl) (fun K hK => ?_)
  go_simp
  refine (H3.out _).mono ?_
  rintro e Y1w ⟨rfl, hb1⟩
  have Y1 := Lib.hid (keepS (W0 := W0) Y0.out hb1)
  clear hb1
  refine hK.out _ _ Y1.out ?_
  clear hK K
  try simp only [Act.put, List.setIfInBounds_toArray, List.set_cons_zero, List.set_cons_succ]
  as_aux_lemma =>
   refine plan_calls (by simp only [List.getElem?_toArray, List.getElem?_cons_zero, List.getElem?_cons_succ]; exact rfl) (by as_aux_lemma => rfl) (fun K hK => ?_)
   go_simp
   refine (H4.out _).mono ?_
   rintro e Y2w ⟨rfl, hb1⟩
   have Y2 := Lib.hid (keepS (W0 := W0) Y1.out hb1)
   clear hb1
   refine hK.out _ _ Y2.out ?_
   clear hK K
   try simp only [Act.put, List.setIfInBounds_toArray, List.set_cons_zero, List.set_cons_succ]
   as_aux_lemma =>
    refine plan_yes (v := ?v12) (by simp only [List.getElem?_toArray, List.getElem?_cons_zero, List.getElem?_cons_succ]; exact rfl) (Or.inl ⟨by as_aux_lemma => rfl, ?hy12⟩) ?rest12
    case hy12 => (intro w2 hSw; (try dsimp only at hSw); go_simp; try with_reducible rfl)
    try simp only [Act.put, List.setIfInBounds_toArray, List.set_cons_zero, List.set_cons_succ]
    refine plan_yes (v := ?v13) (by simp only [List.getElem?_toArray, List.getElem?_cons_zero, List.getElem?_cons_succ]; exact rfl) (Or.inl ⟨by as_aux_lemma => rfl, ?hy13⟩) ?rest13
    case hy13 => (intro w2 hSw; (try dsimp only at hSw); go_simp; try with_reducible rfl)
    try simp only [Act.put, List.setIfInBounds_toArray, List.set_cons_zero, List.set_cons_succ]
    refine plan_yes (v := ?v14) (by simp only [List.getElem?_toArray, List.getElem?_cons_zero, List.getElem?_cons_succ]; exact rfl) (Or.inl ⟨by as_aux_lemma => rfl, ?hy14⟩) ?rest14
    case hy14 => (intro w2 hSw; (try dsimp only at hSw); go_simp; try with_reducible rfl)
    try simp only [Act.put, List.setIfInBounds_toArray, List.set_cons_zero, List.set_cons_succ]
    refine plan_calls (by simp only [List.getElem?_toArray, List.getElem?_cons_zero, List.getElem?_cons_succ]; exact rfl) (by as_aux_lemma => rfl) (fun K hK => ?_)
    go_simp
    refine (H5.out _).mono ?_
    rintro e Y3w ⟨rfl, hb1⟩
    have Y3 := Lib.hid (keepS (W0 := W0) Y2.out hb1)
    clear hb1
    refine hK.out _ _ Y3.out ?_
    clear hK K
    try simp only [Act.put, List.setIfInBounds_toArray, List.set_cons_zero, List.set_cons_succ]
    as_aux_lemma =>
     refine plan_yes (v := ?v15) (by simp only [List.getElem?_toArray, List.getElem?_cons_zero, List.getElem?_cons_succ]; exact rfl) (Or.inl ⟨by as_aux_lemma => rfl, ?hy15⟩) ?rest15
     case hy15 => (intro w2 hSw; (try dsimp only at hSw); go_simp; try with_reducible rfl)
     try simp only [Act.put, List.setIfInBounds_toArray, List.set_cons_zero, List.set_cons_succ]
     refine plan_yes (v := ?v16) (by simp only [List.getElem?_toArray, List.getElem?_cons_zero, List.getElem?_cons_succ]; exact rfl) (Or.inl ⟨by as_aux_lemma => rfl, ?hy16⟩) ?rest16
     case hy16 => (intro w2 hSw; (try dsimp only at hSw); go_simp; try with_reducible rfl)
     try simp only [Act.put, List.setIfInBounds_toArray, List.set_cons_zero, List.set_cons_succ]
     refine plan_done (NoPanic.normal ?_)
     have B0 := Y3.out
     have BW := Lib.hid (HB0.out.trans (B0.mono zW0))
     go_simp
     go_wp2
     go_ret
     exact ⟨rfl, BW.out⟩
set_option maxHeartbeats 6400000 in
set_option maxRecDepth 100000 in
theorem durSums_walk (s n d m : Int) (bs : in64 s) (bn : in64 n) (bd : in64 d) (bm : in64 m) (w : World) :
    Calls Try.prog 4 #[.agg #[.int .i64 s, .int .i64 n], .agg #[.int .i64 d, .int .i64 m]] w fun e w' => e = .returned (.bool true) ∧ Below w.heap.size w w' := by
  have H1 := Lib.hid (dAdd_any s n d m)
  have H2 := Lib.hid (rdAdd_any s n d m)
  have H3 := Lib.hid (dSub_any s n d m)
  have H4 := Lib.hid (rdSub_any s n d m)
  have H5 := Lib.hid (dNeg_any s n)
  have H6 := Lib.hid (rdNeg_any s n)
  have H7 := Lib.hid (dCmp_any s n d m)
  have H8 := Lib.hid (riCmp_any s n d m)
  have H9 := Lib.hid awake4_any
  clear bs bn bd bm
  generalize ord2 s n d m = O at *
  generalize -nanos s n = T3 at *
  generalize nanos s n + nanos d m = T1 at *
  generalize nanos s n - nanos d m = T2 at *
  generalize fsI (ckD s n) (ckD d m) = F at *
  generalize ckD s n = G at *
  generalize dpS F T1 = S1 at *
  generalize dpN F T1 = N1 at *
  generalize dpE F T1 = E1 at *
  generalize dpS F T2 = S2 at *
  generalize dpN F T2 = N2 at *
  generalize dpE F T2 = E2 at *
  generalize dpS G T3 = S3 at *
  generalize dpN G T3 = N3 at *
  generalize dpE G T3 = E3 at *
  go_enter Try.func4, Try.ntmps4
  go_wp2_with fail
  
  refine (H1.out _).mono ?_
  rintro e V1 ⟨rfl, hb1⟩
  have B1 := Lib.hid ((((Below.refl w.heap.size w).alloc (Nat.le_refl _) _).alloc (by simp <;> omega) _).trans (hb1.mono (by first | assumption | (simp <;> omega) | (simp; done))))
  have A1 := Lib.hid (row_call hb1 (row_alloc (heap_alloc_new _ _) _))
  have D1 := Lib.hid (row_at (k' := w.heap.size + 1) (by simp) (row_call hb1 (heap_alloc_new _ _)))
  clear hb1
  have A1_0 : V1.cell? ⟨w.heap.size, 0, none⟩ = some (.int .i64 s) := cell_of_row _ _ _ _ _ _ A1.out
  have A1_1 : V1.cell? ⟨w.heap.size, 1, none⟩ = some (.int .i64 n) := cell_of_row _ _ _ _ _ _ A1.out
  have D1_0 : V1.cell? ⟨w.heap.size + 1, 0, none⟩ = some (.int .i64 d) := cell_of_row _ _ _ _ _ _ D1.out
  have D1_1 : V1.cell? ⟨w.heap.size + 1, 1, none⟩ = some (.int .i64 m) := cell_of_row _ _ _ _ _ _ D1.out
  have zA1 := lt_of_heap A1.out
  have zD1 := lt_of_heap D1.out
  go_simp
  go_wp2_with fail
  refine (H2.out _).mono ?_
  rintro e V2 ⟨rfl, hb2⟩
  clear A1_0 A1_1 zA1 D1_0 D1_1 zD1
  have nA1I1 := Lib.hid (lt_of_heap A1.out)
  have nD1I1 := Lib.hid (lt_of_heap D1.out)
  have B2 := Lib.hid (((B1.out).alloc (B1.out.size) _).trans (hb2.mono (by have := B1.out.size; first | assumption | (simp <;> omega) | (simp; done))))
  replace A1 := Lib.hid (row_call hb2 (row_alloc A1.out _))
  replace D1 := Lib.hid (row_call hb2 (row_alloc D1.out _))
  have I1 := Lib.hid (row_call hb2 (heap_alloc_new _ _))
  clear hb2
  have A1_0 : V2.cell? ⟨w.heap.size, 0, none⟩ = some (.int .i64 s) := cell_of_row _ _ _ _ _ _ A1.out
  have A1_1 : V2.cell? ⟨w.heap.size, 1, none⟩ = some (.int .i64 n) := cell_of_row _ _ _ _ _ _ A1.out
  have D1_0 : V2.cell? ⟨w.heap.size + 1, 0, none⟩ = some (.int .i64 d) := cell_of_row _ _ _ _ _ _ D1.out
  have D1_1 : V2.cell? ⟨w.heap.size + 1, 1, none⟩ = some (.int .i64 m) := cell_of_row _ _ _ _ _ _ D1.out
  have I1_0 : V2.cell? ⟨V1.heap.size, 0, none⟩ = some (.int .i64 S1) := cell_of_row _ _ _ _ _ _ I1.out
  have I1_1 : V2.cell? ⟨V1.heap.size, 1, none⟩ = some (.int .i64 N1) := cell_of_row _ _ _ _ _ _ I1.out
  have zA1 := lt_of_heap A1.out
  have zD1 := lt_of_heap D1.out
  have zI1 := lt_of_heap I1.out
  go_simp
  go_wp2_with fail
  refine (H3.out _).mono ?_
  rintro e V3 ⟨rfl, hb3⟩
  clear A1_0 A1_1 zA1 D1_0 D1_1 zD1 I1_0 I1_1 zI1
  have nA1I2 := Lib.hid (lt_of_heap A1.out)
  have nD1I2 := Lib.hid (lt_of_heap D1.out)
  have nI1I2 := Lib.hid (lt_of_heap I1.out)
  have B3 := Lib.hid (((B2.out).alloc (B2.out.size) _).trans (hb3.mono (by have := B2.out.size; first | assumption | (simp <;> omega) | (simp; done))))
  replace A1 := Lib.hid (row_call hb3 (row_alloc A1.out _))
  replace D1 := Lib.hid (row_call hb3 (row_alloc D1.out _))
  replace I1 := Lib.hid (row_call hb3 (row_alloc I1.out _))
  have I2 := Lib.hid (row_call hb3 (heap_alloc_new _ _))
  clear hb3
  have A1_0 : V3.cell? ⟨w.heap.size, 0, none⟩ = some (.int .i64 s) := cell_of_row _ _ _ _ _ _ A1.out
  have A1_1 : V3.cell? ⟨w.heap.size, 1, none⟩ = some (.int .i64 n) := cell_of_row _ _ _ _ _ _ A1.out
  have D1_0 : V3.cell? ⟨w.heap.size + 1, 0, none⟩ = some (.int .i64 d) := cell_of_row _ _ _ _ _ _ D1.out
  have D1_1 : V3.cell? ⟨w.heap.size + 1, 1, none⟩ = some (.int .i64 m) := cell_of_row _ _ _ _ _ _ D1.out
  have I1_0 : V3.cell? ⟨V1.heap.size, 0, none⟩ = some (.int .i64 S1) := cell_of_row _ _ _ _ _ _ I1.out
  have I1_1 : V3.cell? ⟨V1.heap.size, 1, none⟩ = some (.int .i64 N1) := cell_of_row _ _ _ _ _ _ I1.out
  have I2_0 : V3.cell? ⟨V2.heap.size, 0, none⟩ = some (.int .i64 S1) := cell_of_row _ _ _ _ _ _ I2.out
  have I2_1 : V3.cell? ⟨V2.heap.size, 1, none⟩ = some (.int .i64 N1) := cell_of_row _ _ _ _ _ _ I2.out
  have zA1 := lt_of_heap A1.out
  have zD1 := lt_of_heap D1.out
  have zI1 := lt_of_heap I1.out
  have zI2 := lt_of_heap I2.out
  go_simp
  go_wp2_with fail
  refine (H4.out _).mono ?_
  rintro e V4 ⟨rfl, hb4⟩
  clear A1_0 A1_1 zA1 D1_0 D1_1 zD1 I1_0 I1_1 zI1 I2_0 I2_1 zI2
  have nA1I3 := Lib.hid (lt_of_heap A1.out)
  have nD1I3 := Lib.hid (lt_of_heap D1.out)
  have nI1I3 := Lib.hid (lt_of_heap I1.out)
  have nI2I3 := Lib.hid (lt_of_heap I2.out)
  have B4 := Lib.hid (((B3.out).alloc (B3.out.size) _).trans (hb4.mono (by have := B3.out.size; first | assumption | (simp <;> omega) | (simp; done))))
  replace A1 := Lib.hid (row_call hb4 (row_alloc A1.out _))
  replace D1 := Lib.hid (row_call hb4 (row_alloc D1.out _))
  replace I1 := Lib.hid (row_call hb4 (row_alloc I1.out _))
  replace I2 := Lib.hid (row_call hb4 (row_alloc I2.out _))
  have I3 := Lib.hid (row_call hb4 (heap_alloc_new _ _))
  clear hb4
  have A1_0 : V4.cell? ⟨w.heap.size, 0, none⟩ = some (.int .i64 s) := cell_of_row _ _ _ _ _ _ A1.out
  have A1_1 : V4.cell? ⟨w.heap.size, 1, none⟩ = some (.int .i64 n) := cell_of_row _ _ _ _ _ _ A1.out
  have D1_0 : V4.cell? ⟨w.heap.size + 1, 0, none⟩ = some (.int .i64 d) := cell_of_row _ _ _ _ _ _ D1.out
  have D1_1 : V4.cell? ⟨w.heap.size + 1, 1, none⟩ = some (.int .i64 m) := cell_of_row _ _ _ _ _ _ D1.out
  have I1_0 : V4.cell? ⟨V1.heap.size, 0, none⟩ = some (.int .i64 S1) := cell_of_row _ _ _ _ _ _ I1.out
  have I1_1 : V4.cell? ⟨V1.heap.size, 1, none⟩ = some (.int .i64 N1) := cell_of_row _ _ _ _ _ _ I1.out
  have I2_0 : V4.cell? ⟨V2.heap.size, 0, none⟩ = some (.int .i64 S1) := cell_of_row _ _ _ _ _ _ I2.out
  have I2_1 : V4.cell? ⟨V2.heap.size, 1, none⟩ = some (.int .i64 N1) := cell_of_row _ _ _ _ _ _ I2.out
  have I3_0 : V4.cell? ⟨V3.heap.size, 0, none⟩ = some (.int .i64 S2) := cell_of_row _ _ _ _ _ _ I3.out
  have I3_1 : V4.cell? ⟨V3.heap.size, 1, none⟩ = some (.int .i64 N2) := cell_of_row _ _ _ _ _ _ I3.out
  have zA1 := lt_of_heap A1.out
  have zD1 := lt_of_heap D1.out
  have zI1 := lt_of_heap I1.out
  have zI2 := lt_of_heap I2.out
  have zI3 := lt_of_heap I3.out
  go_simp
  go_wp2_with fail
  refine (H5.out _).mono ?_
  rintro e V5 ⟨rfl, hb5⟩
  clear A1_0 A1_1 zA1 D1_0 D1_1 zD1 I1_0 I1_1 zI1 I2_0 I2_1 zI2 I3_0 I3_1 zI3
  have nA1I4 := Lib.hid (lt_of_heap A1.out)
  have nD1I4 := Lib.hid (lt_of_heap D1.out)
  have nI1I4 := Lib.hid (lt_of_heap I1.out)
  have nI2I4 := Lib.hid (lt_of_heap I2.out)
  have nI3I4 := Lib.hid (lt_of_heap I3.out)
  have B5 := Lib.hid (((B4.out).alloc (B4.out.size) _).trans (hb5.mono (by have := B4.out.size; first | assumption | (simp <;> omega) | (simp; done))))
  replace A1 := Lib.hid (row_call hb5 (row_alloc A1.out _))
  replace D1 := Lib.hid (row_call hb5 (row_alloc D1.out _))
  replace I1 := Lib.hid (row_call hb5 (row_alloc I1.out _))
  replace I2 := Lib.hid (row_call hb5 (row_alloc I2.out _))
  replace I3 := Lib.hid (row_call hb5 (row_alloc I3.out _))
  have I4 := Lib.hid (row_call hb5 (heap_alloc_new _ _))
  clear hb5
  have A1_0 : V5.cell? ⟨w.heap.size, 0, none⟩ = some (.int .i64 s) := cell_of_row _ _ _ _ _ _ A1.out
  have A1_1 : V5.cell? ⟨w.heap.size, 1, none⟩ = some (.int .i64 n) := cell_of_row _ _ _ _ _ _ A1.out
  have D1_0 : V5.cell? ⟨w.heap.size + 1, 0, none⟩ = some (.int .i64 d) := cell_of_row _ _ _ _ _ _ D1.out
  have D1_1 : V5.cell? ⟨w.heap.size + 1, 1, none⟩ = some (.int .i64 m) := cell_of_row _ _ _ _ _ _ D1.out
  have I1_0 : V5.cell? ⟨V1.heap.size, 0, none⟩ = some (.int .i64 S1) := cell_of_row _ _ _ _ _ _ I1.out
  have I1_1 : V5.cell? ⟨V1.heap.size, 1, none⟩ = some (.int .i64 N1) := cell_of_row _ _ _ _ _ _ I1.out
  have I2_0 : V5.cell? ⟨V2.heap.size, 0, none⟩ = some (.int .i64 S1) := cell_of_row _ _ _ _ _ _ I2.out
  have I2_1 : V5.cell? ⟨V2.heap.size, 1, none⟩ = some (.int .i64 N1) := cell_of_row _ _ _ _ _ _ I2.out
  have I3_0 : V5.cell? ⟨V3.heap.size, 0, none⟩ = some (.int .i64 S2) := cell_of_row _ _ _ _ _ _ I3.out
  have I3_1 : V5.cell? ⟨V3.heap.size, 1, none⟩ = some (.int .i64 N2) := cell_of_row _ _ _ _ _ _ I3.out
  have I4_0 : V5.cell? ⟨V4.heap.size, 0, none⟩ = some (.int .i64 S2) := cell_of_row _ _ _ _ _ _ I4.out
  have I4_1 : V5.cell? ⟨V4.heap.size, 1, none⟩ = some (.int .i64 N2) := cell_of_row _ _ _ _ _ _ I4.out
  have zA1 := lt_of_heap A1.out
  have zD1 := lt_of_heap D1.out
  have zI1 := lt_of_heap I1.out
  have zI2 := lt_of_heap I2.out
  have zI3 := lt_of_heap I3.out
  have zI4 := lt_of_heap I4.out
  go_simp
  go_wp2_with fail
  refine (H6.out _).mono ?_
  rintro e V6 ⟨rfl, hb6⟩
  clear A1_0 A1_1 zA1 D1_0 D1_1 zD1 I1_0 I1_1 zI1 I2_0 I2_1 zI2 I3_0 I3_1 zI3 I4_0 I4_1 zI4
  have nA1I5 := Lib.hid (lt_of_heap A1.out)
  have nD1I5 := Lib.hid (lt_of_heap D1.out)
  have nI1I5 := Lib.hid (lt_of_heap I1.out)
  have nI2I5 := Lib.hid (lt_of_heap I2.out)
  have nI3I5 := Lib.hid (lt_of_heap I3.out)
  have nI4I5 := Lib.hid (lt_of_heap I4.out)
  have B6 := Lib.hid (((B5.out).alloc (B5.out.size) _).trans (hb6.mono (by have := B5.out.size; first | assumption | (simp <;> omega) | (simp; done))))
  replace A1 := Lib.hid (row_call hb6 (row_alloc A1.out _))
  replace D1 := Lib.hid (row_call hb6 (row_alloc D1.out _))
  replace I1 := Lib.hid (row_call hb6 (row_alloc I1.out _))
  replace I2 := Lib.hid (row_call hb6 (row_alloc I2.out _))
  replace I3 := Lib.hid (row_call hb6 (row_alloc I3.out _))
  replace I4 := Lib.hid (row_call hb6 (row_alloc I4.out _))
  have I5 := Lib.hid (row_call hb6 (heap_alloc_new _ _))
  clear hb6
  have A1_0 : V6.cell? ⟨w.heap.size, 0, none⟩ = some (.int .i64 s) := cell_of_row _ _ _ _ _ _ A1.out
  have A1_1 : V6.cell? ⟨w.heap.size, 1, none⟩ = some (.int .i64 n) := cell_of_row _ _ _ _ _ _ A1.out
  have D1_0 : V6.cell? ⟨w.heap.size + 1, 0, none⟩ = some (.int .i64 d) := cell_of_row _ _ _ _ _ _ D1.out
  have D1_1 : V6.cell? ⟨w.heap.size + 1, 1, none⟩ = some (.int .i64 m) := cell_of_row _ _ _ _ _ _ D1.out
  have I1_0 : V6.cell? ⟨V1.heap.size, 0, none⟩ = some (.int .i64 S1) := cell_of_row _ _ _ _ _ _ I1.out
  have I1_1 : V6.cell? ⟨V1.heap.size, 1, none⟩ = some (.int .i64 N1) := cell_of_row _ _ _ _ _ _ I1.out
  have I2_0 : V6.cell? ⟨V2.heap.size, 0, none⟩ = some (.int .i64 S1) := cell_of_row _ _ _ _ _ _ I2.out
  have I2_1 : V6.cell? ⟨V2.heap.size, 1, none⟩ = some (.int .i64 N1) := cell_of_row _ _ _ _ _ _ I2.out
  have I3_0 : V6.cell? ⟨V3.heap.size, 0, none⟩ = some (.int .i64 S2) := cell_of_row _ _ _ _ _ _ I3.out
  have I3_1 : V6.cell? ⟨V3.heap.size, 1, none⟩ = some (.int .i64 N2) := cell_of_row _ _ _ _ _ _ I3.out
  have I4_0 : V6.cell? ⟨V4.heap.size, 0, none⟩ = some (.int .i64 S2) := cell_of_row _ _ _ _ _ _ I4.out
  have I4_1 : V6.cell? ⟨V4.heap.size, 1, none⟩ = some (.int .i64 N2) := cell_of_row _ _ _ _ _ _ I4.out
  have I5_0 : V6.cell? ⟨V5.heap.size, 0, none⟩ = some (.int .i64 S3) := cell_of_row _ _ _ _ _ _ I5.out
  have I5_1 : V6.cell? ⟨V5.heap.size, 1, none⟩ = some (.int .i64 N3) := cell_of_row _ _ _ _ _ _ I5.out
  have zA1 := lt_of_heap A1.out
  have zD1 := lt_of_heap D1.out
  have zI1 := lt_of_heap I1.out
  have zI2 := lt_of_heap I2.out
  have zI3 := lt_of_heap I3.out
  have zI4 := lt_of_heap I4.out
  have zI5 := lt_of_heap I5.out
  go_simp
  go_wp2_with fail
  obtain ⟨W0, hW0⟩ : ∃ W0, W0 = (V6.alloc (Obj.cells #[Value.int .i64 S3, Value.int .i64 N3] 23)) := ⟨_, rfl⟩
  replace A1 := Lib.hid (row_by hW0 (row_alloc A1.out _))
  replace D1 := Lib.hid (row_by hW0 (row_alloc D1.out _))
  replace I1 := Lib.hid (row_by hW0 (row_alloc I1.out _))
  replace I2 := Lib.hid (row_by hW0 (row_alloc I2.out _))
  replace I3 := Lib.hid (row_by hW0 (row_alloc I3.out _))
  replace I4 := Lib.hid (row_by hW0 (row_alloc I4.out _))
  replace I5 := Lib.hid (row_by hW0 (row_alloc I5.out _))
  have I6 := Lib.hid (row_at (k' := V6.heap.size) (by simp) (row_by hW0 (heap_alloc_new _ _)))
  clear A1_0 A1_1 zA1 D1_0 D1_1 zD1 I1_0 I1_1 zI1 I2_0 I2_1 zI2 I3_0 I3_1 zI3 I4_0 I4_1 zI4 I5_0 I5_1 zI5
  have A1_0 : W0.cell? ⟨w.heap.size, 0, none⟩ = some (.int .i64 s) := cell_of_row _ _ _ _ _ _ A1.out
  have A1_1 : W0.cell? ⟨w.heap.size, 1, none⟩ = some (.int .i64 n) := cell_of_row _ _ _ _ _ _ A1.out
  have zA1 := lt_of_heap A1.out
  have D1_0 : W0.cell? ⟨w.heap.size + 1, 0, none⟩ = some (.int .i64 d) := cell_of_row _ _ _ _ _ _ D1.out
  have D1_1 : W0.cell? ⟨w.heap.size + 1, 1, none⟩ = some (.int .i64 m) := cell_of_row _ _ _ _ _ _ D1.out
  have zD1 := lt_of_heap D1.out
  have I1_0 : W0.cell? ⟨V1.heap.size, 0, none⟩ = some (.int .i64 S1) := cell_of_row _ _ _ _ _ _ I1.out
  have I1_1 : W0.cell? ⟨V1.heap.size, 1, none⟩ = some (.int .i64 N1) := cell_of_row _ _ _ _ _ _ I1.out
  have zI1 := lt_of_heap I1.out
  have I2_0 : W0.cell? ⟨V2.heap.size, 0, none⟩ = some (.int .i64 S1) := cell_of_row _ _ _ _ _ _ I2.out
  have I2_1 : W0.cell? ⟨V2.heap.size, 1, none⟩ = some (.int .i64 N1) := cell_of_row _ _ _ _ _ _ I2.out
  have zI2 := lt_of_heap I2.out
  have I3_0 : W0.cell? ⟨V3.heap.size, 0, none⟩ = some (.int .i64 S2) := cell_of_row _ _ _ _ _ _ I3.out
  have I3_1 : W0.cell? ⟨V3.heap.size, 1, none⟩ = some (.int .i64 N2) := cell_of_row _ _ _ _ _ _ I3.out
  have zI3 := lt_of_heap I3.out
  have I4_0 : W0.cell? ⟨V4.heap.size, 0, none⟩ = some (.int .i64 S2) := cell_of_row _ _ _ _ _ _ I4.out
  have I4_1 : W0.cell? ⟨V4.heap.size, 1, none⟩ = some (.int .i64 N2) := cell_of_row _ _ _ _ _ _ I4.out
  have zI4 := lt_of_heap I4.out
  have I5_0 : W0.cell? ⟨V5.heap.size, 0, none⟩ = some (.int .i64 S3) := cell_of_row _ _ _ _ _ _ I5.out
  have I5_1 : W0.cell? ⟨V5.heap.size, 1, none⟩ = some (.int .i64 N3) := cell_of_row _ _ _ _ _ _ I5.out
  have zI5 := lt_of_heap I5.out
  have I6_0 : W0.cell? ⟨V6.heap.size, 0, none⟩ = some (.int .i64 S3) := cell_of_row _ _ _ _ _ _ I6.out
  have I6_1 : W0.cell? ⟨V6.heap.size, 1, none⟩ = some (.int .i64 N3) := cell_of_row _ _ _ _ _ _ I6.out
  have zI6 := lt_of_heap I6.out
  have HB0 := Lib.hid (below_by hW0 ((B6.out).alloc (B6.out.size) _))
  have zW0 := HB0.out.size
  have HW0 := Lib.hid hW0
  clear hW0
  try go_simp
  rw [← HW0.out]
  have hk0 : ∀ w2, Below W0.heap.size W0 w2 → w2.cell? ⟨w.heap.size, 0, none⟩ = some (.int .i64 s) := fun w2 hb => (by rw [hb.cell (p := ⟨w.heap.size, 0, none⟩) (by assumption)]; assumption)
  have hk1 : ∀ w2, Below W0.heap.size W0 w2 → w2.cell? ⟨w.heap.size, 1, none⟩ = some (.int .i64 n) := fun w2 hb => (by rw [hb.cell (p := ⟨w.heap.size, 1, none⟩) (by assumption)]; assumption)
  have hk2 : ∀ w2, Below W0.heap.size W0 w2 → w2.cell? ⟨w.heap.size + 1, 0, none⟩ = some (.int .i64 d) := fun w2 hb => (by rw [hb.cell (p := ⟨w.heap.size + 1, 0, none⟩) (by assumption)]; assumption)
  have hk3 : ∀ w2, Below W0.heap.size W0 w2 → w2.cell? ⟨w.heap.size + 1, 1, none⟩ = some (.int .i64 m) := fun w2 hb => (by rw [hb.cell (p := ⟨w.heap.size + 1, 1, none⟩) (by assumption)]; assumption)
  have hk4 : ∀ w2, Below W0.heap.size W0 w2 → w2.cell? ⟨V1.heap.size, 0, none⟩ = some (.int .i64 S1) := fun w2 hb => (by rw [hb.cell (p := ⟨V1.heap.size, 0, none⟩) (by assumption)]; assumption)
  have hk5 : ∀ w2, Below W0.heap.size W0 w2 → w2.cell? ⟨V1.heap.size, 1, none⟩ = some (.int .i64 N1) := fun w2 hb => (by rw [hb.cell (p := ⟨V1.heap.size, 1, none⟩) (by assumption)]; assumption)
  have hk6 : ∀ w2, Below W0.heap.size W0 w2 → w2.cell? ⟨V2.heap.size, 0, none⟩ = some (.int .i64 S1) := fun w2 hb => (by rw [hb.cell (p := ⟨V2.heap.size, 0, none⟩) (by assumption)]; assumption)
  have hk7 : ∀ w2, Below W0.heap.size W0 w2 → w2.cell? ⟨V2.heap.size, 1, none⟩ = some (.int .i64 N1) := fun w2 hb => (by rw [hb.cell (p := ⟨V2.heap.size, 1, none⟩) (by assumption)]; assumption)
  have hk8 : ∀ w2, Below W0.heap.size W0 w2 → w2.cell? ⟨V3.heap.size, 0, none⟩ = some (.int .i64 S2) := fun w2 hb => (by rw [hb.cell (p := ⟨V3.heap.size, 0, none⟩) (by assumption)]; assumption)
  have hk9 : ∀ w2, Below W0.heap.size W0 w2 → w2.cell? ⟨V3.heap.size, 1, none⟩ = some (.int .i64 N2) := fun w2 hb => (by rw [hb.cell (p := ⟨V3.heap.size, 1, none⟩) (by assumption)]; assumption)
  have hk10 : ∀ w2, Below W0.heap.size W0 w2 → w2.cell? ⟨V4.heap.size, 0, none⟩ = some (.int .i64 S2) := fun w2 hb => (by rw [hb.cell (p := ⟨V4.heap.size, 0, none⟩) (by assumption)]; assumption)
  have hk11 : ∀ w2, Below W0.heap.size W0 w2 → w2.cell? ⟨V4.heap.size, 1, none⟩ = some (.int .i64 N2) := fun w2 hb => (by rw [hb.cell (p := ⟨V4.heap.size, 1, none⟩) (by assumption)]; assumption)
  have hk12 : ∀ w2, Below W0.heap.size W0 w2 → w2.cell? ⟨V5.heap.size, 0, none⟩ = some (.int .i64 S3) := fun w2 hb => (by rw [hb.cell (p := ⟨V5.heap.size, 0, none⟩) (by assumption)]; assumption)
  have hk13 : ∀ w2, Below W0.heap.size W0 w2 → w2.cell? ⟨V5.heap.size, 1, none⟩ = some (.int .i64 N3) := fun w2 hb => (by rw [hb.cell (p := ⟨V5.heap.size, 1, none⟩) (by assumption)]; assumption)
  have hk14 : ∀ w2, Below W0.heap.size W0 w2 → w2.cell? ⟨V6.heap.size, 0, none⟩ = some (.int .i64 S3) := fun w2 hb => (by rw [hb.cell (p := ⟨V6.heap.size, 0, none⟩) (by assumption)]; assumption)
  have hk15 : ∀ w2, Below W0.heap.size W0 w2 → w2.cell? ⟨V6.heap.size, 1, none⟩ = some (.int .i64 N3) := fun w2 hb => (by rw [hb.cell (p := ⟨V6.heap.size, 1, none⟩) (by assumption)]; assumption)
  clear A1_0 A1_1 D1_0 D1_1 I1_0 I1_1 I2_0 I2_1 I3_0 I3_1 I4_0 I4_1 I5_0 I5_1 I6_0 I6_1
  refine region_plan (S := fun w2 => Below W0.heap.size W0 w2) [(0, true), (1, true), (2, true), (3, true), (4, true), (5, true), (6, true), (7, true), (8, true), (9, true), (10, true), (11, true), (12, true), (13, true), (14, true), (15, true), (16, true), (17, true), (18, true), (19, true), (20, true), (21, true), (22, true), (23, true), (24, true), (25, true), (26, true), (27, true), (28, true), (29, true), (30, true), (32, true), (33, true), (34, true), (35, true), (36, true), (37, true), (38, true), (39, true), (40, true), (41, true), (31, false), (42, false), (43, true), (44, true), (45, true), (46, false), (47, true), (48, true)] (by as_aux_lemma => kernel_rfl) (by as_aux_lemma => kernel_rfl) (by as_aux_lemma => kernel_rfl) (by as_aux_lemma => kernel_rfl) (Below.refl W0.heap.size W0).drew ?_
  have Y0 := Lib.hid (Below.refl W0.heap.size W0).drew
  refine plan_yes (v := ?v1_2) (by simp only [List.getElem?_toArray, List.getElem?_cons_zero, List.getElem?_cons_succ]; exact rfl) (Or.inl ⟨by as_aux_lemma => rfl, ?hy1_2⟩) ?rest1_2
  case hy1_2 => (intro w2 hSw; (try dsimp only at hSw); go_simp; try with_reducible rfl)
  try simp only [Act.put, List.setIfInBounds_toArray, List.set_cons_zero, List.set_cons_succ]
  refine plan_yes (v := ?v2_2) (by simp only [List.getElem?_toArray, List.getElem?_cons_zero, List.getElem?_cons_succ]; exact rfl) (Or.inl ⟨by as_aux_lemma => rfl, ?hy2_2⟩) ?rest2_2
  case hy2_2 => (intro w2 hSw; (try dsimp only at hSw); go_simp; try with_reducible rfl)
  try simp only [Act.put, List.setIfInBounds_toArray, List.set_cons_zero, List.set_cons_succ]
  refine plan_yes (v := .bool true) (by simp only [List.getElem?_toArray, List.getElem?_cons_zero, List.getElem?_cons_succ]; exact rfl) (Or.inl ⟨by as_aux_lemma => rfl, ?hy3_2⟩) ?rest3_2
  case hy3_2 => (intro w2 hSw; first | (apply eql_wide; rfl; rfl; rfl) | (apply eql_dur; rfl; rfl; rfl))
  try simp only [Act.put, List.setIfInBounds_toArray, List.set_cons_zero, List.set_cons_succ]
  refine plan_yes (v := ?v4_2) (by simp only [List.getElem?_toArray, List.getElem?_cons_zero, List.getElem?_cons_succ]; exact rfl) (Or.inl ⟨by as_aux_lemma => rfl, ?hy4_2⟩) ?rest4_2
  case hy4_2 => (intro w2 hSw; (try dsimp only at hSw); go_simp; try with_reducible rfl)
  try simp only [Act.put, List.setIfInBounds_toArray, List.set_cons_zero, List.set_cons_succ]
  refine plan_yes (v := ?v5_2) (by simp only [List.getElem?_toArray, List.getElem?_cons_zero, List.getElem?_cons_succ]; exact rfl) (Or.inl ⟨by as_aux_lemma => rfl, ?hy5_2⟩) ?rest5_2
  case hy5_2 => (intro w2 hSw; (try dsimp only at hSw); go_simp; try with_reducible rfl)
  try simp only [Act.put, List.setIfInBounds_toArray, List.set_cons_zero, List.set_cons_succ]
  refine plan_yes (v := ?v6_2) (by simp only [List.getElem?_toArray, List.getElem?_cons_zero, List.getElem?_cons_succ]; exact rfl) (Or.inl ⟨by as_aux_lemma => rfl, ?hy6_2⟩) ?rest6_2
  case hy6_2 => (intro w2 hSw; (try dsimp only at hSw); go_simp; try with_reducible rfl)
  try simp only [Act.put, List.setIfInBounds_toArray, List.set_cons_zero, List.set_cons_succ]
  refine plan_yes (v := ?v7_2) (by simp only [List.getElem?_toArray, List.getElem?_cons_zero, List.getElem?_cons_succ]; exact rfl) (Or.inl ⟨by as_aux_lemma => rfl, ?hy7_2⟩) ?rest7_2
  case hy7_2 => (intro w2 hSw; (try dsimp only at hSw); go_simp; try with_reducible rfl)
  try simp only [Act.put, List.setIfInBounds_toArray, List.set_cons_zero, List.set_cons_succ]
  refine plan_yes (v := ?v8_2) (by simp only [List.getElem?_toArray, List.getElem?_cons_zero, List.getElem?_cons_succ]; exact rfl) (Or.inl ⟨by as_aux_lemma => rfl, ?hy8_2⟩) ?rest8_2
  case hy8_2 => (intro w2 hSw; (try dsimp only at hSw); go_simp; try with_reducible rfl)
  try simp only [Act.put, List.setIfInBounds_toArray, List.set_cons_zero, List.set_cons_succ]
  refine plan_yes (v := ?v9_2) (by simp only [List.getElem?_toArray, List.getElem?_cons_zero, List.getElem?_cons_succ]; exact rfl) (Or.inl ⟨by as_aux_lemma => rfl, ?hy9_2⟩) ?rest9_2
  case hy9_2 => (intro w2 hSw; (try dsimp only at hSw); go_simp; try with_reducible rfl)
  try simp only [Act.put, List.setIfInBounds_toArray, List.set_cons_zero, List.set_cons_succ]
  refine plan_yes (v := ?v10_2) (by simp only [List.getElem?_toArray, List.getElem?_cons_zero, List.getElem?_cons_succ]; exact rfl) (Or.inl ⟨by as_aux_lemma => rfl, ?hy10_2⟩) ?rest10_2
  case hy10_2 => (intro w2 hSw; (try dsimp only at hSw); go_simp; try with_reducible rfl)
  try simp only [Act.put, List.setIfInBounds_toArray, List.set_cons_zero, List.set_cons_succ]
  refine plan_yes (v := ?v11_2) (by simp only [List.getElem?_toArray, List.getElem?_cons_zero, List.getElem?_cons_succ]; exact rfl) (Or.inl ⟨by as_aux_lemma => rfl, ?hy11_2⟩) ?rest11_2
  case hy11_2 => (intro w2 hSw; (try dsimp only at hSw); go_simp; try with_reducible rfl)
  try simp only [Act.put, List.setIfInBounds_toArray, List.set_cons_zero, List.set_cons_succ]
  refine plan_yes (v := .bool true) (by simp only [List.getElem?_toArray, List.getElem?_cons_zero, List.getElem?_cons_succ]; exact rfl) (Or.inl ⟨by as_aux_lemma => rfl, ?hy12_2⟩) ?rest12_2
  case hy12_2 => (intro w2 hSw; first | (apply eql_wide; rfl; rfl; rfl) | (apply eql_dur; rfl; rfl; rfl))
  try simp only [Act.put, List.setIfInBounds_toArray, List.set_cons_zero, List.set_cons_succ]
  refine plan_yes (v := ?v13_2) (by simp only [List.getElem?_toArray, List.getElem?_cons_zero, List.getElem?_cons_succ]; exact rfl) (Or.inl ⟨by as_aux_lemma => rfl, ?hy13_2⟩) ?rest13_2
  case hy13_2 => (intro w2 hSw; (try dsimp only at hSw); go_simp; try with_reducible rfl)
  try simp only [Act.put, List.setIfInBounds_toArray, List.set_cons_zero, List.set_cons_succ]
  refine plan_yes (v := ?v14_2) (by simp only [List.getElem?_toArray, List.getElem?_cons_zero, List.getElem?_cons_succ]; exact rfl) (Or.inl ⟨by as_aux_lemma => rfl, ?hy14_2⟩) ?rest14_2
  case hy14_2 => (intro w2 hSw; (try dsimp only at hSw); go_simp; try with_reducible rfl)
  try simp only [Act.put, List.setIfInBounds_toArray, List.set_cons_zero, List.set_cons_succ]
  refine plan_yes (v := ?v15_2) (by simp only [List.getElem?_toArray, List.getElem?_cons_zero, List.getElem?_cons_succ]; exact rfl) (Or.inl ⟨by as_aux_lemma => rfl, ?hy15_2⟩) ?rest15_2
  case hy15_2 => (intro w2 hSw; (try dsimp only at hSw); go_simp; try with_reducible rfl)
  try simp only [Act.put, List.setIfInBounds_toArray, List.set_cons_zero, List.set_cons_succ]
  refine plan_yes (v := ?v16_2) (by simp only [List.getElem?_toArray, List.getElem?_cons_zero, List.getElem?_cons_succ]; exact rfl) (Or.inl ⟨by as_aux_lemma => rfl, ?hy16_2⟩) ?rest16_2
  case hy16_2 => (intro w2 hSw; (try dsimp only at hSw); go_simp; try with_reducible rfl)
  try simp only [Act.put, List.setIfInBounds_toArray, List.set_cons_zero, List.set_cons_succ]
  refine plan_yes (v := ?v17_2) (by simp only [List.getElem?_toArray, List.getElem?_cons_zero, List.getElem?_cons_succ]; exact rfl) (Or.inl ⟨by as_aux_lemma => rfl, ?hy17_2⟩) ?rest17_2
  case hy17_2 => (intro w2 hSw; (try dsimp only at hSw); go_simp; try with_reducible rfl)
  try simp only [Act.put, List.setIfInBounds_toArray, List.set_cons_zero, List.set_cons_succ]
  refine plan_yes (v := ?v18_2) (by simp only [List.getElem?_toArray, List.getElem?_cons_zero, List.getElem?_cons_succ]; exact rfl) (Or.inl ⟨by as_aux_lemma => rfl, ?hy18_2⟩) ?rest18_2
  case hy18_2 => (intro w2 hSw; (try dsimp only at hSw); go_simp; try with_reducible rfl)
  try simp only [Act.put, List.setIfInBounds_toArray, List.set_cons_zero, List.set_cons_succ]
  refine plan_yes (v := ?v19_2) (by simp only [List.getElem?_toArray, List.getElem?_cons_zero, List.getElem?_cons_succ]; exact rfl) (Or.inl ⟨by as_aux_lemma => rfl, ?hy19_2⟩) ?rest19_2
  case hy19_2 => (intro w2 hSw; (try dsimp only at hSw); go_simp; try with_reducible rfl)
  try simp only [Act.put, List.setIfInBounds_toArray, List.set_cons_zero, List.set_cons_succ]
  refine plan_yes (v := ?v20_2) (by simp only [List.getElem?_toArray, List.getElem?_cons_zero, List.getElem?_cons_succ]; exact rfl) (Or.inl ⟨by as_aux_lemma => rfl, ?hy20_2⟩) ?rest20_2
  case hy20_2 => (intro w2 hSw; (try dsimp only at hSw); go_simp; try with_reducible rfl)
  try simp only [Act.put, List.setIfInBounds_toArray, List.set_cons_zero, List.set_cons_succ]
  refine plan_yes (v := ?v21_2) (by simp only [List.getElem?_toArray, List.getElem?_cons_zero, List.getElem?_cons_succ]; exact rfl) (Or.inl ⟨by as_aux_lemma => rfl, ?hy21_2⟩) ?rest21_2
  case hy21_2 => (intro w2 hSw; (try dsimp only at hSw); go_simp; try with_reducible rfl)
  try simp only [Act.put, List.setIfInBounds_toArray, List.set_cons_zero, List.set_cons_succ]
  refine plan_yes (v := .bool true) (by simp only [List.getElem?_toArray, List.getElem?_cons_zero, List.getElem?_cons_succ]; exact rfl) (Or.inl ⟨by as_aux_lemma => rfl, ?hy22_2⟩) ?rest22_2
  case hy22_2 => (intro w2 hSw; first | (apply eql_wide; rfl; rfl; rfl) | (apply eql_dur; rfl; rfl; rfl))
  try simp only [Act.put, List.setIfInBounds_toArray, List.set_cons_zero, List.set_cons_succ]
  refine plan_yes (v := ?v23_2) (by simp only [List.getElem?_toArray, List.getElem?_cons_zero, List.getElem?_cons_succ]; exact rfl) (Or.inl ⟨by as_aux_lemma => rfl, ?hy23_2⟩) ?rest23_2
  case hy23_2 => (intro w2 hSw; (try dsimp only at hSw); go_simp; try with_reducible rfl)
  try simp only [Act.put, List.setIfInBounds_toArray, List.set_cons_zero, List.set_cons_succ]
  refine plan_yes (v := ?v24_2) (by simp only [List.getElem?_toArray, List.getElem?_cons_zero, List.getElem?_cons_succ]; exact rfl) (Or.inl ⟨by as_aux_lemma => rfl, ?hy24_2⟩) ?rest24_2
  case hy24_2 => (intro w2 hSw; (try dsimp only at hSw); go_simp; try with_reducible rfl)
  try simp only [Act.put, List.setIfInBounds_toArray, List.set_cons_zero, List.set_cons_succ]
  refine plan_yes (v := ?v25_2) (by simp only [List.getElem?_toArray, List.getElem?_cons_zero, List.getElem?_cons_succ]; exact rfl) (Or.inl ⟨by as_aux_lemma => rfl, ?hy25_2⟩) ?rest25_2
  case hy25_2 => (intro w2 hSw; (try dsimp only at hSw); go_simp; try with_reducible rfl)
  try simp only [Act.put, List.setIfInBounds_toArray, List.set_cons_zero, List.set_cons_succ]
  refine plan_yes (v := ?v26_2) (by simp only [List.getElem?_toArray, List.getElem?_cons_zero, List.getElem?_cons_succ]; exact rfl) (Or.inl ⟨by as_aux_lemma => rfl, ?hy26_2⟩) ?rest26_2
  case hy26_2 => (intro w2 hSw; (try dsimp only at hSw); go_simp; try with_reducible rfl)
  try simp only [Act.put, List.setIfInBounds_toArray, List.set_cons_zero, List.set_cons_succ]
  refine plan_yes (v := ?v27_2) (by simp only [List.getElem?_toArray, List.getElem?_cons_zero, List.getElem?_cons_succ]; exact rfl) (Or.inl ⟨by as_aux_lemma => rfl, ?hy27_2⟩) ?rest27_2
  case hy27_2 => (intro w2 hSw; (try dsimp only at hSw); go_simp; try with_reducible rfl)
  try simp only [Act.put, List.setIfInBounds_toArray, List.set_cons_zero, List.set_cons_succ]
  refine plan_yes (v := ?v28_2) (by simp only [List.getElem?_toArray, List.getElem?_cons_zero, List.getElem?_cons_succ]; exact rfl) (Or.inl ⟨by as_aux_lemma => rfl, ?hy28_2⟩) ?rest28_2
  case hy28_2 => (intro w2 hSw; (try dsimp only at hSw); go_simp; try with_reducible rfl)
  try simp only [Act.put, List.setIfInBounds_toArray, List.set_cons_zero, List.set_cons_succ]
  refine plan_yes (v := ?v29_2) (by simp only [List.getElem?_toArray, List.getElem?_cons_zero, List.getElem?_cons_succ]; exact rfl) (Or.inl ⟨by as_aux_lemma => rfl, ?hy29_2⟩) ?rest29_2
  case hy29_2 => (intro w2 hSw; (try dsimp only at hSw); go_simp; try with_reducible rfl)
  try simp only [Act.put, List.setIfInBounds_toArray, List.set_cons_zero, List.set_cons_succ]
  refine plan_yes (v := ?v30_2) (by simp only [List.getElem?_toArray, List.getElem?_cons_zero, List.getElem?_cons_succ]; exact rfl) (Or.inl ⟨by as_aux_lemma => rfl, ?hy30_2⟩) ?rest30_2
  case hy30_2 => (intro w2 hSw; (try dsimp only at hSw); go_simp; try with_reducible rfl)
  try simp only [Act.put, List.setIfInBounds_toArray, List.set_cons_zero, List.set_cons_succ]
  refine plan_yes (v := ?v31_2) (by simp only [List.getElem?_toArray, List.getElem?_cons_zero, List.getElem?_cons_succ]; exact rfl) (Or.inl ⟨by as_aux_lemma => rfl, ?hy31_2⟩) ?rest31_2
  case hy31_2 => (intro w2 hSw; (try dsimp only at hSw); go_simp; try with_reducible rfl)
  try simp only [Act.put, List.setIfInBounds_toArray, List.set_cons_zero, List.set_cons_succ]
  refine plan_yes (v := ?v32_2) (by simp only [List.getElem?_toArray, List.getElem?_cons_zero, List.getElem?_cons_succ]; exact rfl) (Or.inl ⟨by as_aux_lemma => rfl, ?hy32_2⟩) ?rest32_2
  case hy32_2 => (intro w2 hSw; (try dsimp only at hSw); go_simp; try with_reducible rfl)
  try simp only [Act.put, List.setIfInBounds_toArray, List.set_cons_zero, List.set_cons_succ]
  refine plan_yes (v := ?v33_2) (by simp only [List.getElem?_toArray, List.getElem?_cons_zero, List.getElem?_cons_succ]; exact rfl) (Or.inl ⟨by as_aux_lemma => rfl, ?hy33_2⟩) ?rest33_2
  case hy33_2 => (intro w2 hSw; (try dsimp only at hSw); go_simp; try with_reducible rfl)
  try simp only [Act.put, List.setIfInBounds_toArray, List.set_cons_zero, List.set_cons_succ]
  refine plan_yes (v := ?v34_2) (by simp only [List.getElem?_toArray, List.getElem?_cons_zero, List.getElem?_cons_succ]; exact rfl) (Or.inl ⟨by as_aux_lemma => rfl, ?hy34_2⟩) ?rest34_2
  case hy34_2 => (intro w2 hSw; (try dsimp only at hSw); go_simp; try with_reducible rfl)
  try simp only [Act.put, List.setIfInBounds_toArray, List.set_cons_zero, List.set_cons_succ]
  refine plan_yes (v := ?v35_2) (by simp only [List.getElem?_toArray, List.getElem?_cons_zero, List.getElem?_cons_succ]; exact rfl) (Or.inl ⟨by as_aux_lemma => rfl, ?hy35_2⟩) ?rest35_2
  case hy35_2 => (intro w2 hSw; (try dsimp only at hSw); go_simp; try with_reducible rfl)
  try simp only [Act.put, List.setIfInBounds_toArray, List.set_cons_zero, List.set_cons_succ]
  refine plan_yes (v := ?v36_2) (by simp only [List.getElem?_toArray, List.getElem?_cons_zero, List.getElem?_cons_succ]; exact rfl) (Or.inl ⟨by as_aux_lemma => rfl, ?hy36_2⟩) ?rest36_2
  case hy36_2 => (intro w2 hSw; (try dsimp only at hSw); go_simp; try with_reducible rfl)
  try simp only [Act.put, List.setIfInBounds_toArray, List.set_cons_zero, List.set_cons_succ]
  refine plan_yes (v := ?v37_2) (by simp only [List.getElem?_toArray, List.getElem?_cons_zero, List.getElem?_cons_succ]; exact rfl) (Or.inl ⟨by as_aux_lemma => rfl, ?hy37_2⟩) ?rest37_2
  case hy37_2 => (intro w2 hSw; (try dsimp only at hSw); go_simp; try with_reducible rfl)
  try simp only [Act.put, List.setIfInBounds_toArray, List.set_cons_zero, List.set_cons_succ]
  refine plan_yes (v := ?v38_2) (by simp only [List.getElem?_toArray, List.getElem?_cons_zero, List.getElem?_cons_succ]; exact rfl) (Or.inl ⟨by as_aux_lemma => rfl, ?hy38_2⟩) ?rest38_2
  case hy38_2 => (intro w2 hSw; (try dsimp only at hSw); go_simp; try with_reducible rfl)
  try simp only [Act.put, List.setIfInBounds_toArray, List.set_cons_zero, List.set_cons_succ]
  refine plan_yes (v := ?v39_2) (by simp only [List.getElem?_toArray, List.getElem?_cons_zero, List.getElem?_cons_succ]; exact rfl) (Or.inl ⟨by as_aux_lemma => rfl, ?hy39_2⟩) ?rest39_2
  case hy39_2 => (intro w2 hSw; (try dsimp only at hSw); go_simp; try with_reducible rfl)
  try simp only [Act.put, List.setIfInBounds_toArray, List.set_cons_zero, List.set_cons_succ]
  refine plan_yes (v := ?v40_2) (by simp only [List.getElem?_toArray, List.getElem?_cons_zero, List.getElem?_cons_succ]; exact rfl) (Or.inl ⟨by as_aux_lemma => rfl, ?hy40_2⟩) ?rest40_2
  case hy40_2 => (intro w2 hSw; (try dsimp only at hSw); go_simp; try with_reducible rfl)
  try simp only [Act.put, List.setIfInBounds_toArray, List.set_cons_zero, List.set_cons_succ]
  refine plan_yes (v := ?v41_2) (by simp only [List.getElem?_toArray, List.getElem?_cons_zero, List.getElem?_cons_succ]; exact rfl) (Or.inl ⟨by as_aux_lemma => rfl, ?hy41_2⟩) ?rest41_2
  case hy41_2 => (intro w2 hSw; (try dsimp only at hSw); go_simp; try with_reducible rfl)
  try simp only [Act.put, List.setIfInBounds_toArray, List.set_cons_zero, List.set_cons_succ]
  refine plan_calls (by simp only [List.getElem?_toArray, List.getElem?_cons_zero, List.getElem?_cons_succ]; exact rfl) (by as_aux_lemma => rfl) (fun K hK => ?_)
  go_simp
  refine (H7.out _).mono ?_
  rintro e Y1w ⟨rfl, hb1⟩
  have Y1 := Lib.hid (keepS (W0 := W0) Y0.out hb1)
  clear hb1
  refine hK.out _ _ Y1.out ?_
  clear hK K
  try simp only [Act.put, List.setIfInBounds_toArray, List.set_cons_zero, List.set_cons_succ]
  as_aux_lemma =>
   refine plan_calls (by simp only [List.getElem?_toArray, List.getElem?_cons_zero, List.getElem?_cons_succ]; exact rfl) (by as_aux_lemma => rfl) (fun K hK => ?_)
   go_simp
   refine (H8.out _).mono ?_
   rintro e Y2w ⟨rfl, hb1⟩
   have Y2 := Lib.hid (keepS (W0 := W0) Y1.out hb1)
   clear hb1
   refine hK.out _ _ Y2.out ?_
   clear hK K
   try simp only [Act.put, List.setIfInBounds_toArray, List.set_cons_zero, List.set_cons_succ]
   as_aux_lemma =>
    refine plan_yes (v := ?v42_2) (by simp only [List.getElem?_toArray, List.getElem?_cons_zero, List.getElem?_cons_succ]; exact rfl) (Or.inl ⟨by as_aux_lemma => rfl, ?hy42_2⟩) ?rest42_2
    case hy42_2 => (intro w2 hSw; (try dsimp only at hSw); go_simp; try with_reducible rfl)
    try simp only [Act.put, List.setIfInBounds_toArray, List.set_cons_zero, List.set_cons_succ]
    refine plan_yes (v := ?v43_2) (by simp only [List.getElem?_toArray, List.getElem?_cons_zero, List.getElem?_cons_succ]; exact rfl) (Or.inl ⟨by as_aux_lemma => rfl, ?hy43_2⟩) ?rest43_2
    case hy43_2 => (intro w2 hSw; (try dsimp only at hSw); go_simp; try with_reducible rfl)
    try simp only [Act.put, List.setIfInBounds_toArray, List.set_cons_zero, List.set_cons_succ]
    refine plan_yes (v := ?v44_2) (by simp only [List.getElem?_toArray, List.getElem?_cons_zero, List.getElem?_cons_succ]; exact rfl) (Or.inl ⟨by as_aux_lemma => rfl, ?hy44_2⟩) ?rest44_2
    case hy44_2 => (intro w2 hSw; (try dsimp only at hSw); go_simp; try with_reducible rfl)
    try simp only [Act.put, List.setIfInBounds_toArray, List.set_cons_zero, List.set_cons_succ]
    refine plan_calls (by simp only [List.getElem?_toArray, List.getElem?_cons_zero, List.getElem?_cons_succ]; exact rfl) (by as_aux_lemma => rfl) (fun K hK => ?_)
    go_simp
    refine (H9.out _).mono ?_
    rintro e Y3w ⟨rfl, hb1⟩
    have Y3 := Lib.hid (keepS (W0 := W0) Y2.out hb1)
    clear hb1
    refine hK.out _ _ Y3.out ?_
    clear hK K
    try simp only [Act.put, List.setIfInBounds_toArray, List.set_cons_zero, List.set_cons_succ]
    as_aux_lemma =>
     refine plan_yes (v := ?v45_2) (by simp only [List.getElem?_toArray, List.getElem?_cons_zero, List.getElem?_cons_succ]; exact rfl) (Or.inl ⟨by as_aux_lemma => rfl, ?hy45_2⟩) ?rest45_2
     case hy45_2 => (intro w2 hSw; (try dsimp only at hSw); go_simp; try with_reducible rfl)
     try simp only [Act.put, List.setIfInBounds_toArray, List.set_cons_zero, List.set_cons_succ]
     refine plan_yes (v := ?v46_2) (by simp only [List.getElem?_toArray, List.getElem?_cons_zero, List.getElem?_cons_succ]; exact rfl) (Or.inl ⟨by as_aux_lemma => rfl, ?hy46_2⟩) ?rest46_2
     case hy46_2 => (intro w2 hSw; (try dsimp only at hSw); go_simp; try with_reducible rfl)
     try simp only [Act.put, List.setIfInBounds_toArray, List.set_cons_zero, List.set_cons_succ]
     refine plan_done (NoPanic.normal ?_)
     have B0 := Y3.out
     have BW := Lib.hid (HB0.out.trans (B0.mono zW0))
     go_simp
     go_wp2
     go_ret
     exact ⟨rfl, BW.out⟩
set_option maxHeartbeats 6400000 in
set_option maxRecDepth 100000 in
theorem durTimes_walk (s n f : Int) (bs : in64 s) (bn : in64 n) (bf : in64 f) (w : World) :
    Calls Try.prog 5 #[.agg #[.int .i64 s, .int .i64 n], .int .i64 f] w fun e w' => e = .returned (.bool true) ∧ Below w.heap.size w w' := by
  have H1 := Lib.hid (dMul_any s n f bf)
  have H2 := Lib.hid (rdMul_any s n f bf)
  have H3 := Lib.hid (dDiv_any s n f bf)
  have H4 := Lib.hid (rdDiv_any s n f bf)
  have H9 := Lib.hid awake4_any
  clear bf bs bn
  generalize fq (nanos s n) f = T2 at *
  generalize f * nanos s n = T1 at *
  generalize dvF s n f = F2 at *
  generalize ckD s n = F1 at *
  generalize dpS F1 T1 = S1 at *
  generalize dpN F1 T1 = N1 at *
  generalize dpE F1 T1 = E1 at *
  generalize dpS F2 T2 = S2 at *
  generalize dpN F2 T2 = N2 at *
  generalize dpE F2 T2 = E2 at *
  go_enter Try.func5, Try.ntmps5
  go_wp2_with fail
  
  refine (H1.out _).mono ?_
  rintro e V1 ⟨rfl, hb1⟩
  have B1 := Lib.hid (((Below.refl w.heap.size w).alloc (Nat.le_refl _) _).trans (hb1.mono (by first | assumption | (simp <;> omega) | (simp; done))))
  have A1 := Lib.hid (row_call hb1 (heap_alloc_new _ _))
  clear hb1
  have A1_0 : V1.cell? ⟨w.heap.size, 0, none⟩ = some (.int .i64 s) := cell_of_row _ _ _ _ _ _ A1.out
  have A1_1 : V1.cell? ⟨w.heap.size, 1, none⟩ = some (.int .i64 n) := cell_of_row _ _ _ _ _ _ A1.out
  have zA1 := lt_of_heap A1.out
  go_simp
  go_wp2_with fail
  refine (H2.out _).mono ?_
  rintro e V2 ⟨rfl, hb2⟩
  clear A1_0 A1_1 zA1
  have nA1I1 := Lib.hid (lt_of_heap A1.out)
  have B2 := Lib.hid (((B1.out).alloc (B1.out.size) _).trans (hb2.mono (by have := B1.out.size; first | assumption | (simp <;> omega) | (simp; done))))
  replace A1 := Lib.hid (row_call hb2 (row_alloc A1.out _))
  have I1 := Lib.hid (row_call hb2 (heap_alloc_new _ _))
  clear hb2
  have A1_0 : V2.cell? ⟨w.heap.size, 0, none⟩ = some (.int .i64 s) := cell_of_row _ _ _ _ _ _ A1.out
  have A1_1 : V2.cell? ⟨w.heap.size, 1, none⟩ = some (.int .i64 n) := cell_of_row _ _ _ _ _ _ A1.out
  have I1_0 : V2.cell? ⟨V1.heap.size, 0, none⟩ = some (.int .i64 S1) := cell_of_row _ _ _ _ _ _ I1.out
  have I1_1 : V2.cell? ⟨V1.heap.size, 1, none⟩ = some (.int .i64 N1) := cell_of_row _ _ _ _ _ _ I1.out
  have zA1 := lt_of_heap A1.out
  have zI1 := lt_of_heap I1.out
  go_simp
  go_wp2_with fail
  refine (H3.out _).mono ?_
  rintro e V3 ⟨rfl, hb3⟩
  clear A1_0 A1_1 zA1 I1_0 I1_1 zI1
  have nA1I2 := Lib.hid (lt_of_heap A1.out)
  have nI1I2 := Lib.hid (lt_of_heap I1.out)
  have B3 := Lib.hid (((B2.out).alloc (B2.out.size) _).trans (hb3.mono (by have := B2.out.size; first | assumption | (simp <;> omega) | (simp; done))))
  replace A1 := Lib.hid (row_call hb3 (row_alloc A1.out _))
  replace I1 := Lib.hid (row_call hb3 (row_alloc I1.out _))
  have I2 := Lib.hid (row_call hb3 (heap_alloc_new _ _))
  clear hb3
  have A1_0 : V3.cell? ⟨w.heap.size, 0, none⟩ = some (.int .i64 s) := cell_of_row _ _ _ _ _ _ A1.out
  have A1_1 : V3.cell? ⟨w.heap.size, 1, none⟩ = some (.int .i64 n) := cell_of_row _ _ _ _ _ _ A1.out
  have I1_0 : V3.cell? ⟨V1.heap.size, 0, none⟩ = some (.int .i64 S1) := cell_of_row _ _ _ _ _ _ I1.out
  have I1_1 : V3.cell? ⟨V1.heap.size, 1, none⟩ = some (.int .i64 N1) := cell_of_row _ _ _ _ _ _ I1.out
  have I2_0 : V3.cell? ⟨V2.heap.size, 0, none⟩ = some (.int .i64 S1) := cell_of_row _ _ _ _ _ _ I2.out
  have I2_1 : V3.cell? ⟨V2.heap.size, 1, none⟩ = some (.int .i64 N1) := cell_of_row _ _ _ _ _ _ I2.out
  have zA1 := lt_of_heap A1.out
  have zI1 := lt_of_heap I1.out
  have zI2 := lt_of_heap I2.out
  go_simp
  go_wp2_with fail
  refine (H4.out _).mono ?_
  rintro e V4 ⟨rfl, hb4⟩
  clear A1_0 A1_1 zA1 I1_0 I1_1 zI1 I2_0 I2_1 zI2
  have nA1I3 := Lib.hid (lt_of_heap A1.out)
  have nI1I3 := Lib.hid (lt_of_heap I1.out)
  have nI2I3 := Lib.hid (lt_of_heap I2.out)
  have B4 := Lib.hid (((B3.out).alloc (B3.out.size) _).trans (hb4.mono (by have := B3.out.size; first | assumption | (simp <;> omega) | (simp; done))))
  replace A1 := Lib.hid (row_call hb4 (row_alloc A1.out _))
  replace I1 := Lib.hid (row_call hb4 (row_alloc I1.out _))
  replace I2 := Lib.hid (row_call hb4 (row_alloc I2.out _))
  have I3 := Lib.hid (row_call hb4 (heap_alloc_new _ _))
  clear hb4
  have A1_0 : V4.cell? ⟨w.heap.size, 0, none⟩ = some (.int .i64 s) := cell_of_row _ _ _ _ _ _ A1.out
  have A1_1 : V4.cell? ⟨w.heap.size, 1, none⟩ = some (.int .i64 n) := cell_of_row _ _ _ _ _ _ A1.out
  have I1_0 : V4.cell? ⟨V1.heap.size, 0, none⟩ = some (.int .i64 S1) := cell_of_row _ _ _ _ _ _ I1.out
  have I1_1 : V4.cell? ⟨V1.heap.size, 1, none⟩ = some (.int .i64 N1) := cell_of_row _ _ _ _ _ _ I1.out
  have I2_0 : V4.cell? ⟨V2.heap.size, 0, none⟩ = some (.int .i64 S1) := cell_of_row _ _ _ _ _ _ I2.out
  have I2_1 : V4.cell? ⟨V2.heap.size, 1, none⟩ = some (.int .i64 N1) := cell_of_row _ _ _ _ _ _ I2.out
  have I3_0 : V4.cell? ⟨V3.heap.size, 0, none⟩ = some (.int .i64 S2) := cell_of_row _ _ _ _ _ _ I3.out
  have I3_1 : V4.cell? ⟨V3.heap.size, 1, none⟩ = some (.int .i64 N2) := cell_of_row _ _ _ _ _ _ I3.out
  have zA1 := lt_of_heap A1.out
  have zI1 := lt_of_heap I1.out
  have zI2 := lt_of_heap I2.out
  have zI3 := lt_of_heap I3.out
  go_simp
  go_wp2_with fail
  refine (H9.out _).mono ?_
  rintro e V5 ⟨rfl, hb5⟩
  clear A1_0 A1_1 zA1 I1_0 I1_1 zI1 I2_0 I2_1 zI2 I3_0 I3_1 zI3
  have nA1I4 := Lib.hid (lt_of_heap A1.out)
  have nI1I4 := Lib.hid (lt_of_heap I1.out)
  have nI2I4 := Lib.hid (lt_of_heap I2.out)
  have nI3I4 := Lib.hid (lt_of_heap I3.out)
  have B5 := Lib.hid (((B4.out).alloc (B4.out.size) _).trans (hb5.mono (by have := B4.out.size; first | assumption | (simp <;> omega) | (simp; done))))
  replace A1 := Lib.hid (row_call hb5 (row_alloc A1.out _))
  replace I1 := Lib.hid (row_call hb5 (row_alloc I1.out _))
  replace I2 := Lib.hid (row_call hb5 (row_alloc I2.out _))
  replace I3 := Lib.hid (row_call hb5 (row_alloc I3.out _))
  have I4 := Lib.hid (row_call hb5 (heap_alloc_new _ _))
  clear hb5
  have A1_0 : V5.cell? ⟨w.heap.size, 0, none⟩ = some (.int .i64 s) := cell_of_row _ _ _ _ _ _ A1.out
  have A1_1 : V5.cell? ⟨w.heap.size, 1, none⟩ = some (.int .i64 n) := cell_of_row _ _ _ _ _ _ A1.out
  have I1_0 : V5.cell? ⟨V1.heap.size, 0, none⟩ = some (.int .i64 S1) := cell_of_row _ _ _ _ _ _ I1.out
  have I1_1 : V5.cell? ⟨V1.heap.size, 1, none⟩ = some (.int .i64 N1) := cell_of_row _ _ _ _ _ _ I1.out
  have I2_0 : V5.cell? ⟨V2.heap.size, 0, none⟩ = some (.int .i64 S1) := cell_of_row _ _ _ _ _ _ I2.out
  have I2_1 : V5.cell? ⟨V2.heap.size, 1, none⟩ = some (.int .i64 N1) := cell_of_row _ _ _ _ _ _ I2.out
  have I3_0 : V5.cell? ⟨V3.heap.size, 0, none⟩ = some (.int .i64 S2) := cell_of_row _ _ _ _ _ _ I3.out
  have I3_1 : V5.cell? ⟨V3.heap.size, 1, none⟩ = some (.int .i64 N2) := cell_of_row _ _ _ _ _ _ I3.out
  have I4_0 : V5.cell? ⟨V4.heap.size, 0, none⟩ = some (.int .i64 S2) := cell_of_row _ _ _ _ _ _ I4.out
  have I4_1 : V5.cell? ⟨V4.heap.size, 1, none⟩ = some (.int .i64 N2) := cell_of_row _ _ _ _ _ _ I4.out
  have zA1 := lt_of_heap A1.out
  have zI1 := lt_of_heap I1.out
  have zI2 := lt_of_heap I2.out
  have zI3 := lt_of_heap I3.out
  have zI4 := lt_of_heap I4.out
  go_simp
  go_wp2
  go_ret
  exact ⟨rfl, by first | exact B5.out | exact B5.out.alloc B5.out.size _⟩
set_option maxHeartbeats 6400000 in
set_option maxRecDepth 100000 in
theorem durNanos_walk (s n : Int) (h l : Nat) (bs : in64 s) (bn : in64 n) (u : U h) (v : U l) (w : World) :
    Calls Try.prog 6 #[.agg #[.int .i64 s, .int .i64 n], .agg #[.int .u64 h, .int .u64 l]] w fun e w' => e = .returned (.bool true) ∧ Below w.heap.size w w' := by
  obtain ⟨x, ix, ex1, ex2⟩ : ∃ x, in128 x ∧ zh x = h ∧ zl x = l := ⟨sz h l, sz_in h l u v, zh_sz h l u v, zl_sz h l u v⟩
  subst ex1 ex2
  have X1 := dNanos_any s n
  have X2 := rdNanos_any s n
  have H3 := Lib.hid (dOfNanos_any x ix)
  have H4 := Lib.hid (rdOf_any x ix)
  have H6 := Lib.hid awake4_any
  generalize duS x = S at *
  generalize duN x = N at *
  generalize duE x = E at *
  by_cases hc : ckD s n = 0
  · obtain ⟨t1, t2, t3⟩ := dd_self hc
    rw [show nnD s n = nanos s n from if_pos hc, hc] at X1 X2
    have X5 := dOfNanos_any (nanos s n) (nnD_in hc).2.2
    rw [t1, t2, t3] at X5
    have H1 := Lib.hid X1
    have H2 := Lib.hid X2
    have H5 := Lib.hid X5
    clear X1 X2 X5 t1 t2 t3 hc ix u v bs bn
    generalize nanos s n = T at *
    generalize zh x = xh at *
    generalize zl x = xl at *
    generalize zh T = th at *
    generalize zl T = tl at *
    go_enter Try.func6, Try.ntmps6
    go_wp2_with fail
    
    refine (H1.out _).mono ?_
    rintro e V1 ⟨rfl, hb1⟩
    have B1 := Lib.hid ((((Below.refl w.heap.size w).alloc (Nat.le_refl _) _).alloc (by simp <;> omega) _).trans (hb1.mono (by first | assumption | (simp <;> omega) | (simp; done))))
    have A1 := Lib.hid (row_call hb1 (row_alloc (heap_alloc_new _ _) _))
    have D1 := Lib.hid (row_at (k' := w.heap.size + 1) (by simp) (row_call hb1 (heap_alloc_new _ _)))
    clear hb1
    have A1_0 : V1.cell? ⟨w.heap.size, 0, none⟩ = some (.int .i64 s) := cell_of_row _ _ _ _ _ _ A1.out
    have A1_1 : V1.cell? ⟨w.heap.size, 1, none⟩ = some (.int .i64 n) := cell_of_row _ _ _ _ _ _ A1.out
    have D1_0 : V1.cell? ⟨w.heap.size + 1, 0, none⟩ = some (.int .u64 xh) := cell_of_row _ _ _ _ _ _ D1.out
    have D1_1 : V1.cell? ⟨w.heap.size + 1, 1, none⟩ = some (.int .u64 xl) := cell_of_row _ _ _ _ _ _ D1.out
    have zA1 := lt_of_heap A1.out
    have zD1 := lt_of_heap D1.out
    go_simp
    go_wp2_with fail
    refine (H2.out _).mono ?_
    rintro e V2 ⟨rfl, hb2⟩
    clear A1_0 A1_1 zA1 D1_0 D1_1 zD1
    have nA1P1 := Lib.hid (lt_of_heap A1.out)
    have nD1P1 := Lib.hid (lt_of_heap D1.out)
    have B2 := Lib.hid (((B1.out).alloc (B1.out.size) _).trans (hb2.mono (by have := B1.out.size; first | assumption | (simp <;> omega) | (simp; done))))
    replace A1 := Lib.hid (row_call hb2 (row_alloc A1.out _))
    replace D1 := Lib.hid (row_call hb2 (row_alloc D1.out _))
    have P1 := Lib.hid (row_call hb2 (heap_alloc_new _ _))
    clear hb2
    have A1_0 : V2.cell? ⟨w.heap.size, 0, none⟩ = some (.int .i64 s) := cell_of_row _ _ _ _ _ _ A1.out
    have A1_1 : V2.cell? ⟨w.heap.size, 1, none⟩ = some (.int .i64 n) := cell_of_row _ _ _ _ _ _ A1.out
    have D1_0 : V2.cell? ⟨w.heap.size + 1, 0, none⟩ = some (.int .u64 xh) := cell_of_row _ _ _ _ _ _ D1.out
    have D1_1 : V2.cell? ⟨w.heap.size + 1, 1, none⟩ = some (.int .u64 xl) := cell_of_row _ _ _ _ _ _ D1.out
    have P1_0 : V2.cell? ⟨V1.heap.size, 0, none⟩ = some (.int .u64 th) := cell_of_row _ _ _ _ _ _ P1.out
    have P1_1 : V2.cell? ⟨V1.heap.size, 1, none⟩ = some (.int .u64 tl) := cell_of_row _ _ _ _ _ _ P1.out
    have zA1 := lt_of_heap A1.out
    have zD1 := lt_of_heap D1.out
    have zP1 := lt_of_heap P1.out
    go_simp
    go_wp2_with fail
    refine (H3.out _).mono ?_
    rintro e V3 ⟨rfl, hb3⟩
    clear A1_0 A1_1 zA1 D1_0 D1_1 zD1 P1_0 P1_1 zP1
    have nA1Q1 := Lib.hid (lt_of_heap A1.out)
    have nD1Q1 := Lib.hid (lt_of_heap D1.out)
    have nP1Q1 := Lib.hid (lt_of_heap P1.out)
    have B3 := Lib.hid (((B2.out).alloc (B2.out.size) _).trans (hb3.mono (by have := B2.out.size; first | assumption | (simp <;> omega) | (simp; done))))
    replace A1 := Lib.hid (row_call hb3 (row_alloc A1.out _))
    replace D1 := Lib.hid (row_call hb3 (row_alloc D1.out _))
    replace P1 := Lib.hid (row_call hb3 (row_alloc P1.out _))
    have Q1 := Lib.hid (row_call hb3 (heap_alloc_new _ _))
    clear hb3
    have A1_0 : V3.cell? ⟨w.heap.size, 0, none⟩ = some (.int .i64 s) := cell_of_row _ _ _ _ _ _ A1.out
    have A1_1 : V3.cell? ⟨w.heap.size, 1, none⟩ = some (.int .i64 n) := cell_of_row _ _ _ _ _ _ A1.out
    have D1_0 : V3.cell? ⟨w.heap.size + 1, 0, none⟩ = some (.int .u64 xh) := cell_of_row _ _ _ _ _ _ D1.out
    have D1_1 : V3.cell? ⟨w.heap.size + 1, 1, none⟩ = some (.int .u64 xl) := cell_of_row _ _ _ _ _ _ D1.out
    have P1_0 : V3.cell? ⟨V1.heap.size, 0, none⟩ = some (.int .u64 th) := cell_of_row _ _ _ _ _ _ P1.out
    have P1_1 : V3.cell? ⟨V1.heap.size, 1, none⟩ = some (.int .u64 tl) := cell_of_row _ _ _ _ _ _ P1.out
    have Q1_0 : V3.cell? ⟨V2.heap.size, 0, none⟩ = some (.int .u64 th) := cell_of_row _ _ _ _ _ _ Q1.out
    have Q1_1 : V3.cell? ⟨V2.heap.size, 1, none⟩ = some (.int .u64 tl) := cell_of_row _ _ _ _ _ _ Q1.out
    have zA1 := lt_of_heap A1.out
    have zD1 := lt_of_heap D1.out
    have zP1 := lt_of_heap P1.out
    have zQ1 := lt_of_heap Q1.out
    go_simp
    go_wp2_with fail
    refine (H4.out _).mono ?_
    rintro e V4 ⟨rfl, hb4⟩
    clear A1_0 A1_1 zA1 D1_0 D1_1 zD1 P1_0 P1_1 zP1 Q1_0 Q1_1 zQ1
    have nA1I1 := Lib.hid (lt_of_heap A1.out)
    have nD1I1 := Lib.hid (lt_of_heap D1.out)
    have nP1I1 := Lib.hid (lt_of_heap P1.out)
    have nQ1I1 := Lib.hid (lt_of_heap Q1.out)
    have B4 := Lib.hid (((B3.out).alloc (B3.out.size) _).trans (hb4.mono (by have := B3.out.size; first | assumption | (simp <;> omega) | (simp; done))))
    replace A1 := Lib.hid (row_call hb4 (row_alloc A1.out _))
    replace D1 := Lib.hid (row_call hb4 (row_alloc D1.out _))
    replace P1 := Lib.hid (row_call hb4 (row_alloc P1.out _))
    replace Q1 := Lib.hid (row_call hb4 (row_alloc Q1.out _))
    have I1 := Lib.hid (row_call hb4 (heap_alloc_new _ _))
    clear hb4
    have A1_0 : V4.cell? ⟨w.heap.size, 0, none⟩ = some (.int .i64 s) := cell_of_row _ _ _ _ _ _ A1.out
    have A1_1 : V4.cell? ⟨w.heap.size, 1, none⟩ = some (.int .i64 n) := cell_of_row _ _ _ _ _ _ A1.out
    have D1_0 : V4.cell? ⟨w.heap.size + 1, 0, none⟩ = some (.int .u64 xh) := cell_of_row _ _ _ _ _ _ D1.out
    have D1_1 : V4.cell? ⟨w.heap.size + 1, 1, none⟩ = some (.int .u64 xl) := cell_of_row _ _ _ _ _ _ D1.out
    have P1_0 : V4.cell? ⟨V1.heap.size, 0, none⟩ = some (.int .u64 th) := cell_of_row _ _ _ _ _ _ P1.out
    have P1_1 : V4.cell? ⟨V1.heap.size, 1, none⟩ = some (.int .u64 tl) := cell_of_row _ _ _ _ _ _ P1.out
    have Q1_0 : V4.cell? ⟨V2.heap.size, 0, none⟩ = some (.int .u64 th) := cell_of_row _ _ _ _ _ _ Q1.out
    have Q1_1 : V4.cell? ⟨V2.heap.size, 1, none⟩ = some (.int .u64 tl) := cell_of_row _ _ _ _ _ _ Q1.out
    have I1_0 : V4.cell? ⟨V3.heap.size, 0, none⟩ = some (.int .i64 S) := cell_of_row _ _ _ _ _ _ I1.out
    have I1_1 : V4.cell? ⟨V3.heap.size, 1, none⟩ = some (.int .i64 N) := cell_of_row _ _ _ _ _ _ I1.out
    have zA1 := lt_of_heap A1.out
    have zD1 := lt_of_heap D1.out
    have zP1 := lt_of_heap P1.out
    have zQ1 := lt_of_heap Q1.out
    have zI1 := lt_of_heap I1.out
    go_simp
    go_wp2_with fail
    refine (H5.out _).mono ?_
    rintro e V5 ⟨rfl, hb5⟩
    clear A1_0 A1_1 zA1 D1_0 D1_1 zD1 P1_0 P1_1 zP1 Q1_0 Q1_1 zQ1 I1_0 I1_1 zI1
    have nA1J1 := Lib.hid (lt_of_heap A1.out)
    have nD1J1 := Lib.hid (lt_of_heap D1.out)
    have nP1J1 := Lib.hid (lt_of_heap P1.out)
    have nQ1J1 := Lib.hid (lt_of_heap Q1.out)
    have nI1J1 := Lib.hid (lt_of_heap I1.out)
    have B5 := Lib.hid (((B4.out).alloc (B4.out.size) _).trans (hb5.mono (by have := B4.out.size; first | assumption | (simp <;> omega) | (simp; done))))
    replace A1 := Lib.hid (row_call hb5 (row_alloc A1.out _))
    replace D1 := Lib.hid (row_call hb5 (row_alloc D1.out _))
    replace P1 := Lib.hid (row_call hb5 (row_alloc P1.out _))
    replace Q1 := Lib.hid (row_call hb5 (row_alloc Q1.out _))
    replace I1 := Lib.hid (row_call hb5 (row_alloc I1.out _))
    have J1 := Lib.hid (row_call hb5 (heap_alloc_new _ _))
    clear hb5
    have A1_0 : V5.cell? ⟨w.heap.size, 0, none⟩ = some (.int .i64 s) := cell_of_row _ _ _ _ _ _ A1.out
    have A1_1 : V5.cell? ⟨w.heap.size, 1, none⟩ = some (.int .i64 n) := cell_of_row _ _ _ _ _ _ A1.out
    have D1_0 : V5.cell? ⟨w.heap.size + 1, 0, none⟩ = some (.int .u64 xh) := cell_of_row _ _ _ _ _ _ D1.out
    have D1_1 : V5.cell? ⟨w.heap.size + 1, 1, none⟩ = some (.int .u64 xl) := cell_of_row _ _ _ _ _ _ D1.out
    have P1_0 : V5.cell? ⟨V1.heap.size, 0, none⟩ = some (.int .u64 th) := cell_of_row _ _ _ _ _ _ P1.out
    have P1_1 : V5.cell? ⟨V1.heap.size, 1, none⟩ = some (.int .u64 tl) := cell_of_row _ _ _ _ _ _ P1.out
    have Q1_0 : V5.cell? ⟨V2.heap.size, 0, none⟩ = some (.int .u64 th) := cell_of_row _ _ _ _ _ _ Q1.out
    have Q1_1 : V5.cell? ⟨V2.heap.size, 1, none⟩ = some (.int .u64 tl) := cell_of_row _ _ _ _ _ _ Q1.out
    have I1_0 : V5.cell? ⟨V3.heap.size, 0, none⟩ = some (.int .i64 S) := cell_of_row _ _ _ _ _ _ I1.out
    have I1_1 : V5.cell? ⟨V3.heap.size, 1, none⟩ = some (.int .i64 N) := cell_of_row _ _ _ _ _ _ I1.out
    have J1_0 : V5.cell? ⟨V4.heap.size, 0, none⟩ = some (.int .i64 S) := cell_of_row _ _ _ _ _ _ J1.out
    have J1_1 : V5.cell? ⟨V4.heap.size, 1, none⟩ = some (.int .i64 N) := cell_of_row _ _ _ _ _ _ J1.out
    have zA1 := lt_of_heap A1.out
    have zD1 := lt_of_heap D1.out
    have zP1 := lt_of_heap P1.out
    have zQ1 := lt_of_heap Q1.out
    have zI1 := lt_of_heap I1.out
    have zJ1 := lt_of_heap J1.out
    go_simp
    go_wp2_with fail
    refine (H6.out _).mono ?_
    rintro e V6 ⟨rfl, hb6⟩
    clear A1_0 A1_1 zA1 D1_0 D1_1 zD1 P1_0 P1_1 zP1 Q1_0 Q1_1 zQ1 I1_0 I1_1 zI1 J1_0 J1_1 zJ1
    have nA1K1 := Lib.hid (lt_of_heap A1.out)
    have nD1K1 := Lib.hid (lt_of_heap D1.out)
    have nP1K1 := Lib.hid (lt_of_heap P1.out)
    have nQ1K1 := Lib.hid (lt_of_heap Q1.out)
    have nI1K1 := Lib.hid (lt_of_heap I1.out)
    have nJ1K1 := Lib.hid (lt_of_heap J1.out)
    have B6 := Lib.hid (((B5.out).alloc (B5.out.size) _).trans (hb6.mono (by have := B5.out.size; first | assumption | (simp <;> omega) | (simp; done))))
    replace A1 := Lib.hid (row_call hb6 (row_alloc A1.out _))
    replace D1 := Lib.hid (row_call hb6 (row_alloc D1.out _))
    replace P1 := Lib.hid (row_call hb6 (row_alloc P1.out _))
    replace Q1 := Lib.hid (row_call hb6 (row_alloc Q1.out _))
    replace I1 := Lib.hid (row_call hb6 (row_alloc I1.out _))
    replace J1 := Lib.hid (row_call hb6 (row_alloc J1.out _))
    have K1 := Lib.hid (row_call hb6 (heap_alloc_new _ _))
    clear hb6
    have A1_0 : V6.cell? ⟨w.heap.size, 0, none⟩ = some (.int .i64 s) := cell_of_row _ _ _ _ _ _ A1.out
    have A1_1 : V6.cell? ⟨w.heap.size, 1, none⟩ = some (.int .i64 n) := cell_of_row _ _ _ _ _ _ A1.out
    have D1_0 : V6.cell? ⟨w.heap.size + 1, 0, none⟩ = some (.int .u64 xh) := cell_of_row _ _ _ _ _ _ D1.out
    have D1_1 : V6.cell? ⟨w.heap.size + 1, 1, none⟩ = some (.int .u64 xl) := cell_of_row _ _ _ _ _ _ D1.out
    have P1_0 : V6.cell? ⟨V1.heap.size, 0, none⟩ = some (.int .u64 th) := cell_of_row _ _ _ _ _ _ P1.out
    have P1_1 : V6.cell? ⟨V1.heap.size, 1, none⟩ = some (.int .u64 tl) := cell_of_row _ _ _ _ _ _ P1.out
    have Q1_0 : V6.cell? ⟨V2.heap.size, 0, none⟩ = some (.int .u64 th) := cell_of_row _ _ _ _ _ _ Q1.out
    have Q1_1 : V6.cell? ⟨V2.heap.size, 1, none⟩ = some (.int .u64 tl) := cell_of_row _ _ _ _ _ _ Q1.out
    have I1_0 : V6.cell? ⟨V3.heap.size, 0, none⟩ = some (.int .i64 S) := cell_of_row _ _ _ _ _ _ I1.out
    have I1_1 : V6.cell? ⟨V3.heap.size, 1, none⟩ = some (.int .i64 N) := cell_of_row _ _ _ _ _ _ I1.out
    have J1_0 : V6.cell? ⟨V4.heap.size, 0, none⟩ = some (.int .i64 S) := cell_of_row _ _ _ _ _ _ J1.out
    have J1_1 : V6.cell? ⟨V4.heap.size, 1, none⟩ = some (.int .i64 N) := cell_of_row _ _ _ _ _ _ J1.out
    have K1_0 : V6.cell? ⟨V5.heap.size, 0, none⟩ = some (.int .i64 s) := cell_of_row _ _ _ _ _ _ K1.out
    have K1_1 : V6.cell? ⟨V5.heap.size, 1, none⟩ = some (.int .i64 n) := cell_of_row _ _ _ _ _ _ K1.out
    have zA1 := lt_of_heap A1.out
    have zD1 := lt_of_heap D1.out
    have zP1 := lt_of_heap P1.out
    have zQ1 := lt_of_heap Q1.out
    have zI1 := lt_of_heap I1.out
    have zJ1 := lt_of_heap J1.out
    have zK1 := lt_of_heap K1.out
    go_simp
    go_wp2
    go_ret
    exact ⟨rfl, by first | exact B6.out | exact B6.out.alloc B6.out.size _⟩
  · have H1 := Lib.hid X1
    have H2 := Lib.hid X2
    clear X1 X2 ix u v bs bn
    generalize nnD s n = T at *
    generalize zh x = xh at *
    generalize zl x = xl at *
    generalize zh T = th at *
    generalize zl T = tl at *
    generalize ckD s n = F at *
    have f1 : (F == 0) = false := by rw [beq_eq_false_iff_ne]; exact hc
    go_enter Try.func6, Try.ntmps6
    go_wp2_with fail
    
    refine (H1.out _).mono ?_
    rintro e V1 ⟨rfl, hb1⟩
    have B1 := Lib.hid ((((Below.refl w.heap.size w).alloc (Nat.le_refl _) _).alloc (by simp <;> omega) _).trans (hb1.mono (by first | assumption | (simp <;> omega) | (simp; done))))
    have A1 := Lib.hid (row_call hb1 (row_alloc (heap_alloc_new _ _) _))
    have D1 := Lib.hid (row_at (k' := w.heap.size + 1) (by simp) (row_call hb1 (heap_alloc_new _ _)))
    clear hb1
    have A1_0 : V1.cell? ⟨w.heap.size, 0, none⟩ = some (.int .i64 s) := cell_of_row _ _ _ _ _ _ A1.out
    have A1_1 : V1.cell? ⟨w.heap.size, 1, none⟩ = some (.int .i64 n) := cell_of_row _ _ _ _ _ _ A1.out
    have D1_0 : V1.cell? ⟨w.heap.size + 1, 0, none⟩ = some (.int .u64 xh) := cell_of_row _ _ _ _ _ _ D1.out
    have D1_1 : V1.cell? ⟨w.heap.size + 1, 1, none⟩ = some (.int .u64 xl) := cell_of_row _ _ _ _ _ _ D1.out
    have zA1 := lt_of_heap A1.out
    have zD1 := lt_of_heap D1.out
    go_simp
    go_wp2_with fail
    refine (H2.out _).mono ?_
    rintro e V2 ⟨rfl, hb2⟩
    clear A1_0 A1_1 zA1 D1_0 D1_1 zD1
    have nA1P1 := Lib.hid (lt_of_heap A1.out)
    have nD1P1 := Lib.hid (lt_of_heap D1.out)
    have B2 := Lib.hid (((B1.out).alloc (B1.out.size) _).trans (hb2.mono (by have := B1.out.size; first | assumption | (simp <;> omega) | (simp; done))))
    replace A1 := Lib.hid (row_call hb2 (row_alloc A1.out _))
    replace D1 := Lib.hid (row_call hb2 (row_alloc D1.out _))
    have P1 := Lib.hid (row_call hb2 (heap_alloc_new _ _))
    clear hb2
    have A1_0 : V2.cell? ⟨w.heap.size, 0, none⟩ = some (.int .i64 s) := cell_of_row _ _ _ _ _ _ A1.out
    have A1_1 : V2.cell? ⟨w.heap.size, 1, none⟩ = some (.int .i64 n) := cell_of_row _ _ _ _ _ _ A1.out
    have D1_0 : V2.cell? ⟨w.heap.size + 1, 0, none⟩ = some (.int .u64 xh) := cell_of_row _ _ _ _ _ _ D1.out
    have D1_1 : V2.cell? ⟨w.heap.size + 1, 1, none⟩ = some (.int .u64 xl) := cell_of_row _ _ _ _ _ _ D1.out
    have P1_0 : V2.cell? ⟨V1.heap.size, 0, none⟩ = some (.int .u64 th) := cell_of_row _ _ _ _ _ _ P1.out
    have P1_1 : V2.cell? ⟨V1.heap.size, 1, none⟩ = some (.int .u64 tl) := cell_of_row _ _ _ _ _ _ P1.out
    have zA1 := lt_of_heap A1.out
    have zD1 := lt_of_heap D1.out
    have zP1 := lt_of_heap P1.out
    go_simp
    go_wp2_with fail
    refine (H3.out _).mono ?_
    rintro e V3 ⟨rfl, hb3⟩
    clear A1_0 A1_1 zA1 D1_0 D1_1 zD1 P1_0 P1_1 zP1
    have nA1Q1 := Lib.hid (lt_of_heap A1.out)
    have nD1Q1 := Lib.hid (lt_of_heap D1.out)
    have nP1Q1 := Lib.hid (lt_of_heap P1.out)
    have B3 := Lib.hid (((B2.out).alloc (B2.out.size) _).trans (hb3.mono (by have := B2.out.size; first | assumption | (simp <;> omega) | (simp; done))))
    replace A1 := Lib.hid (row_call hb3 (row_alloc A1.out _))
    replace D1 := Lib.hid (row_call hb3 (row_alloc D1.out _))
    replace P1 := Lib.hid (row_call hb3 (row_alloc P1.out _))
    have Q1 := Lib.hid (row_call hb3 (heap_alloc_new _ _))
    clear hb3
    have A1_0 : V3.cell? ⟨w.heap.size, 0, none⟩ = some (.int .i64 s) := cell_of_row _ _ _ _ _ _ A1.out
    have A1_1 : V3.cell? ⟨w.heap.size, 1, none⟩ = some (.int .i64 n) := cell_of_row _ _ _ _ _ _ A1.out
    have D1_0 : V3.cell? ⟨w.heap.size + 1, 0, none⟩ = some (.int .u64 xh) := cell_of_row _ _ _ _ _ _ D1.out
    have D1_1 : V3.cell? ⟨w.heap.size + 1, 1, none⟩ = some (.int .u64 xl) := cell_of_row _ _ _ _ _ _ D1.out
    have P1_0 : V3.cell? ⟨V1.heap.size, 0, none⟩ = some (.int .u64 th) := cell_of_row _ _ _ _ _ _ P1.out
    have P1_1 : V3.cell? ⟨V1.heap.size, 1, none⟩ = some (.int .u64 tl) := cell_of_row _ _ _ _ _ _ P1.out
    have Q1_0 : V3.cell? ⟨V2.heap.size, 0, none⟩ = some (.int .u64 th) := cell_of_row _ _ _ _ _ _ Q1.out
    have Q1_1 : V3.cell? ⟨V2.heap.size, 1, none⟩ = some (.int .u64 tl) := cell_of_row _ _ _ _ _ _ Q1.out
    have zA1 := lt_of_heap A1.out
    have zD1 := lt_of_heap D1.out
    have zP1 := lt_of_heap P1.out
    have zQ1 := lt_of_heap Q1.out
    go_simp
    go_wp2_with fail
    refine (H4.out _).mono ?_
    rintro e V4 ⟨rfl, hb4⟩
    clear A1_0 A1_1 zA1 D1_0 D1_1 zD1 P1_0 P1_1 zP1 Q1_0 Q1_1 zQ1
    have nA1I1 := Lib.hid (lt_of_heap A1.out)
    have nD1I1 := Lib.hid (lt_of_heap D1.out)
    have nP1I1 := Lib.hid (lt_of_heap P1.out)
    have nQ1I1 := Lib.hid (lt_of_heap Q1.out)
    have B4 := Lib.hid (((B3.out).alloc (B3.out.size) _).trans (hb4.mono (by have := B3.out.size; first | assumption | (simp <;> omega) | (simp; done))))
    replace A1 := Lib.hid (row_call hb4 (row_alloc A1.out _))
    replace D1 := Lib.hid (row_call hb4 (row_alloc D1.out _))
    replace P1 := Lib.hid (row_call hb4 (row_alloc P1.out _))
    replace Q1 := Lib.hid (row_call hb4 (row_alloc Q1.out _))
    have I1 := Lib.hid (row_call hb4 (heap_alloc_new _ _))
    clear hb4
    have A1_0 : V4.cell? ⟨w.heap.size, 0, none⟩ = some (.int .i64 s) := cell_of_row _ _ _ _ _ _ A1.out
    have A1_1 : V4.cell? ⟨w.heap.size, 1, none⟩ = some (.int .i64 n) := cell_of_row _ _ _ _ _ _ A1.out
    have D1_0 : V4.cell? ⟨w.heap.size + 1, 0, none⟩ = some (.int .u64 xh) := cell_of_row _ _ _ _ _ _ D1.out
    have D1_1 : V4.cell? ⟨w.heap.size + 1, 1, none⟩ = some (.int .u64 xl) := cell_of_row _ _ _ _ _ _ D1.out
    have P1_0 : V4.cell? ⟨V1.heap.size, 0, none⟩ = some (.int .u64 th) := cell_of_row _ _ _ _ _ _ P1.out
    have P1_1 : V4.cell? ⟨V1.heap.size, 1, none⟩ = some (.int .u64 tl) := cell_of_row _ _ _ _ _ _ P1.out
    have Q1_0 : V4.cell? ⟨V2.heap.size, 0, none⟩ = some (.int .u64 th) := cell_of_row _ _ _ _ _ _ Q1.out
    have Q1_1 : V4.cell? ⟨V2.heap.size, 1, none⟩ = some (.int .u64 tl) := cell_of_row _ _ _ _ _ _ Q1.out
    have I1_0 : V4.cell? ⟨V3.heap.size, 0, none⟩ = some (.int .i64 S) := cell_of_row _ _ _ _ _ _ I1.out
    have I1_1 : V4.cell? ⟨V3.heap.size, 1, none⟩ = some (.int .i64 N) := cell_of_row _ _ _ _ _ _ I1.out
    have zA1 := lt_of_heap A1.out
    have zD1 := lt_of_heap D1.out
    have zP1 := lt_of_heap P1.out
    have zQ1 := lt_of_heap Q1.out
    have zI1 := lt_of_heap I1.out
    go_simp
    go_wp2_with fail
    refine (H6.out _).mono ?_
    rintro e V5 ⟨rfl, hb5⟩
    clear A1_0 A1_1 zA1 D1_0 D1_1 zD1 P1_0 P1_1 zP1 Q1_0 Q1_1 zQ1 I1_0 I1_1 zI1
    have nA1J1 := Lib.hid (lt_of_heap A1.out)
    have nD1J1 := Lib.hid (lt_of_heap D1.out)
    have nP1J1 := Lib.hid (lt_of_heap P1.out)
    have nQ1J1 := Lib.hid (lt_of_heap Q1.out)
    have nI1J1 := Lib.hid (lt_of_heap I1.out)
    have B5 := Lib.hid (((B4.out).alloc (B4.out.size) _).trans (hb5.mono (by have := B4.out.size; first | assumption | (simp <;> omega) | (simp; done))))
    replace A1 := Lib.hid (row_call hb5 (row_alloc A1.out _))
    replace D1 := Lib.hid (row_call hb5 (row_alloc D1.out _))
    replace P1 := Lib.hid (row_call hb5 (row_alloc P1.out _))
    replace Q1 := Lib.hid (row_call hb5 (row_alloc Q1.out _))
    replace I1 := Lib.hid (row_call hb5 (row_alloc I1.out _))
    have J1 := Lib.hid (row_call hb5 (heap_alloc_new _ _))
    clear hb5
    have A1_0 : V5.cell? ⟨w.heap.size, 0, none⟩ = some (.int .i64 s) := cell_of_row _ _ _ _ _ _ A1.out
    have A1_1 : V5.cell? ⟨w.heap.size, 1, none⟩ = some (.int .i64 n) := cell_of_row _ _ _ _ _ _ A1.out
    have D1_0 : V5.cell? ⟨w.heap.size + 1, 0, none⟩ = some (.int .u64 xh) := cell_of_row _ _ _ _ _ _ D1.out
    have D1_1 : V5.cell? ⟨w.heap.size + 1, 1, none⟩ = some (.int .u64 xl) := cell_of_row _ _ _ _ _ _ D1.out
    have P1_0 : V5.cell? ⟨V1.heap.size, 0, none⟩ = some (.int .u64 th) := cell_of_row _ _ _ _ _ _ P1.out
    have P1_1 : V5.cell? ⟨V1.heap.size, 1, none⟩ = some (.int .u64 tl) := cell_of_row _ _ _ _ _ _ P1.out
    have Q1_0 : V5.cell? ⟨V2.heap.size, 0, none⟩ = some (.int .u64 th) := cell_of_row _ _ _ _ _ _ Q1.out
    have Q1_1 : V5.cell? ⟨V2.heap.size, 1, none⟩ = some (.int .u64 tl) := cell_of_row _ _ _ _ _ _ Q1.out
    have I1_0 : V5.cell? ⟨V3.heap.size, 0, none⟩ = some (.int .i64 S) := cell_of_row _ _ _ _ _ _ I1.out
    have I1_1 : V5.cell? ⟨V3.heap.size, 1, none⟩ = some (.int .i64 N) := cell_of_row _ _ _ _ _ _ I1.out
    have J1_0 : V5.cell? ⟨V4.heap.size, 0, none⟩ = some (.int .i64 S) := cell_of_row _ _ _ _ _ _ J1.out
    have J1_1 : V5.cell? ⟨V4.heap.size, 1, none⟩ = some (.int .i64 N) := cell_of_row _ _ _ _ _ _ J1.out
    have zA1 := lt_of_heap A1.out
    have zD1 := lt_of_heap D1.out
    have zP1 := lt_of_heap P1.out
    have zQ1 := lt_of_heap Q1.out
    have zI1 := lt_of_heap I1.out
    have zJ1 := lt_of_heap J1.out
    go_simp
    go_wp2
    go_ret
    exact ⟨rfl, by first | exact B5.out | exact B5.out.alloc B5.out.size _⟩
end Go.Proofs.Ytjgpjphffjjhdaa
