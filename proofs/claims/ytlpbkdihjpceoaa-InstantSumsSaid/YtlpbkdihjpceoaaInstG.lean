/- The walks of the laws of layer 3. -/
import Derived.Test.YtlpbkdihjpceoaaInstF
import Derived.Test.YtlpbkdihjpceoaaEqlW
import Derived.Deep.DrawnRows
namespace Go.Proofs.Ytlpbkdihjpceoaa
set_option linter.unusedVariables false
set_option linter.unusedSimpArgs false
open Go.ChangeShapes Go.WideShapes Go.ChangeAt Go.RowKit

set_option maxHeartbeats 3200000 in
set_option maxRecDepth 100000 in
theorem awake3_any (w : World) : Calls Try.prog 18 #[] w fun e w' => e = .returned (.bool true) ∧ Below w.heap.size w w' := by
  have X1 := new_any 0 (-1) (by unfold in64; omega) (by unfold in64; omega)
  rw [show tkS (-377705116800) 253402300799 (nanos 0 (-1)) = -1 by decide +kernel, show tkN (-377705116800) 253402300799 (nanos 0 (-1)) = 999999999 by decide +kernel, show tkE (-377705116800) 253402300799 (nanos 0 (-1)) = 0 by decide +kernel] at X1
  have X2 := new_any 9223372036854775807 1 (by unfold in64; omega) (by unfold in64; omega)
  rw [show tkS (-377705116800) 253402300799 (nanos 9223372036854775807 1) = 0 by decide +kernel, show tkN (-377705116800) 253402300799 (nanos 9223372036854775807 1) = 0 by decide +kernel, show tkE (-377705116800) 253402300799 (nanos 9223372036854775807 1) = 8 by decide +kernel] at X2
  have X3 := iAdd_any 253402300799 999999999 0 1 (by unfold in64; omega) (by unfold in64; omega) (by unfold in64; omega) (by unfold in64; omega)
  rw [show adS 253402300799 999999999 0 1 = 0 by decide +kernel, show adN 253402300799 999999999 0 1 = 0 by decide +kernel, show adE 253402300799 999999999 0 1 = 8 by decide +kernel] at X3
  have X4 := iSub_any (-377705116800) 0 253402300799 0 (by unfold in64; omega) (by unfold in64; omega) (by unfold in64; omega) (by unfold in64; omega)
  rw [show sbS (-377705116800) 0 253402300799 0 = -631107417599 by decide +kernel, show sbN (-377705116800) 0 253402300799 0 = 0 by decide +kernel, show fsI (ckI (-377705116800) 0) (ckI 253402300799 0) = 0 by decide +kernel] at X4
  have H1 := Lib.hid X1
  have H2 := Lib.hid X2
  have H3 := Lib.hid X3
  have H4 := Lib.hid X4
  clear X1 X2 X3 X4
  go_enter Try.func18, Try.ntmps18
  go_wp2_with fail
  
  refine (H1.out _).mono ?_
  rintro e V1 ⟨rfl, hb1⟩
  have B1 : Hid (Below w.heap.size w V1) := by first | exact Lib.hid ((Below.refl w.heap.size w).trans (hb1.mono (by first | assumption | (simp <;> omega) | (simp; done)))) | exact Lib.hid (((Below.refl w.heap.size w).alloc (Nat.le_refl _) _).trans (hb1.mono (by first | assumption | (simp <;> omega) | (simp; done)))) | exact Lib.hid ((((Below.refl w.heap.size w).alloc (Nat.le_refl _) _).alloc (by simp <;> omega) _).trans (hb1.mono (by first | assumption | (simp <;> omega) | (simp; done)))) | exact Lib.hid (((((Below.refl w.heap.size w).alloc (Nat.le_refl _) _).alloc (by simp <;> omega) _).alloc (by simp <;> omega) _).trans (hb1.mono (by first | assumption | (simp <;> omega) | (simp; done))))
  clear hb1
  go_simp
  go_wp2_with fail
  refine (H2.out _).mono ?_
  rintro e V2 ⟨rfl, hb2⟩
  have B2 := Lib.hid (((B1.out).alloc (B1.out.size) _).trans (hb2.mono (by have := B1.out.size; first | assumption | (simp <;> omega) | (simp; done))))
  have A1 := Lib.hid (row_call hb2 (heap_alloc_new _ _))
  clear hb2
  have A1_0 : V2.cell? ⟨V1.heap.size, 0, none⟩ = some (.int .i64 (-1)) := cell_of_row _ _ _ _ _ _ A1.out
  have A1_1 : V2.cell? ⟨V1.heap.size, 1, none⟩ = some (.int .i64 999999999) := cell_of_row _ _ _ _ _ _ A1.out
  have zA1 := lt_of_heap A1.out
  go_simp
  go_wp2_with fail
  refine (H3.out _).mono ?_
  rintro e V3 ⟨rfl, hb3⟩
  clear A1_0 A1_1 zA1
  have B3 : Hid (Below w.heap.size w V3) := by first | exact Lib.hid ((B2.out).trans (hb3.mono (by have := B2.out.size; first | assumption | (simp <;> omega) | (simp; done)))) | exact Lib.hid (((B2.out).alloc (B2.out.size) _).trans (hb3.mono (by have := B2.out.size; first | assumption | (simp <;> omega) | (simp; done)))) | exact Lib.hid ((((B2.out).alloc (B2.out.size) _).alloc (by have := B2.out.size; simp <;> omega) _).trans (hb3.mono (by have := B2.out.size; first | assumption | (simp <;> omega) | (simp; done)))) | exact Lib.hid (((((B2.out).alloc (B2.out.size) _).alloc (by have := B2.out.size; simp <;> omega) _).alloc (by have := B2.out.size; simp <;> omega) _).trans (hb3.mono (by have := B2.out.size; first | assumption | (simp <;> omega) | (simp; done))))
  first | replace A1 := Lib.hid (row_call hb3 A1.out) | replace A1 := Lib.hid (row_call hb3 (row_alloc A1.out _)) | replace A1 := Lib.hid (row_call hb3 (row_alloc (row_alloc A1.out _) _)) | replace A1 := Lib.hid (row_call hb3 (row_alloc (row_alloc (row_alloc A1.out _) _) _))
  clear hb3
  have A1_0 : V3.cell? ⟨V1.heap.size, 0, none⟩ = some (.int .i64 (-1)) := cell_of_row _ _ _ _ _ _ A1.out
  have A1_1 : V3.cell? ⟨V1.heap.size, 1, none⟩ = some (.int .i64 999999999) := cell_of_row _ _ _ _ _ _ A1.out
  have zA1 := lt_of_heap A1.out
  go_simp
  go_wp2_with fail
  refine (H4.out _).mono ?_
  rintro e V4 ⟨rfl, hb4⟩
  clear A1_0 A1_1 zA1
  have B4 : Hid (Below w.heap.size w V4) := by first | exact Lib.hid ((B3.out).trans (hb4.mono (by have := B3.out.size; first | assumption | (simp <;> omega) | (simp; done)))) | exact Lib.hid (((B3.out).alloc (B3.out.size) _).trans (hb4.mono (by have := B3.out.size; first | assumption | (simp <;> omega) | (simp; done)))) | exact Lib.hid ((((B3.out).alloc (B3.out.size) _).alloc (by have := B3.out.size; simp <;> omega) _).trans (hb4.mono (by have := B3.out.size; first | assumption | (simp <;> omega) | (simp; done)))) | exact Lib.hid (((((B3.out).alloc (B3.out.size) _).alloc (by have := B3.out.size; simp <;> omega) _).alloc (by have := B3.out.size; simp <;> omega) _).trans (hb4.mono (by have := B3.out.size; first | assumption | (simp <;> omega) | (simp; done))))
  first | replace A1 := Lib.hid (row_call hb4 A1.out) | replace A1 := Lib.hid (row_call hb4 (row_alloc A1.out _)) | replace A1 := Lib.hid (row_call hb4 (row_alloc (row_alloc A1.out _) _)) | replace A1 := Lib.hid (row_call hb4 (row_alloc (row_alloc (row_alloc A1.out _) _) _))
  clear hb4
  have A1_0 : V4.cell? ⟨V1.heap.size, 0, none⟩ = some (.int .i64 (-1)) := cell_of_row _ _ _ _ _ _ A1.out
  have A1_1 : V4.cell? ⟨V1.heap.size, 1, none⟩ = some (.int .i64 999999999) := cell_of_row _ _ _ _ _ _ A1.out
  have zA1 := lt_of_heap A1.out
  go_simp
  go_wp2
  go_ret
  exact ⟨rfl, by first | exact B4.out | exact B4.out.alloc B4.out.size _⟩
set_option maxHeartbeats 3200000 in
set_option maxRecDepth 100000 in
theorem instantMakes_walk (s n : Int) (bs : in64 s) (bn : in64 n) (w : World) :
    Calls Try.prog 4 #[.int .i64 s, .int .i64 n] w fun e w' => e = .returned (.bool true) ∧ Below w.heap.size w w' := by
  have H1 := Lib.hid (new_any s n bs bn)
  have H2 := Lib.hid (rNew_any s n bs bn)
  have H3 := Lib.hid (check_any s n)
  have H4 := Lib.hid (rCheck_any s n)
  have H5 := Lib.hid awake3_any
  clear bs bn
  generalize nanos s n = T at *
  generalize tkS (-377705116800) 253402300799 T = S at *
  generalize tkN (-377705116800) 253402300799 T = N at *
  generalize tkE (-377705116800) 253402300799 T = E at *
  generalize ckI s n = c at *
  go_enter Try.func4, Try.ntmps4
  go_wp2_with fail
  
  refine (H1.out _).mono ?_
  rintro e V1 ⟨rfl, hb1⟩
  have B1 : Hid (Below w.heap.size w V1) := by first | exact Lib.hid ((Below.refl w.heap.size w).trans (hb1.mono (by first | assumption | (simp <;> omega) | (simp; done)))) | exact Lib.hid (((Below.refl w.heap.size w).alloc (Nat.le_refl _) _).trans (hb1.mono (by first | assumption | (simp <;> omega) | (simp; done)))) | exact Lib.hid ((((Below.refl w.heap.size w).alloc (Nat.le_refl _) _).alloc (by simp <;> omega) _).trans (hb1.mono (by first | assumption | (simp <;> omega) | (simp; done)))) | exact Lib.hid (((((Below.refl w.heap.size w).alloc (Nat.le_refl _) _).alloc (by simp <;> omega) _).alloc (by simp <;> omega) _).trans (hb1.mono (by first | assumption | (simp <;> omega) | (simp; done))))
  clear hb1
  go_simp
  go_wp2_with fail
  refine (H2.out _).mono ?_
  rintro e V2 ⟨rfl, hb2⟩
  have B2 := Lib.hid (((B1.out).alloc (B1.out.size) _).trans (hb2.mono (by have := B1.out.size; first | assumption | (simp <;> omega) | (simp; done))))
  have I1 := Lib.hid (row_call hb2 (heap_alloc_new _ _))
  clear hb2
  have I1_0 : V2.cell? ⟨V1.heap.size, 0, none⟩ = some (.int .i64 S) := cell_of_row _ _ _ _ _ _ I1.out
  have I1_1 : V2.cell? ⟨V1.heap.size, 1, none⟩ = some (.int .i64 N) := cell_of_row _ _ _ _ _ _ I1.out
  have zI1 := lt_of_heap I1.out
  go_simp
  go_wp2_with fail
  obtain ⟨W0, hW0⟩ : ∃ W0, W0 = ((V2.alloc (Obj.cells #[Value.int .i64 S, Value.int .i64 N] 34)).alloc (Obj.cells #[Value.int .i64 s, Value.int .i64 n] 34)) := ⟨_, rfl⟩
  replace I1 := Lib.hid (row_by hW0 (row_alloc (row_alloc I1.out _) _))
  have J1 := Lib.hid (row_at (k' := V2.heap.size) (by simp) (row_by hW0 (row_alloc (heap_alloc_new _ _) _)))
  have R1 := Lib.hid (row_at (k' := V2.heap.size + 1) (by simp) (row_by hW0 (heap_alloc_new _ _)))
  clear I1_0 I1_1 zI1
  have I1_0 : W0.cell? ⟨V1.heap.size, 0, none⟩ = some (.int .i64 S) := cell_of_row _ _ _ _ _ _ I1.out
  have I1_1 : W0.cell? ⟨V1.heap.size, 1, none⟩ = some (.int .i64 N) := cell_of_row _ _ _ _ _ _ I1.out
  have zI1 := lt_of_heap I1.out
  have J1_0 : W0.cell? ⟨V2.heap.size, 0, none⟩ = some (.int .i64 S) := cell_of_row _ _ _ _ _ _ J1.out
  have J1_1 : W0.cell? ⟨V2.heap.size, 1, none⟩ = some (.int .i64 N) := cell_of_row _ _ _ _ _ _ J1.out
  have zJ1 := lt_of_heap J1.out
  have R1_0 : W0.cell? ⟨V2.heap.size + 1, 0, none⟩ = some (.int .i64 s) := cell_of_row _ _ _ _ _ _ R1.out
  have R1_1 : W0.cell? ⟨V2.heap.size + 1, 1, none⟩ = some (.int .i64 n) := cell_of_row _ _ _ _ _ _ R1.out
  have zR1 := lt_of_heap R1.out
  have HB0 := Lib.hid (below_by hW0 (((B2.out).alloc (B2.out.size) _).alloc (by have := B2.out.size; simp <;> omega) _))
  have zW0 := HB0.out.size
  have HW0 := Lib.hid hW0
  clear hW0
  try go_simp
  rw [← HW0.out]
  have hk0 : ∀ w2, Below W0.heap.size W0 w2 → w2.cell? ⟨V1.heap.size, 0, none⟩ = some (.int .i64 S) := fun w2 hb => (by rw [hb.cell (p := ⟨V1.heap.size, 0, none⟩) (by assumption)]; assumption)
  have hk1 : ∀ w2, Below W0.heap.size W0 w2 → w2.cell? ⟨V1.heap.size, 1, none⟩ = some (.int .i64 N) := fun w2 hb => (by rw [hb.cell (p := ⟨V1.heap.size, 1, none⟩) (by assumption)]; assumption)
  have hk2 : ∀ w2, Below W0.heap.size W0 w2 → w2.cell? ⟨V2.heap.size, 0, none⟩ = some (.int .i64 S) := fun w2 hb => (by rw [hb.cell (p := ⟨V2.heap.size, 0, none⟩) (by assumption)]; assumption)
  have hk3 : ∀ w2, Below W0.heap.size W0 w2 → w2.cell? ⟨V2.heap.size, 1, none⟩ = some (.int .i64 N) := fun w2 hb => (by rw [hb.cell (p := ⟨V2.heap.size, 1, none⟩) (by assumption)]; assumption)
  have hk4 : ∀ w2, Below W0.heap.size W0 w2 → w2.cell? ⟨V2.heap.size + 1, 0, none⟩ = some (.int .i64 s) := fun w2 hb => (by rw [hb.cell (p := ⟨V2.heap.size + 1, 0, none⟩) (by assumption)]; assumption)
  have hk5 : ∀ w2, Below W0.heap.size W0 w2 → w2.cell? ⟨V2.heap.size + 1, 1, none⟩ = some (.int .i64 n) := fun w2 hb => (by rw [hb.cell (p := ⟨V2.heap.size + 1, 1, none⟩) (by assumption)]; assumption)
  clear I1_0 I1_1 J1_0 J1_1 R1_0 R1_1
  refine region_plan (S := fun w2 => Below W0.heap.size W0 w2) [(0, true), (1, true), (2, true), (3, true), (4, true), (5, true), (6, true), (7, true), (8, true), (9, true), (11, true), (10, false), (12, false), (13, true), (14, true), (15, true), (16, false), (17, true), (18, true)] (by as_aux_lemma => kernel_rfl) (by as_aux_lemma => kernel_rfl) (by as_aux_lemma => kernel_rfl) (by as_aux_lemma => kernel_rfl) (Below.refl W0.heap.size W0).drew ?_
  have Y0 := Lib.hid (Below.refl W0.heap.size W0).drew
  refine plan_yes (v := ?v1) (by simp only [List.getElem?_toArray, List.getElem?_cons_zero, List.getElem?_cons_succ]; exact rfl) (Or.inl ⟨by as_aux_lemma => rfl, ?hy1⟩) ?rest1
  case hy1 => (intro w2 hSw; (try dsimp only at hSw); go_simp; try with_reducible rfl)
  try simp only [Act.put, List.setIfInBounds_toArray, List.set_cons_zero, List.set_cons_succ]
  refine plan_yes (v := ?v2) (by simp only [List.getElem?_toArray, List.getElem?_cons_zero, List.getElem?_cons_succ]; exact rfl) (Or.inl ⟨by as_aux_lemma => rfl, ?hy2⟩) ?rest2
  case hy2 => (intro w2 hSw; (try dsimp only at hSw); go_simp; try with_reducible rfl)
  try simp only [Act.put, List.setIfInBounds_toArray, List.set_cons_zero, List.set_cons_succ]
  refine plan_yes (v := .bool true) (by simp only [List.getElem?_toArray, List.getElem?_cons_zero, List.getElem?_cons_succ]; exact rfl) (Or.inl ⟨by as_aux_lemma => rfl, ?hy3⟩) ?rest3
  case hy3 => (intro w2 hSw; first | (apply eql_wide; rfl; rfl; rfl) | (apply eql_inst; rfl; rfl; rfl) | (apply eql_dur; rfl; rfl; rfl))
  try simp only [Act.put, List.setIfInBounds_toArray, List.set_cons_zero, List.set_cons_succ]
  refine plan_yes (v := ?v4) (by simp only [List.getElem?_toArray, List.getElem?_cons_zero, List.getElem?_cons_succ]; exact rfl) (Or.inl ⟨by as_aux_lemma => rfl, ?hy4⟩) ?rest4
  case hy4 => (intro w2 hSw; (try dsimp only at hSw); go_simp; try with_reducible rfl)
  try simp only [Act.put, List.setIfInBounds_toArray, List.set_cons_zero, List.set_cons_succ]
  refine plan_yes (v := ?v5) (by simp only [List.getElem?_toArray, List.getElem?_cons_zero, List.getElem?_cons_succ]; exact rfl) (Or.inl ⟨by as_aux_lemma => rfl, ?hy5⟩) ?rest5
  case hy5 => (intro w2 hSw; (try dsimp only at hSw); go_simp; try with_reducible rfl)
  try simp only [Act.put, List.setIfInBounds_toArray, List.set_cons_zero, List.set_cons_succ]
  refine plan_yes (v := ?v6) (by simp only [List.getElem?_toArray, List.getElem?_cons_zero, List.getElem?_cons_succ]; exact rfl) (Or.inl ⟨by as_aux_lemma => rfl, ?hy6⟩) ?rest6
  case hy6 => (intro w2 hSw; (try dsimp only at hSw); go_simp; try with_reducible rfl)
  try simp only [Act.put, List.setIfInBounds_toArray, List.set_cons_zero, List.set_cons_succ]
  refine plan_yes (v := ?v7) (by simp only [List.getElem?_toArray, List.getElem?_cons_zero, List.getElem?_cons_succ]; exact rfl) (Or.inl ⟨by as_aux_lemma => rfl, ?hy7⟩) ?rest7
  case hy7 => (intro w2 hSw; (try dsimp only at hSw); go_simp; try with_reducible rfl)
  try simp only [Act.put, List.setIfInBounds_toArray, List.set_cons_zero, List.set_cons_succ]
  refine plan_yes (v := ?v8) (by simp only [List.getElem?_toArray, List.getElem?_cons_zero, List.getElem?_cons_succ]; exact rfl) (Or.inl ⟨by as_aux_lemma => rfl, ?hy8⟩) ?rest8
  case hy8 => (intro w2 hSw; (try dsimp only at hSw); go_simp; try with_reducible rfl)
  try simp only [Act.put, List.setIfInBounds_toArray, List.set_cons_zero, List.set_cons_succ]
  refine plan_yes (v := ?v9) (by simp only [List.getElem?_toArray, List.getElem?_cons_zero, List.getElem?_cons_succ]; exact rfl) (Or.inl ⟨by as_aux_lemma => rfl, ?hy9⟩) ?rest9
  case hy9 => (intro w2 hSw; (try dsimp only at hSw); go_simp; try with_reducible rfl)
  try simp only [Act.put, List.setIfInBounds_toArray, List.set_cons_zero, List.set_cons_succ]
  refine plan_yes (v := ?v10) (by simp only [List.getElem?_toArray, List.getElem?_cons_zero, List.getElem?_cons_succ]; exact rfl) (Or.inl ⟨by as_aux_lemma => rfl, ?hy10⟩) ?rest10
  case hy10 => (intro w2 hSw; (try dsimp only at hSw); go_simp; try with_reducible rfl)
  try simp only [Act.put, List.setIfInBounds_toArray, List.set_cons_zero, List.set_cons_succ]
  refine plan_yes (v := ?v11) (by simp only [List.getElem?_toArray, List.getElem?_cons_zero, List.getElem?_cons_succ]; exact rfl) (Or.inl ⟨by as_aux_lemma => rfl, ?hy11⟩) ?rest11
  case hy11 => (intro w2 hSw; (try dsimp only at hSw); go_simp; try with_reducible rfl)
  try simp only [Act.put, List.setIfInBounds_toArray, List.set_cons_zero, List.set_cons_succ]
  refine plan_calls (by simp only [List.getElem?_toArray, List.getElem?_cons_zero, List.getElem?_cons_succ]; exact rfl) (by as_aux_lemma => rfl) (fun K hK => ?_)
  go_simp
  refine (H3.out _).mono ?_
  rintro e Y1w ⟨rfl, hb1⟩
  have Y1 := Lib.hid (keepS (W0 := W0) Y0.out hb1)
  clear hb1
  refine hK.out _ _ Y1.out ?_
  clear hK K
  try simp only [Act.put, List.setIfInBounds_toArray, List.set_cons_zero, List.set_cons_succ]
  as_aux_lemma =>
   refine plan_calls (by simp only [List.getElem?_toArray, List.getElem?_cons_zero, List.getElem?_cons_succ]; exact rfl) (by as_aux_lemma => rfl) (fun K hK => ?_)
   go_simp
   refine (H4.out _).mono ?_
   rintro e Y2w ⟨rfl, hb1⟩
   have Y2 := Lib.hid (keepS (W0 := W0) Y1.out hb1)
   clear hb1
   refine hK.out _ _ Y2.out ?_
   clear hK K
   try simp only [Act.put, List.setIfInBounds_toArray, List.set_cons_zero, List.set_cons_succ]
   as_aux_lemma =>
    refine plan_yes (v := ?v12) (by simp only [List.getElem?_toArray, List.getElem?_cons_zero, List.getElem?_cons_succ]; exact rfl) (Or.inl ⟨by as_aux_lemma => rfl, ?hy12⟩) ?rest12
    case hy12 => (intro w2 hSw; (try dsimp only at hSw); go_simp; try with_reducible rfl)
    try simp only [Act.put, List.setIfInBounds_toArray, List.set_cons_zero, List.set_cons_succ]
    refine plan_yes (v := ?v13) (by simp only [List.getElem?_toArray, List.getElem?_cons_zero, List.getElem?_cons_succ]; exact rfl) (Or.inl ⟨by as_aux_lemma => rfl, ?hy13⟩) ?rest13
    case hy13 => (intro w2 hSw; (try dsimp only at hSw); go_simp; try with_reducible rfl)
    try simp only [Act.put, List.setIfInBounds_toArray, List.set_cons_zero, List.set_cons_succ]
    refine plan_yes (v := ?v14) (by simp only [List.getElem?_toArray, List.getElem?_cons_zero, List.getElem?_cons_succ]; exact rfl) (Or.inl ⟨by as_aux_lemma => rfl, ?hy14⟩) ?rest14
    case hy14 => (intro w2 hSw; (try dsimp only at hSw); go_simp; try with_reducible rfl)
    try simp only [Act.put, List.setIfInBounds_toArray, List.set_cons_zero, List.set_cons_succ]
    refine plan_calls (by simp only [List.getElem?_toArray, List.getElem?_cons_zero, List.getElem?_cons_succ]; exact rfl) (by as_aux_lemma => rfl) (fun K hK => ?_)
    go_simp
    refine (H5.out _).mono ?_
    rintro e Y3w ⟨rfl, hb1⟩
    have Y3 := Lib.hid (keepS (W0 := W0) Y2.out hb1)
    clear hb1
    refine hK.out _ _ Y3.out ?_
    clear hK K
    try simp only [Act.put, List.setIfInBounds_toArray, List.set_cons_zero, List.set_cons_succ]
    as_aux_lemma =>
     refine plan_yes (v := ?v15) (by simp only [List.getElem?_toArray, List.getElem?_cons_zero, List.getElem?_cons_succ]; exact rfl) (Or.inl ⟨by as_aux_lemma => rfl, ?hy15⟩) ?rest15
     case hy15 => (intro w2 hSw; (try dsimp only at hSw); go_simp; try with_reducible rfl)
     try simp only [Act.put, List.setIfInBounds_toArray, List.set_cons_zero, List.set_cons_succ]
     refine plan_yes (v := ?v16) (by simp only [List.getElem?_toArray, List.getElem?_cons_zero, List.getElem?_cons_succ]; exact rfl) (Or.inl ⟨by as_aux_lemma => rfl, ?hy16⟩) ?rest16
     case hy16 => (intro w2 hSw; (try dsimp only at hSw); go_simp; try with_reducible rfl)
     try simp only [Act.put, List.setIfInBounds_toArray, List.set_cons_zero, List.set_cons_succ]
     refine plan_done (NoPanic.normal ?_)
     have B0 := Y3.out
     have BW := Lib.hid (HB0.out.trans (B0.mono zW0))
     go_simp
     go_wp2
     go_ret
     exact ⟨rfl, BW.out⟩
set_option maxHeartbeats 3200000 in
set_option maxRecDepth 100000 in
theorem instantSums_walk (s n d m : Int) (bs : in64 s) (bn : in64 n) (bd : in64 d) (bm : in64 m) (w : World) :
    Calls Try.prog 5 #[.agg #[.int .i64 s, .int .i64 n], .agg #[.int .i64 d, .int .i64 m]] w fun e w' => e = .returned (.bool true) ∧ Below w.heap.size w w' := by
  have H1 := Lib.hid (iAdd_any s n d m bs bn bd bm)
  have H2 := Lib.hid (riAdd_any s n d m bs bn bd bm)
  have H5 := Lib.hid awake3_any
  clear bs bn bd bm
  generalize adS s n d m = S at *
  generalize adN s n d m = N at *
  generalize adE s n d m = E at *
  go_enter Try.func5, Try.ntmps5
  go_wp2_with fail
  
  refine (H1.out _).mono ?_
  rintro e V1 ⟨rfl, hb1⟩
  have B1 := Lib.hid ((((Below.refl w.heap.size w).alloc (Nat.le_refl _) _).alloc (by simp <;> omega) _).trans (hb1.mono (by first | assumption | (simp <;> omega) | (simp; done))))
  have A1 := Lib.hid (row_call hb1 (row_alloc (heap_alloc_new _ _) _))
  have D1 := Lib.hid (row_at (k' := w.heap.size + 1) (by simp) (row_call hb1 (heap_alloc_new _ _)))
  clear hb1
  have A1_0 : V1.cell? ⟨w.heap.size, 0, none⟩ = some (.int .i64 s) := cell_of_row _ _ _ _ _ _ A1.out
  have A1_1 : V1.cell? ⟨w.heap.size, 1, none⟩ = some (.int .i64 n) := cell_of_row _ _ _ _ _ _ A1.out
  have D1_0 : V1.cell? ⟨w.heap.size + 1, 0, none⟩ = some (.int .i64 d) := cell_of_row _ _ _ _ _ _ D1.out
  have D1_1 : V1.cell? ⟨w.heap.size + 1, 1, none⟩ = some (.int .i64 m) := cell_of_row _ _ _ _ _ _ D1.out
  have zA1 := lt_of_heap A1.out
  have zD1 := lt_of_heap D1.out
  go_simp
  go_wp2_with fail
  refine (H2.out _).mono ?_
  rintro e V2 ⟨rfl, hb2⟩
  clear A1_0 A1_1 zA1 D1_0 D1_1 zD1
  have nA1I1 := Lib.hid (lt_of_heap A1.out)
  have nD1I1 := Lib.hid (lt_of_heap D1.out)
  have B2 := Lib.hid (((B1.out).alloc (B1.out.size) _).trans (hb2.mono (by have := B1.out.size; first | assumption | (simp <;> omega) | (simp; done))))
  replace A1 := Lib.hid (row_call hb2 (row_alloc A1.out _))
  replace D1 := Lib.hid (row_call hb2 (row_alloc D1.out _))
  have I1 := Lib.hid (row_call hb2 (heap_alloc_new _ _))
  clear hb2
  have A1_0 : V2.cell? ⟨w.heap.size, 0, none⟩ = some (.int .i64 s) := cell_of_row _ _ _ _ _ _ A1.out
  have A1_1 : V2.cell? ⟨w.heap.size, 1, none⟩ = some (.int .i64 n) := cell_of_row _ _ _ _ _ _ A1.out
  have D1_0 : V2.cell? ⟨w.heap.size + 1, 0, none⟩ = some (.int .i64 d) := cell_of_row _ _ _ _ _ _ D1.out
  have D1_1 : V2.cell? ⟨w.heap.size + 1, 1, none⟩ = some (.int .i64 m) := cell_of_row _ _ _ _ _ _ D1.out
  have I1_0 : V2.cell? ⟨V1.heap.size, 0, none⟩ = some (.int .i64 S) := cell_of_row _ _ _ _ _ _ I1.out
  have I1_1 : V2.cell? ⟨V1.heap.size, 1, none⟩ = some (.int .i64 N) := cell_of_row _ _ _ _ _ _ I1.out
  have zA1 := lt_of_heap A1.out
  have zD1 := lt_of_heap D1.out
  have zI1 := lt_of_heap I1.out
  go_simp
  go_wp2_with fail
  refine (H5.out _).mono ?_
  rintro e V3 ⟨rfl, hb3⟩
  clear A1_0 A1_1 zA1 D1_0 D1_1 zD1 I1_0 I1_1 zI1
  have nA1J1 := Lib.hid (lt_of_heap A1.out)
  have nD1J1 := Lib.hid (lt_of_heap D1.out)
  have nI1J1 := Lib.hid (lt_of_heap I1.out)
  have B3 := Lib.hid (((B2.out).alloc (B2.out.size) _).trans (hb3.mono (by have := B2.out.size; first | assumption | (simp <;> omega) | (simp; done))))
  replace A1 := Lib.hid (row_call hb3 (row_alloc A1.out _))
  replace D1 := Lib.hid (row_call hb3 (row_alloc D1.out _))
  replace I1 := Lib.hid (row_call hb3 (row_alloc I1.out _))
  have J1 := Lib.hid (row_call hb3 (heap_alloc_new _ _))
  clear hb3
  have A1_0 : V3.cell? ⟨w.heap.size, 0, none⟩ = some (.int .i64 s) := cell_of_row _ _ _ _ _ _ A1.out
  have A1_1 : V3.cell? ⟨w.heap.size, 1, none⟩ = some (.int .i64 n) := cell_of_row _ _ _ _ _ _ A1.out
  have D1_0 : V3.cell? ⟨w.heap.size + 1, 0, none⟩ = some (.int .i64 d) := cell_of_row _ _ _ _ _ _ D1.out
  have D1_1 : V3.cell? ⟨w.heap.size + 1, 1, none⟩ = some (.int .i64 m) := cell_of_row _ _ _ _ _ _ D1.out
  have I1_0 : V3.cell? ⟨V1.heap.size, 0, none⟩ = some (.int .i64 S) := cell_of_row _ _ _ _ _ _ I1.out
  have I1_1 : V3.cell? ⟨V1.heap.size, 1, none⟩ = some (.int .i64 N) := cell_of_row _ _ _ _ _ _ I1.out
  have J1_0 : V3.cell? ⟨V2.heap.size, 0, none⟩ = some (.int .i64 S) := cell_of_row _ _ _ _ _ _ J1.out
  have J1_1 : V3.cell? ⟨V2.heap.size, 1, none⟩ = some (.int .i64 N) := cell_of_row _ _ _ _ _ _ J1.out
  have zA1 := lt_of_heap A1.out
  have zD1 := lt_of_heap D1.out
  have zI1 := lt_of_heap I1.out
  have zJ1 := lt_of_heap J1.out
  go_simp
  go_wp2
  go_ret
  exact ⟨rfl, by first | exact B3.out | exact B3.out.alloc B3.out.size _⟩
theorem tk_self {s n : Int} (h : ckI s n = 0) : tkS (-377705116800) 253402300799 (nanos s n) = s ∧ tkN (-377705116800) 253402300799 (nanos s n) = n ∧ tkE (-377705116800) 253402300799 (nanos s n) = 0 := by
  obtain ⟨o2, o3, o4⟩ := of_ckI h
  have o5 := of_wmB o2
  have e1 : nanos s n / 1000000000 = s := by unfold nanos; omega
  have e2 : nanos s n % 1000000000 = n := by unfold nanos; omega
  obtain ⟨u1, u2, u3⟩ := @tk_yes (-377705116800) 253402300799 (nanos s n) (by rw [e1]; exact o3) (by rw [e1]; exact o4)
  rw [u1, u2, u3, e1, e2]
  exact ⟨rfl, rfl, rfl⟩
set_option maxHeartbeats 6400000 in
set_option maxRecDepth 100000 in
theorem instantNanos_walk (s n : Int) (h l : Nat) (bs : in64 s) (bn : in64 n) (u : U h) (v : U l) (w : World) :
    Calls Try.prog 7 #[.agg #[.int .i64 s, .int .i64 n], .agg #[.int .u64 h, .int .u64 l]] w fun e w' => e = .returned (.bool true) ∧ Below w.heap.size w w' := by
  obtain ⟨x, ix, ex1, ex2⟩ : ∃ x, in128 x ∧ zh x = h ∧ zl x = l := ⟨sz h l, sz_in h l u v, zh_sz h l u v, zl_sz h l u v⟩
  subst ex1 ex2
  have X1 := nanos_any s n bs bn
  have X2 := rNanos_any s n bs bn
  have H3 := Lib.hid (ofNanos_any x ix)
  have H4 := Lib.hid (rOfNanos_any x ix)
  have H6 := Lib.hid awake3_any
  generalize tkS (-377705116800) 253402300799 x = S at *
  generalize tkN (-377705116800) 253402300799 x = N at *
  generalize tkE (-377705116800) 253402300799 x = E at *
  by_cases hc : ckI s n = 0
  · obtain ⟨t1, t2, t3⟩ := tk_self hc
    rw [show nnI s n = nanos s n from if_pos hc, hc] at X1 X2
    have X5 := ofNanos_any (nanos s n) (nanos_in bs bn)
    rw [t1, t2, t3] at X5
    have H1 := Lib.hid X1
    have H2 := Lib.hid X2
    have H5 := Lib.hid X5
    clear X1 X2 X5 t1 t2 t3 hc bs bn ix
    generalize nanos s n = T at *
    generalize zh x = xh at *
    generalize zl x = xl at *
    generalize zh T = th at *
    generalize zl T = tl at *
    go_enter Try.func7, Try.ntmps7
    go_wp2_with fail
    
    refine (H1.out _).mono ?_
    rintro e V1 ⟨rfl, hb1⟩
    have B1 := Lib.hid ((((Below.refl w.heap.size w).alloc (Nat.le_refl _) _).alloc (by simp <;> omega) _).trans (hb1.mono (by first | assumption | (simp <;> omega) | (simp; done))))
    have A1 := Lib.hid (row_call hb1 (row_alloc (heap_alloc_new _ _) _))
    have D1 := Lib.hid (row_at (k' := w.heap.size + 1) (by simp) (row_call hb1 (heap_alloc_new _ _)))
    clear hb1
    have A1_0 : V1.cell? ⟨w.heap.size, 0, none⟩ = some (.int .i64 s) := cell_of_row _ _ _ _ _ _ A1.out
    have A1_1 : V1.cell? ⟨w.heap.size, 1, none⟩ = some (.int .i64 n) := cell_of_row _ _ _ _ _ _ A1.out
    have D1_0 : V1.cell? ⟨w.heap.size + 1, 0, none⟩ = some (.int .u64 xh) := cell_of_row _ _ _ _ _ _ D1.out
    have D1_1 : V1.cell? ⟨w.heap.size + 1, 1, none⟩ = some (.int .u64 xl) := cell_of_row _ _ _ _ _ _ D1.out
    have zA1 := lt_of_heap A1.out
    have zD1 := lt_of_heap D1.out
    go_simp
    go_wp2_with fail
    refine (H2.out _).mono ?_
    rintro e V2 ⟨rfl, hb2⟩
    clear A1_0 A1_1 zA1 D1_0 D1_1 zD1
    have nA1P1 := Lib.hid (lt_of_heap A1.out)
    have nD1P1 := Lib.hid (lt_of_heap D1.out)
    have B2 := Lib.hid (((B1.out).alloc (B1.out.size) _).trans (hb2.mono (by have := B1.out.size; first | assumption | (simp <;> omega) | (simp; done))))
    replace A1 := Lib.hid (row_call hb2 (row_alloc A1.out _))
    replace D1 := Lib.hid (row_call hb2 (row_alloc D1.out _))
    have P1 := Lib.hid (row_call hb2 (heap_alloc_new _ _))
    clear hb2
    have A1_0 : V2.cell? ⟨w.heap.size, 0, none⟩ = some (.int .i64 s) := cell_of_row _ _ _ _ _ _ A1.out
    have A1_1 : V2.cell? ⟨w.heap.size, 1, none⟩ = some (.int .i64 n) := cell_of_row _ _ _ _ _ _ A1.out
    have D1_0 : V2.cell? ⟨w.heap.size + 1, 0, none⟩ = some (.int .u64 xh) := cell_of_row _ _ _ _ _ _ D1.out
    have D1_1 : V2.cell? ⟨w.heap.size + 1, 1, none⟩ = some (.int .u64 xl) := cell_of_row _ _ _ _ _ _ D1.out
    have P1_0 : V2.cell? ⟨V1.heap.size, 0, none⟩ = some (.int .u64 th) := cell_of_row _ _ _ _ _ _ P1.out
    have P1_1 : V2.cell? ⟨V1.heap.size, 1, none⟩ = some (.int .u64 tl) := cell_of_row _ _ _ _ _ _ P1.out
    have zA1 := lt_of_heap A1.out
    have zD1 := lt_of_heap D1.out
    have zP1 := lt_of_heap P1.out
    go_simp
    go_wp2_with fail
    refine (H3.out _).mono ?_
    rintro e V3 ⟨rfl, hb3⟩
    clear A1_0 A1_1 zA1 D1_0 D1_1 zD1 P1_0 P1_1 zP1
    have nA1Q1 := Lib.hid (lt_of_heap A1.out)
    have nD1Q1 := Lib.hid (lt_of_heap D1.out)
    have nP1Q1 := Lib.hid (lt_of_heap P1.out)
    have B3 := Lib.hid (((B2.out).alloc (B2.out.size) _).trans (hb3.mono (by have := B2.out.size; first | assumption | (simp <;> omega) | (simp; done))))
    replace A1 := Lib.hid (row_call hb3 (row_alloc A1.out _))
    replace D1 := Lib.hid (row_call hb3 (row_alloc D1.out _))
    replace P1 := Lib.hid (row_call hb3 (row_alloc P1.out _))
    have Q1 := Lib.hid (row_call hb3 (heap_alloc_new _ _))
    clear hb3
    have A1_0 : V3.cell? ⟨w.heap.size, 0, none⟩ = some (.int .i64 s) := cell_of_row _ _ _ _ _ _ A1.out
    have A1_1 : V3.cell? ⟨w.heap.size, 1, none⟩ = some (.int .i64 n) := cell_of_row _ _ _ _ _ _ A1.out
    have D1_0 : V3.cell? ⟨w.heap.size + 1, 0, none⟩ = some (.int .u64 xh) := cell_of_row _ _ _ _ _ _ D1.out
    have D1_1 : V3.cell? ⟨w.heap.size + 1, 1, none⟩ = some (.int .u64 xl) := cell_of_row _ _ _ _ _ _ D1.out
    have P1_0 : V3.cell? ⟨V1.heap.size, 0, none⟩ = some (.int .u64 th) := cell_of_row _ _ _ _ _ _ P1.out
    have P1_1 : V3.cell? ⟨V1.heap.size, 1, none⟩ = some (.int .u64 tl) := cell_of_row _ _ _ _ _ _ P1.out
    have Q1_0 : V3.cell? ⟨V2.heap.size, 0, none⟩ = some (.int .u64 th) := cell_of_row _ _ _ _ _ _ Q1.out
    have Q1_1 : V3.cell? ⟨V2.heap.size, 1, none⟩ = some (.int .u64 tl) := cell_of_row _ _ _ _ _ _ Q1.out
    have zA1 := lt_of_heap A1.out
    have zD1 := lt_of_heap D1.out
    have zP1 := lt_of_heap P1.out
    have zQ1 := lt_of_heap Q1.out
    go_simp
    go_wp2_with fail
    refine (H4.out _).mono ?_
    rintro e V4 ⟨rfl, hb4⟩
    clear A1_0 A1_1 zA1 D1_0 D1_1 zD1 P1_0 P1_1 zP1 Q1_0 Q1_1 zQ1
    have nA1I1 := Lib.hid (lt_of_heap A1.out)
    have nD1I1 := Lib.hid (lt_of_heap D1.out)
    have nP1I1 := Lib.hid (lt_of_heap P1.out)
    have nQ1I1 := Lib.hid (lt_of_heap Q1.out)
    have B4 := Lib.hid (((B3.out).alloc (B3.out.size) _).trans (hb4.mono (by have := B3.out.size; first | assumption | (simp <;> omega) | (simp; done))))
    replace A1 := Lib.hid (row_call hb4 (row_alloc A1.out _))
    replace D1 := Lib.hid (row_call hb4 (row_alloc D1.out _))
    replace P1 := Lib.hid (row_call hb4 (row_alloc P1.out _))
    replace Q1 := Lib.hid (row_call hb4 (row_alloc Q1.out _))
    have I1 := Lib.hid (row_call hb4 (heap_alloc_new _ _))
    clear hb4
    have A1_0 : V4.cell? ⟨w.heap.size, 0, none⟩ = some (.int .i64 s) := cell_of_row _ _ _ _ _ _ A1.out
    have A1_1 : V4.cell? ⟨w.heap.size, 1, none⟩ = some (.int .i64 n) := cell_of_row _ _ _ _ _ _ A1.out
    have D1_0 : V4.cell? ⟨w.heap.size + 1, 0, none⟩ = some (.int .u64 xh) := cell_of_row _ _ _ _ _ _ D1.out
    have D1_1 : V4.cell? ⟨w.heap.size + 1, 1, none⟩ = some (.int .u64 xl) := cell_of_row _ _ _ _ _ _ D1.out
    have P1_0 : V4.cell? ⟨V1.heap.size, 0, none⟩ = some (.int .u64 th) := cell_of_row _ _ _ _ _ _ P1.out
    have P1_1 : V4.cell? ⟨V1.heap.size, 1, none⟩ = some (.int .u64 tl) := cell_of_row _ _ _ _ _ _ P1.out
    have Q1_0 : V4.cell? ⟨V2.heap.size, 0, none⟩ = some (.int .u64 th) := cell_of_row _ _ _ _ _ _ Q1.out
    have Q1_1 : V4.cell? ⟨V2.heap.size, 1, none⟩ = some (.int .u64 tl) := cell_of_row _ _ _ _ _ _ Q1.out
    have I1_0 : V4.cell? ⟨V3.heap.size, 0, none⟩ = some (.int .i64 S) := cell_of_row _ _ _ _ _ _ I1.out
    have I1_1 : V4.cell? ⟨V3.heap.size, 1, none⟩ = some (.int .i64 N) := cell_of_row _ _ _ _ _ _ I1.out
    have zA1 := lt_of_heap A1.out
    have zD1 := lt_of_heap D1.out
    have zP1 := lt_of_heap P1.out
    have zQ1 := lt_of_heap Q1.out
    have zI1 := lt_of_heap I1.out
    go_simp
    go_wp2_with fail
    refine (H5.out _).mono ?_
    rintro e V5 ⟨rfl, hb5⟩
    clear A1_0 A1_1 zA1 D1_0 D1_1 zD1 P1_0 P1_1 zP1 Q1_0 Q1_1 zQ1 I1_0 I1_1 zI1
    have nA1J1 := Lib.hid (lt_of_heap A1.out)
    have nD1J1 := Lib.hid (lt_of_heap D1.out)
    have nP1J1 := Lib.hid (lt_of_heap P1.out)
    have nQ1J1 := Lib.hid (lt_of_heap Q1.out)
    have nI1J1 := Lib.hid (lt_of_heap I1.out)
    have B5 := Lib.hid (((B4.out).alloc (B4.out.size) _).trans (hb5.mono (by have := B4.out.size; first | assumption | (simp <;> omega) | (simp; done))))
    replace A1 := Lib.hid (row_call hb5 (row_alloc A1.out _))
    replace D1 := Lib.hid (row_call hb5 (row_alloc D1.out _))
    replace P1 := Lib.hid (row_call hb5 (row_alloc P1.out _))
    replace Q1 := Lib.hid (row_call hb5 (row_alloc Q1.out _))
    replace I1 := Lib.hid (row_call hb5 (row_alloc I1.out _))
    have J1 := Lib.hid (row_call hb5 (heap_alloc_new _ _))
    clear hb5
    have A1_0 : V5.cell? ⟨w.heap.size, 0, none⟩ = some (.int .i64 s) := cell_of_row _ _ _ _ _ _ A1.out
    have A1_1 : V5.cell? ⟨w.heap.size, 1, none⟩ = some (.int .i64 n) := cell_of_row _ _ _ _ _ _ A1.out
    have D1_0 : V5.cell? ⟨w.heap.size + 1, 0, none⟩ = some (.int .u64 xh) := cell_of_row _ _ _ _ _ _ D1.out
    have D1_1 : V5.cell? ⟨w.heap.size + 1, 1, none⟩ = some (.int .u64 xl) := cell_of_row _ _ _ _ _ _ D1.out
    have P1_0 : V5.cell? ⟨V1.heap.size, 0, none⟩ = some (.int .u64 th) := cell_of_row _ _ _ _ _ _ P1.out
    have P1_1 : V5.cell? ⟨V1.heap.size, 1, none⟩ = some (.int .u64 tl) := cell_of_row _ _ _ _ _ _ P1.out
    have Q1_0 : V5.cell? ⟨V2.heap.size, 0, none⟩ = some (.int .u64 th) := cell_of_row _ _ _ _ _ _ Q1.out
    have Q1_1 : V5.cell? ⟨V2.heap.size, 1, none⟩ = some (.int .u64 tl) := cell_of_row _ _ _ _ _ _ Q1.out
    have I1_0 : V5.cell? ⟨V3.heap.size, 0, none⟩ = some (.int .i64 S) := cell_of_row _ _ _ _ _ _ I1.out
    have I1_1 : V5.cell? ⟨V3.heap.size, 1, none⟩ = some (.int .i64 N) := cell_of_row _ _ _ _ _ _ I1.out
    have J1_0 : V5.cell? ⟨V4.heap.size, 0, none⟩ = some (.int .i64 S) := cell_of_row _ _ _ _ _ _ J1.out
    have J1_1 : V5.cell? ⟨V4.heap.size, 1, none⟩ = some (.int .i64 N) := cell_of_row _ _ _ _ _ _ J1.out
    have zA1 := lt_of_heap A1.out
    have zD1 := lt_of_heap D1.out
    have zP1 := lt_of_heap P1.out
    have zQ1 := lt_of_heap Q1.out
    have zI1 := lt_of_heap I1.out
    have zJ1 := lt_of_heap J1.out
    go_simp
    go_wp2_with fail
    refine (H6.out _).mono ?_
    rintro e V6 ⟨rfl, hb6⟩
    clear A1_0 A1_1 zA1 D1_0 D1_1 zD1 P1_0 P1_1 zP1 Q1_0 Q1_1 zQ1 I1_0 I1_1 zI1 J1_0 J1_1 zJ1
    have nA1K1 := Lib.hid (lt_of_heap A1.out)
    have nD1K1 := Lib.hid (lt_of_heap D1.out)
    have nP1K1 := Lib.hid (lt_of_heap P1.out)
    have nQ1K1 := Lib.hid (lt_of_heap Q1.out)
    have nI1K1 := Lib.hid (lt_of_heap I1.out)
    have nJ1K1 := Lib.hid (lt_of_heap J1.out)
    have B6 := Lib.hid (((B5.out).alloc (B5.out.size) _).trans (hb6.mono (by have := B5.out.size; first | assumption | (simp <;> omega) | (simp; done))))
    replace A1 := Lib.hid (row_call hb6 (row_alloc A1.out _))
    replace D1 := Lib.hid (row_call hb6 (row_alloc D1.out _))
    replace P1 := Lib.hid (row_call hb6 (row_alloc P1.out _))
    replace Q1 := Lib.hid (row_call hb6 (row_alloc Q1.out _))
    replace I1 := Lib.hid (row_call hb6 (row_alloc I1.out _))
    replace J1 := Lib.hid (row_call hb6 (row_alloc J1.out _))
    have K1 := Lib.hid (row_call hb6 (heap_alloc_new _ _))
    clear hb6
    have A1_0 : V6.cell? ⟨w.heap.size, 0, none⟩ = some (.int .i64 s) := cell_of_row _ _ _ _ _ _ A1.out
    have A1_1 : V6.cell? ⟨w.heap.size, 1, none⟩ = some (.int .i64 n) := cell_of_row _ _ _ _ _ _ A1.out
    have D1_0 : V6.cell? ⟨w.heap.size + 1, 0, none⟩ = some (.int .u64 xh) := cell_of_row _ _ _ _ _ _ D1.out
    have D1_1 : V6.cell? ⟨w.heap.size + 1, 1, none⟩ = some (.int .u64 xl) := cell_of_row _ _ _ _ _ _ D1.out
    have P1_0 : V6.cell? ⟨V1.heap.size, 0, none⟩ = some (.int .u64 th) := cell_of_row _ _ _ _ _ _ P1.out
    have P1_1 : V6.cell? ⟨V1.heap.size, 1, none⟩ = some (.int .u64 tl) := cell_of_row _ _ _ _ _ _ P1.out
    have Q1_0 : V6.cell? ⟨V2.heap.size, 0, none⟩ = some (.int .u64 th) := cell_of_row _ _ _ _ _ _ Q1.out
    have Q1_1 : V6.cell? ⟨V2.heap.size, 1, none⟩ = some (.int .u64 tl) := cell_of_row _ _ _ _ _ _ Q1.out
    have I1_0 : V6.cell? ⟨V3.heap.size, 0, none⟩ = some (.int .i64 S) := cell_of_row _ _ _ _ _ _ I1.out
    have I1_1 : V6.cell? ⟨V3.heap.size, 1, none⟩ = some (.int .i64 N) := cell_of_row _ _ _ _ _ _ I1.out
    have J1_0 : V6.cell? ⟨V4.heap.size, 0, none⟩ = some (.int .i64 S) := cell_of_row _ _ _ _ _ _ J1.out
    have J1_1 : V6.cell? ⟨V4.heap.size, 1, none⟩ = some (.int .i64 N) := cell_of_row _ _ _ _ _ _ J1.out
    have K1_0 : V6.cell? ⟨V5.heap.size, 0, none⟩ = some (.int .i64 s) := cell_of_row _ _ _ _ _ _ K1.out
    have K1_1 : V6.cell? ⟨V5.heap.size, 1, none⟩ = some (.int .i64 n) := cell_of_row _ _ _ _ _ _ K1.out
    have zA1 := lt_of_heap A1.out
    have zD1 := lt_of_heap D1.out
    have zP1 := lt_of_heap P1.out
    have zQ1 := lt_of_heap Q1.out
    have zI1 := lt_of_heap I1.out
    have zJ1 := lt_of_heap J1.out
    have zK1 := lt_of_heap K1.out
    go_simp
    go_wp2
    go_ret
    exact ⟨rfl, by first | exact B6.out | exact B6.out.alloc B6.out.size _⟩
  · have H1 := Lib.hid X1
    have H2 := Lib.hid X2
    clear X1 X2 bs bn ix
    generalize nnI s n = T at *
    generalize zh x = xh at *
    generalize zl x = xl at *
    generalize zh T = th at *
    generalize zl T = tl at *
    generalize ckI s n = F at *
    have f1 : (F == 0) = false := by rw [beq_eq_false_iff_ne]; exact hc
    go_enter Try.func7, Try.ntmps7
    go_wp2_with fail
    
    refine (H1.out _).mono ?_
    rintro e V1 ⟨rfl, hb1⟩
    have B1 := Lib.hid ((((Below.refl w.heap.size w).alloc (Nat.le_refl _) _).alloc (by simp <;> omega) _).trans (hb1.mono (by first | assumption | (simp <;> omega) | (simp; done))))
    have A1 := Lib.hid (row_call hb1 (row_alloc (heap_alloc_new _ _) _))
    have D1 := Lib.hid (row_at (k' := w.heap.size + 1) (by simp) (row_call hb1 (heap_alloc_new _ _)))
    clear hb1
    have A1_0 : V1.cell? ⟨w.heap.size, 0, none⟩ = some (.int .i64 s) := cell_of_row _ _ _ _ _ _ A1.out
    have A1_1 : V1.cell? ⟨w.heap.size, 1, none⟩ = some (.int .i64 n) := cell_of_row _ _ _ _ _ _ A1.out
    have D1_0 : V1.cell? ⟨w.heap.size + 1, 0, none⟩ = some (.int .u64 xh) := cell_of_row _ _ _ _ _ _ D1.out
    have D1_1 : V1.cell? ⟨w.heap.size + 1, 1, none⟩ = some (.int .u64 xl) := cell_of_row _ _ _ _ _ _ D1.out
    have zA1 := lt_of_heap A1.out
    have zD1 := lt_of_heap D1.out
    go_simp
    go_wp2_with fail
    refine (H2.out _).mono ?_
    rintro e V2 ⟨rfl, hb2⟩
    clear A1_0 A1_1 zA1 D1_0 D1_1 zD1
    have nA1P1 := Lib.hid (lt_of_heap A1.out)
    have nD1P1 := Lib.hid (lt_of_heap D1.out)
    have B2 := Lib.hid (((B1.out).alloc (B1.out.size) _).trans (hb2.mono (by have := B1.out.size; first | assumption | (simp <;> omega) | (simp; done))))
    replace A1 := Lib.hid (row_call hb2 (row_alloc A1.out _))
    replace D1 := Lib.hid (row_call hb2 (row_alloc D1.out _))
    have P1 := Lib.hid (row_call hb2 (heap_alloc_new _ _))
    clear hb2
    have A1_0 : V2.cell? ⟨w.heap.size, 0, none⟩ = some (.int .i64 s) := cell_of_row _ _ _ _ _ _ A1.out
    have A1_1 : V2.cell? ⟨w.heap.size, 1, none⟩ = some (.int .i64 n) := cell_of_row _ _ _ _ _ _ A1.out
    have D1_0 : V2.cell? ⟨w.heap.size + 1, 0, none⟩ = some (.int .u64 xh) := cell_of_row _ _ _ _ _ _ D1.out
    have D1_1 : V2.cell? ⟨w.heap.size + 1, 1, none⟩ = some (.int .u64 xl) := cell_of_row _ _ _ _ _ _ D1.out
    have P1_0 : V2.cell? ⟨V1.heap.size, 0, none⟩ = some (.int .u64 th) := cell_of_row _ _ _ _ _ _ P1.out
    have P1_1 : V2.cell? ⟨V1.heap.size, 1, none⟩ = some (.int .u64 tl) := cell_of_row _ _ _ _ _ _ P1.out
    have zA1 := lt_of_heap A1.out
    have zD1 := lt_of_heap D1.out
    have zP1 := lt_of_heap P1.out
    go_simp
    go_wp2_with fail
    refine (H3.out _).mono ?_
    rintro e V3 ⟨rfl, hb3⟩
    clear A1_0 A1_1 zA1 D1_0 D1_1 zD1 P1_0 P1_1 zP1
    have nA1Q1 := Lib.hid (lt_of_heap A1.out)
    have nD1Q1 := Lib.hid (lt_of_heap D1.out)
    have nP1Q1 := Lib.hid (lt_of_heap P1.out)
    have B3 := Lib.hid (((B2.out).alloc (B2.out.size) _).trans (hb3.mono (by have := B2.out.size; first | assumption | (simp <;> omega) | (simp; done))))
    replace A1 := Lib.hid (row_call hb3 (row_alloc A1.out _))
    replace D1 := Lib.hid (row_call hb3 (row_alloc D1.out _))
    replace P1 := Lib.hid (row_call hb3 (row_alloc P1.out _))
    have Q1 := Lib.hid (row_call hb3 (heap_alloc_new _ _))
    clear hb3
    have A1_0 : V3.cell? ⟨w.heap.size, 0, none⟩ = some (.int .i64 s) := cell_of_row _ _ _ _ _ _ A1.out
    have A1_1 : V3.cell? ⟨w.heap.size, 1, none⟩ = some (.int .i64 n) := cell_of_row _ _ _ _ _ _ A1.out
    have D1_0 : V3.cell? ⟨w.heap.size + 1, 0, none⟩ = some (.int .u64 xh) := cell_of_row _ _ _ _ _ _ D1.out
    have D1_1 : V3.cell? ⟨w.heap.size + 1, 1, none⟩ = some (.int .u64 xl) := cell_of_row _ _ _ _ _ _ D1.out
    have P1_0 : V3.cell? ⟨V1.heap.size, 0, none⟩ = some (.int .u64 th) := cell_of_row _ _ _ _ _ _ P1.out
    have P1_1 : V3.cell? ⟨V1.heap.size, 1, none⟩ = some (.int .u64 tl) := cell_of_row _ _ _ _ _ _ P1.out
    have Q1_0 : V3.cell? ⟨V2.heap.size, 0, none⟩ = some (.int .u64 th) := cell_of_row _ _ _ _ _ _ Q1.out
    have Q1_1 : V3.cell? ⟨V2.heap.size, 1, none⟩ = some (.int .u64 tl) := cell_of_row _ _ _ _ _ _ Q1.out
    have zA1 := lt_of_heap A1.out
    have zD1 := lt_of_heap D1.out
    have zP1 := lt_of_heap P1.out
    have zQ1 := lt_of_heap Q1.out
    go_simp
    go_wp2_with fail
    refine (H4.out _).mono ?_
    rintro e V4 ⟨rfl, hb4⟩
    clear A1_0 A1_1 zA1 D1_0 D1_1 zD1 P1_0 P1_1 zP1 Q1_0 Q1_1 zQ1
    have nA1I1 := Lib.hid (lt_of_heap A1.out)
    have nD1I1 := Lib.hid (lt_of_heap D1.out)
    have nP1I1 := Lib.hid (lt_of_heap P1.out)
    have nQ1I1 := Lib.hid (lt_of_heap Q1.out)
    have B4 := Lib.hid (((B3.out).alloc (B3.out.size) _).trans (hb4.mono (by have := B3.out.size; first | assumption | (simp <;> omega) | (simp; done))))
    replace A1 := Lib.hid (row_call hb4 (row_alloc A1.out _))
    replace D1 := Lib.hid (row_call hb4 (row_alloc D1.out _))
    replace P1 := Lib.hid (row_call hb4 (row_alloc P1.out _))
    replace Q1 := Lib.hid (row_call hb4 (row_alloc Q1.out _))
    have I1 := Lib.hid (row_call hb4 (heap_alloc_new _ _))
    clear hb4
    have A1_0 : V4.cell? ⟨w.heap.size, 0, none⟩ = some (.int .i64 s) := cell_of_row _ _ _ _ _ _ A1.out
    have A1_1 : V4.cell? ⟨w.heap.size, 1, none⟩ = some (.int .i64 n) := cell_of_row _ _ _ _ _ _ A1.out
    have D1_0 : V4.cell? ⟨w.heap.size + 1, 0, none⟩ = some (.int .u64 xh) := cell_of_row _ _ _ _ _ _ D1.out
    have D1_1 : V4.cell? ⟨w.heap.size + 1, 1, none⟩ = some (.int .u64 xl) := cell_of_row _ _ _ _ _ _ D1.out
    have P1_0 : V4.cell? ⟨V1.heap.size, 0, none⟩ = some (.int .u64 th) := cell_of_row _ _ _ _ _ _ P1.out
    have P1_1 : V4.cell? ⟨V1.heap.size, 1, none⟩ = some (.int .u64 tl) := cell_of_row _ _ _ _ _ _ P1.out
    have Q1_0 : V4.cell? ⟨V2.heap.size, 0, none⟩ = some (.int .u64 th) := cell_of_row _ _ _ _ _ _ Q1.out
    have Q1_1 : V4.cell? ⟨V2.heap.size, 1, none⟩ = some (.int .u64 tl) := cell_of_row _ _ _ _ _ _ Q1.out
    have I1_0 : V4.cell? ⟨V3.heap.size, 0, none⟩ = some (.int .i64 S) := cell_of_row _ _ _ _ _ _ I1.out
    have I1_1 : V4.cell? ⟨V3.heap.size, 1, none⟩ = some (.int .i64 N) := cell_of_row _ _ _ _ _ _ I1.out
    have zA1 := lt_of_heap A1.out
    have zD1 := lt_of_heap D1.out
    have zP1 := lt_of_heap P1.out
    have zQ1 := lt_of_heap Q1.out
    have zI1 := lt_of_heap I1.out
    go_simp
    go_wp2_with fail
    refine (H6.out _).mono ?_
    rintro e V5 ⟨rfl, hb5⟩
    clear A1_0 A1_1 zA1 D1_0 D1_1 zD1 P1_0 P1_1 zP1 Q1_0 Q1_1 zQ1 I1_0 I1_1 zI1
    have nA1J1 := Lib.hid (lt_of_heap A1.out)
    have nD1J1 := Lib.hid (lt_of_heap D1.out)
    have nP1J1 := Lib.hid (lt_of_heap P1.out)
    have nQ1J1 := Lib.hid (lt_of_heap Q1.out)
    have nI1J1 := Lib.hid (lt_of_heap I1.out)
    have B5 := Lib.hid (((B4.out).alloc (B4.out.size) _).trans (hb5.mono (by have := B4.out.size; first | assumption | (simp <;> omega) | (simp; done))))
    replace A1 := Lib.hid (row_call hb5 (row_alloc A1.out _))
    replace D1 := Lib.hid (row_call hb5 (row_alloc D1.out _))
    replace P1 := Lib.hid (row_call hb5 (row_alloc P1.out _))
    replace Q1 := Lib.hid (row_call hb5 (row_alloc Q1.out _))
    replace I1 := Lib.hid (row_call hb5 (row_alloc I1.out _))
    have J1 := Lib.hid (row_call hb5 (heap_alloc_new _ _))
    clear hb5
    have A1_0 : V5.cell? ⟨w.heap.size, 0, none⟩ = some (.int .i64 s) := cell_of_row _ _ _ _ _ _ A1.out
    have A1_1 : V5.cell? ⟨w.heap.size, 1, none⟩ = some (.int .i64 n) := cell_of_row _ _ _ _ _ _ A1.out
    have D1_0 : V5.cell? ⟨w.heap.size + 1, 0, none⟩ = some (.int .u64 xh) := cell_of_row _ _ _ _ _ _ D1.out
    have D1_1 : V5.cell? ⟨w.heap.size + 1, 1, none⟩ = some (.int .u64 xl) := cell_of_row _ _ _ _ _ _ D1.out
    have P1_0 : V5.cell? ⟨V1.heap.size, 0, none⟩ = some (.int .u64 th) := cell_of_row _ _ _ _ _ _ P1.out
    have P1_1 : V5.cell? ⟨V1.heap.size, 1, none⟩ = some (.int .u64 tl) := cell_of_row _ _ _ _ _ _ P1.out
    have Q1_0 : V5.cell? ⟨V2.heap.size, 0, none⟩ = some (.int .u64 th) := cell_of_row _ _ _ _ _ _ Q1.out
    have Q1_1 : V5.cell? ⟨V2.heap.size, 1, none⟩ = some (.int .u64 tl) := cell_of_row _ _ _ _ _ _ Q1.out
    have I1_0 : V5.cell? ⟨V3.heap.size, 0, none⟩ = some (.int .i64 S) := cell_of_row _ _ _ _ _ _ I1.out
    have I1_1 : V5.cell? ⟨V3.heap.size, 1, none⟩ = some (.int .i64 N) := cell_of_row _ _ _ _ _ _ I1.out
    have J1_0 : V5.cell? ⟨V4.heap.size, 0, none⟩ = some (.int .i64 S) := cell_of_row _ _ _ _ _ _ J1.out
    have J1_1 : V5.cell? ⟨V4.heap.size, 1, none⟩ = some (.int .i64 N) := cell_of_row _ _ _ _ _ _ J1.out
    have zA1 := lt_of_heap A1.out
    have zD1 := lt_of_heap D1.out
    have zP1 := lt_of_heap P1.out
    have zQ1 := lt_of_heap Q1.out
    have zI1 := lt_of_heap I1.out
    have zJ1 := lt_of_heap J1.out
    go_simp
    go_wp2
    go_ret
    exact ⟨rfl, by first | exact B5.out | exact B5.out.alloc B5.out.size _⟩
end Go.Proofs.Ytlpbkdihjpceoaa
