/- Contracts of package round: a number. -/
import Derived.Test.YtlfbiidnfheelaaRpkB
import Derived.Test.YtlfbiidnfheelaaEqlW
import Derived.Test.YtlfbiidnfheelaaLotP
namespace Go.Proofs.Ytlfbiidnfheelaa
set_option linter.unusedVariables false
set_option linter.unusedSimpArgs false
open Go.ChangeShapes Go.WideShapes Go.ChangeAt Go.RowKit

set_option maxHeartbeats 3200000 in
set_option maxRecDepth 100000 in
theorem wide_bad1 (xh xl yh yl nh nl : Nat) (m : Int) (w : World)
    (HA : Hid (∀ w, Calls Try.prog 18 #[.agg #[.int .u64 68719476736, .int .u64 0]] w fun e w' => e = .returned (.agg #[.int .u64 nh, .int .u64 nl]) ∧ Below w.heap.size w w'))
    (H1 : Hid (∀ w, Calls Try.prog 17 #[.agg #[.int .u64 xh, .int .u64 xl], .agg #[.int .u64 nh, .int .u64 nl], .agg #[.int .u64 68719476736, .int .u64 0]] w fun e w' => e = .returned (.bool false) ∧ Below w.heap.size w w'))
    : Calls Try.prog 8 #[.agg #[.int .u64 xh, .int .u64 xl], .agg #[.int .u64 yh, .int .u64 yl], .int .i64 m] w fun e w' => e = .returned (.tuple #[.agg #[.int .u64 0, .int .u64 0], .int .i64 5]) ∧ Below w.heap.size w w' := by
  go_enter Try.func8, Try.ntmps8
  refine wp_shut ?_
  go_wp2_with fail
  
  obtain ⟨W0, hW0⟩ : ∃ W0, W0 = ((((w.alloc (Obj.cells #[Value.int .u64 xh, Value.int .u64 xl] 24)).alloc (Obj.cells #[Value.int .u64 yh, Value.int .u64 yl] 24)).alloc (Obj.cells #[Value.int .u64 0, Value.int .u64 0] 24)).alloc (Obj.cells #[Value.int .u64 68719476736, Value.int .u64 0] 24)) := ⟨_, rfl⟩
  have X1 := Lib.hid (row_at (k' := w.heap.size) (by simp) (row_by hW0 (row_alloc (row_alloc (row_alloc (heap_alloc_new _ _) _) _) _)))
  have U1 := Lib.hid (row_at (k' := w.heap.size + 1) (by simp) (row_by hW0 (row_alloc (row_alloc (heap_alloc_new _ _) _) _)))
  have Z1 := Lib.hid (row_at (k' := w.heap.size + 1 + 1) (by simp) (row_by hW0 (row_alloc (heap_alloc_new _ _) _)))
  have M1 := Lib.hid (row_at (k' := w.heap.size + 1 + 1 + 1) (by simp) (row_by hW0 (heap_alloc_new _ _)))
  have X1_0 : W0.cell? ⟨w.heap.size, 0, none⟩ = some (.int .u64 xh) := cell_of_row _ _ _ _ _ _ X1.out
  have X1_1 : W0.cell? ⟨w.heap.size, 1, none⟩ = some (.int .u64 xl) := cell_of_row _ _ _ _ _ _ X1.out
  have zX1 := lt_of_heap X1.out
  have U1_0 : W0.cell? ⟨w.heap.size + 1, 0, none⟩ = some (.int .u64 yh) := cell_of_row _ _ _ _ _ _ U1.out
  have U1_1 : W0.cell? ⟨w.heap.size + 1, 1, none⟩ = some (.int .u64 yl) := cell_of_row _ _ _ _ _ _ U1.out
  have zU1 := lt_of_heap U1.out
  have Z1_0 : W0.cell? ⟨w.heap.size + 1 + 1, 0, none⟩ = some (.int .u64 0) := cell_of_row _ _ _ _ _ _ Z1.out
  have Z1_1 : W0.cell? ⟨w.heap.size + 1 + 1, 1, none⟩ = some (.int .u64 0) := cell_of_row _ _ _ _ _ _ Z1.out
  have zZ1 := lt_of_heap Z1.out
  have M1_0 : W0.cell? ⟨w.heap.size + 1 + 1 + 1, 0, none⟩ = some (.int .u64 68719476736) := cell_of_row _ _ _ _ _ _ M1.out
  have M1_1 : W0.cell? ⟨w.heap.size + 1 + 1 + 1, 1, none⟩ = some (.int .u64 0) := cell_of_row _ _ _ _ _ _ M1.out
  have zM1 := lt_of_heap M1.out
  have HB0 := Lib.hid (below_by hW0 (((((Below.refl w.heap.size w).alloc (Nat.le_refl _) _).alloc (by simp <;> omega) _).alloc (by simp <;> omega) _).alloc (by simp <;> omega) _))
  have zW0 := HB0.out.size
  have HW0 := Lib.hid hW0
  clear hW0
  try go_simp
  rw [← HW0.out]
  have hk0 : ∀ w2, Below W0.heap.size W0 w2 → w2.cell? ⟨w.heap.size, 0, none⟩ = some (.int .u64 xh) := fun w2 hb => (by rw [hb.cell (p := ⟨w.heap.size, 0, none⟩) (by assumption)]; assumption)
  have hk1 : ∀ w2, Below W0.heap.size W0 w2 → w2.cell? ⟨w.heap.size, 1, none⟩ = some (.int .u64 xl) := fun w2 hb => (by rw [hb.cell (p := ⟨w.heap.size, 1, none⟩) (by assumption)]; assumption)
  have hk2 : ∀ w2, Below W0.heap.size W0 w2 → w2.cell? ⟨w.heap.size + 1, 0, none⟩ = some (.int .u64 yh) := fun w2 hb => (by rw [hb.cell (p := ⟨w.heap.size + 1, 0, none⟩) (by assumption)]; assumption)
  have hk3 : ∀ w2, Below W0.heap.size W0 w2 → w2.cell? ⟨w.heap.size + 1, 1, none⟩ = some (.int .u64 yl) := fun w2 hb => (by rw [hb.cell (p := ⟨w.heap.size + 1, 1, none⟩) (by assumption)]; assumption)
  have hk4 : ∀ w2, Below W0.heap.size W0 w2 → w2.cell? ⟨w.heap.size + 1 + 1, 0, none⟩ = some (.int .u64 0) := fun w2 hb => (by rw [hb.cell (p := ⟨w.heap.size + 1 + 1, 0, none⟩) (by assumption)]; assumption)
  have hk5 : ∀ w2, Below W0.heap.size W0 w2 → w2.cell? ⟨w.heap.size + 1 + 1, 1, none⟩ = some (.int .u64 0) := fun w2 hb => (by rw [hb.cell (p := ⟨w.heap.size + 1 + 1, 1, none⟩) (by assumption)]; assumption)
  have hk6 : ∀ w2, Below W0.heap.size W0 w2 → w2.cell? ⟨w.heap.size + 1 + 1 + 1, 0, none⟩ = some (.int .u64 68719476736) := fun w2 hb => (by rw [hb.cell (p := ⟨w.heap.size + 1 + 1 + 1, 0, none⟩) (by assumption)]; assumption)
  have hk7 : ∀ w2, Below W0.heap.size W0 w2 → w2.cell? ⟨w.heap.size + 1 + 1 + 1, 1, none⟩ = some (.int .u64 0) := fun w2 hb => (by rw [hb.cell (p := ⟨w.heap.size + 1 + 1 + 1, 1, none⟩) (by assumption)]; assumption)
  clear X1_0 X1_1 U1_0 U1_1 Z1_0 Z1_1 M1_0 M1_1
  refine region_plan (S := fun w2 => Below W0.heap.size W0 w2) [(0, true), (1, true), (3, true), (2, false), (4, false), (5, true), (6, true), (7, true), (9, true), (8, true), (10, true), (11, true), (12, true), (13, true), (14, true), (15, true), (16, true), (17, true)] (by as_aux_lemma => kernel_rfl) (by as_aux_lemma => kernel_rfl) (by as_aux_lemma => kernel_rfl) (by as_aux_lemma => kernel_rfl) (Below.refl W0.heap.size W0).drew ?_
  have Y0 := Lib.hid (Below.refl W0.heap.size W0).drew
  refine plan_yes (v := ?v1) (by simp only [List.getElem?_toArray, List.getElem?_cons_zero, List.getElem?_cons_succ]; exact rfl) (Or.inl ⟨by as_aux_lemma => rfl, ?hy1⟩) ?rest1
  case hy1 => (intro w2 hSw; (try dsimp only at hSw); go_simp; try with_reducible rfl)
  try simp only [Act.put, List.setIfInBounds_toArray, List.set_cons_zero, List.set_cons_succ]
  refine plan_yes (v := ?v2) (by simp only [List.getElem?_toArray, List.getElem?_cons_zero, List.getElem?_cons_succ]; exact rfl) (Or.inl ⟨by as_aux_lemma => rfl, ?hy2⟩) ?rest2
  case hy2 => (intro w2 hSw; (try dsimp only at hSw); go_simp; try with_reducible rfl)
  try simp only [Act.put, List.setIfInBounds_toArray, List.set_cons_zero, List.set_cons_succ]
  refine plan_yes (v := ?v3) (by simp only [List.getElem?_toArray, List.getElem?_cons_zero, List.getElem?_cons_succ]; exact rfl) (Or.inl ⟨by as_aux_lemma => rfl, ?hy3⟩) ?rest3
  case hy3 => (intro w2 hSw; (try dsimp only at hSw); go_simp; try with_reducible rfl)
  try simp only [Act.put, List.setIfInBounds_toArray, List.set_cons_zero, List.set_cons_succ]
  refine plan_calls (by simp only [List.getElem?_toArray, List.getElem?_cons_zero, List.getElem?_cons_succ]; exact rfl) (by as_aux_lemma => rfl) (fun K hK => ?_)
  go_simp
  refine (HA.out _).mono ?_
  rintro e Y1w ⟨rfl, hb1⟩
  have Y1 := Lib.hid (keepS (W0 := W0) Y0.out hb1)
  clear hb1
  refine hK.out _ _ Y1.out ?_
  clear hK K
  try simp only [Act.put, List.setIfInBounds_toArray, List.set_cons_zero, List.set_cons_succ]
  as_aux_lemma =>
   refine plan_calls (by simp only [List.getElem?_toArray, List.getElem?_cons_zero, List.getElem?_cons_succ]; exact rfl) (by as_aux_lemma => rfl) (fun K hK => ?_)
   go_simp
   refine (H1.out _).mono ?_
   rintro e Y2w ⟨rfl, hb1⟩
   have Y2 := Lib.hid (keepS (W0 := W0) Y1.out hb1)
   clear hb1
   refine hK.out _ _ Y2.out ?_
   clear hK K
   try simp only [Act.put, List.setIfInBounds_toArray, List.set_cons_zero, List.set_cons_succ]
   as_aux_lemma =>
    refine plan_yes (v := ?v4) (by simp only [List.getElem?_toArray, List.getElem?_cons_zero, List.getElem?_cons_succ]; exact rfl) (Or.inl ⟨by as_aux_lemma => rfl, ?hy4⟩) ?rest4
    case hy4 => (intro w2 hSw; (try dsimp only at hSw); go_simp; try with_reducible rfl)
    try simp only [Act.put, List.setIfInBounds_toArray, List.set_cons_zero, List.set_cons_succ]
    refine plan_yes (v := ?v5) (by simp only [List.getElem?_toArray, List.getElem?_cons_zero, List.getElem?_cons_succ]; exact rfl) (Or.inl ⟨by as_aux_lemma => rfl, ?hy5⟩) ?rest5
    case hy5 => (intro w2 hSw; (try dsimp only at hSw); go_simp; try with_reducible rfl)
    try simp only [Act.put, List.setIfInBounds_toArray, List.set_cons_zero, List.set_cons_succ]
    refine plan_yes (v := undef) (by simp only [List.getElem?_toArray, List.getElem?_cons_zero, List.getElem?_cons_succ]; exact rfl) (Or.inr ⟨by as_aux_lemma => rfl, rfl⟩) ?_
    try simp only [Act.put, List.setIfInBounds_toArray, List.set_cons_zero, List.set_cons_succ]
    refine plan_yes (v := undef) (by simp only [List.getElem?_toArray, List.getElem?_cons_zero, List.getElem?_cons_succ]; exact rfl) (Or.inr ⟨by as_aux_lemma => rfl, rfl⟩) ?_
    try simp only [Act.put, List.setIfInBounds_toArray, List.set_cons_zero, List.set_cons_succ]
    refine plan_yes (v := undef) (by simp only [List.getElem?_toArray, List.getElem?_cons_zero, List.getElem?_cons_succ]; exact rfl) (Or.inr ⟨by as_aux_lemma => rfl, rfl⟩) ?_
    try simp only [Act.put, List.setIfInBounds_toArray, List.set_cons_zero, List.set_cons_succ]
    refine plan_yes (v := undef) (by simp only [List.getElem?_toArray, List.getElem?_cons_zero, List.getElem?_cons_succ]; exact rfl) (Or.inr ⟨by as_aux_lemma => rfl, rfl⟩) ?_
    try simp only [Act.put, List.setIfInBounds_toArray, List.set_cons_zero, List.set_cons_succ]
    refine plan_yes (v := undef) (by simp only [List.getElem?_toArray, List.getElem?_cons_zero, List.getElem?_cons_succ]; exact rfl) (Or.inr ⟨by as_aux_lemma => rfl, rfl⟩) ?_
    try simp only [Act.put, List.setIfInBounds_toArray, List.set_cons_zero, List.set_cons_succ]
    refine plan_yes (v := ?v6) (by simp only [List.getElem?_toArray, List.getElem?_cons_zero, List.getElem?_cons_succ]; exact rfl) (Or.inl ⟨by as_aux_lemma => rfl, ?hy6⟩) ?rest6
    case hy6 => (intro w2 hSw; (try dsimp only at hSw); go_simp; try with_reducible rfl)
    try simp only [Act.put, List.setIfInBounds_toArray, List.set_cons_zero, List.set_cons_succ]
    refine plan_yes (v := ?v7) (by simp only [List.getElem?_toArray, List.getElem?_cons_zero, List.getElem?_cons_succ]; exact rfl) (Or.inl ⟨by as_aux_lemma => rfl, ?hy7⟩) ?rest7
    case hy7 => (intro w2 hSw; (try dsimp only at hSw); go_simp; try with_reducible rfl)
    try simp only [Act.put, List.setIfInBounds_toArray, List.set_cons_zero, List.set_cons_succ]
    refine plan_yes (v := undef) (by simp only [List.getElem?_toArray, List.getElem?_cons_zero, List.getElem?_cons_succ]; exact rfl) (Or.inr ⟨by as_aux_lemma => rfl, rfl⟩) ?_
    try simp only [Act.put, List.setIfInBounds_toArray, List.set_cons_zero, List.set_cons_succ]
    refine plan_yes (v := undef) (by simp only [List.getElem?_toArray, List.getElem?_cons_zero, List.getElem?_cons_succ]; exact rfl) (Or.inr ⟨by as_aux_lemma => rfl, rfl⟩) ?_
    try simp only [Act.put, List.setIfInBounds_toArray, List.set_cons_zero, List.set_cons_succ]
    refine plan_yes (v := undef) (by simp only [List.getElem?_toArray, List.getElem?_cons_zero, List.getElem?_cons_succ]; exact rfl) (Or.inr ⟨by as_aux_lemma => rfl, rfl⟩) ?_
    try simp only [Act.put, List.setIfInBounds_toArray, List.set_cons_zero, List.set_cons_succ]
    refine plan_yes (v := ?v8) (by simp only [List.getElem?_toArray, List.getElem?_cons_zero, List.getElem?_cons_succ]; exact rfl) (Or.inl ⟨by as_aux_lemma => rfl, ?hy8⟩) ?rest8
    case hy8 => (intro w2 hSw; (try dsimp only at hSw); go_simp; try with_reducible rfl)
    try simp only [Act.put, List.setIfInBounds_toArray, List.set_cons_zero, List.set_cons_succ]
    refine plan_done (NoPanic.normal ?_)
    have B0 := Y2.out
    have BW := Lib.hid (HB0.out.trans (B0.mono zW0))
    replace X1 := Lib.hid (row_call B0 X1.out)
    replace U1 := Lib.hid (row_call B0 U1.out)
    replace Z1 := Lib.hid (row_call B0 Z1.out)
    replace M1 := Lib.hid (row_call B0 M1.out)
    have B1 := BW
    clear BW B0 hk0 hk1 hk2 hk3 hk4 hk5 hk6 hk7 zX1 zU1 zZ1 zM1 Y0 Y1 Y2
    obtain ⟨V1, rfl⟩ : ∃ V, V = Y2w := ⟨_, rfl⟩
    have X1_0 : V1.cell? ⟨w.heap.size, 0, none⟩ = some (.int .u64 xh) := cell_of_row _ _ _ _ _ _ X1.out
    have X1_f0 : V1.frozen? ⟨w.heap.size, 0, none⟩ = false := (by simp [World.frozen?, X1.out])
    have X1_1 : V1.cell? ⟨w.heap.size, 1, none⟩ = some (.int .u64 xl) := cell_of_row _ _ _ _ _ _ X1.out
    have X1_f1 : V1.frozen? ⟨w.heap.size, 1, none⟩ = false := (by simp [World.frozen?, X1.out])
    have zX1 := lt_of_heap X1.out
    have U1_0 : V1.cell? ⟨w.heap.size + 1, 0, none⟩ = some (.int .u64 yh) := cell_of_row _ _ _ _ _ _ U1.out
    have U1_1 : V1.cell? ⟨w.heap.size + 1, 1, none⟩ = some (.int .u64 yl) := cell_of_row _ _ _ _ _ _ U1.out
    have zU1 := lt_of_heap U1.out
    have Z1_0 : V1.cell? ⟨w.heap.size + 1 + 1, 0, none⟩ = some (.int .u64 0) := cell_of_row _ _ _ _ _ _ Z1.out
    have Z1_f0 : V1.frozen? ⟨w.heap.size + 1 + 1, 0, none⟩ = false := (by simp [World.frozen?, Z1.out])
    have Z1_1 : V1.cell? ⟨w.heap.size + 1 + 1, 1, none⟩ = some (.int .u64 0) := cell_of_row _ _ _ _ _ _ Z1.out
    have Z1_f1 : V1.frozen? ⟨w.heap.size + 1 + 1, 1, none⟩ = false := (by simp [World.frozen?, Z1.out])
    have zZ1 := lt_of_heap Z1.out
    have M1_0 : V1.cell? ⟨w.heap.size + 1 + 1 + 1, 0, none⟩ = some (.int .u64 68719476736) := cell_of_row _ _ _ _ _ _ M1.out
    have M1_1 : V1.cell? ⟨w.heap.size + 1 + 1 + 1, 1, none⟩ = some (.int .u64 0) := cell_of_row _ _ _ _ _ _ M1.out
    have zM1 := lt_of_heap M1.out
    go_simp
    go_wp2
    refine shut_ret (v := .tuple #[.agg #[.int .u64 0, .int .u64 0], .int .i64 5]) (by simp [results, Try.results8, go_sem, zZ1, Z1_0, Z1_1]) rfl ⟨rfl, ?_⟩
    exact keep2 B1.out (by omega) _ _
set_option maxHeartbeats 3200000 in
set_option maxRecDepth 100000 in
theorem wide_bad2 (xh xl yh yl nh nl : Nat) (m : Int) (w : World)
    (HA : Hid (∀ w, Calls Try.prog 18 #[.agg #[.int .u64 68719476736, .int .u64 0]] w fun e w' => e = .returned (.agg #[.int .u64 nh, .int .u64 nl]) ∧ Below w.heap.size w w'))
    (H1 : Hid (∀ w, Calls Try.prog 17 #[.agg #[.int .u64 xh, .int .u64 xl], .agg #[.int .u64 nh, .int .u64 nl], .agg #[.int .u64 68719476736, .int .u64 0]] w fun e w' => e = .returned (.bool true) ∧ Below w.heap.size w w'))
    (HB : Hid (∀ w, Calls Try.prog 19 #[.int .i64 1] w fun e w' => e = .returned (.agg #[.int .u64 0, .int .u64 1]) ∧ Below w.heap.size w w'))
    (H2 : Hid (∀ w, Calls Try.prog 17 #[.agg #[.int .u64 yh, .int .u64 yl], .agg #[.int .u64 0, .int .u64 1], .agg #[.int .u64 65536, .int .u64 0]] w fun e w' => e = .returned (.bool false) ∧ Below w.heap.size w w'))
    : Calls Try.prog 8 #[.agg #[.int .u64 xh, .int .u64 xl], .agg #[.int .u64 yh, .int .u64 yl], .int .i64 m] w fun e w' => e = .returned (.tuple #[.agg #[.int .u64 0, .int .u64 0], .int .i64 5]) ∧ Below w.heap.size w w' := by
  go_enter Try.func8, Try.ntmps8
  refine wp_shut ?_
  go_wp2_with fail
  
  obtain ⟨W0, hW0⟩ : ∃ W0, W0 = ((((w.alloc (Obj.cells #[Value.int .u64 xh, Value.int .u64 xl] 24)).alloc (Obj.cells #[Value.int .u64 yh, Value.int .u64 yl] 24)).alloc (Obj.cells #[Value.int .u64 0, Value.int .u64 0] 24)).alloc (Obj.cells #[Value.int .u64 68719476736, Value.int .u64 0] 24)) := ⟨_, rfl⟩
  have X1 := Lib.hid (row_at (k' := w.heap.size) (by simp) (row_by hW0 (row_alloc (row_alloc (row_alloc (heap_alloc_new _ _) _) _) _)))
  have U1 := Lib.hid (row_at (k' := w.heap.size + 1) (by simp) (row_by hW0 (row_alloc (row_alloc (heap_alloc_new _ _) _) _)))
  have Z1 := Lib.hid (row_at (k' := w.heap.size + 1 + 1) (by simp) (row_by hW0 (row_alloc (heap_alloc_new _ _) _)))
  have M1 := Lib.hid (row_at (k' := w.heap.size + 1 + 1 + 1) (by simp) (row_by hW0 (heap_alloc_new _ _)))
  have X1_0 : W0.cell? ⟨w.heap.size, 0, none⟩ = some (.int .u64 xh) := cell_of_row _ _ _ _ _ _ X1.out
  have X1_1 : W0.cell? ⟨w.heap.size, 1, none⟩ = some (.int .u64 xl) := cell_of_row _ _ _ _ _ _ X1.out
  have zX1 := lt_of_heap X1.out
  have U1_0 : W0.cell? ⟨w.heap.size + 1, 0, none⟩ = some (.int .u64 yh) := cell_of_row _ _ _ _ _ _ U1.out
  have U1_1 : W0.cell? ⟨w.heap.size + 1, 1, none⟩ = some (.int .u64 yl) := cell_of_row _ _ _ _ _ _ U1.out
  have zU1 := lt_of_heap U1.out
  have Z1_0 : W0.cell? ⟨w.heap.size + 1 + 1, 0, none⟩ = some (.int .u64 0) := cell_of_row _ _ _ _ _ _ Z1.out
  have Z1_1 : W0.cell? ⟨w.heap.size + 1 + 1, 1, none⟩ = some (.int .u64 0) := cell_of_row _ _ _ _ _ _ Z1.out
  have zZ1 := lt_of_heap Z1.out
  have M1_0 : W0.cell? ⟨w.heap.size + 1 + 1 + 1, 0, none⟩ = some (.int .u64 68719476736) := cell_of_row _ _ _ _ _ _ M1.out
  have M1_1 : W0.cell? ⟨w.heap.size + 1 + 1 + 1, 1, none⟩ = some (.int .u64 0) := cell_of_row _ _ _ _ _ _ M1.out
  have zM1 := lt_of_heap M1.out
  have HB0 := Lib.hid (below_by hW0 (((((Below.refl w.heap.size w).alloc (Nat.le_refl _) _).alloc (by simp <;> omega) _).alloc (by simp <;> omega) _).alloc (by simp <;> omega) _))
  have zW0 := HB0.out.size
  have HW0 := Lib.hid hW0
  clear hW0
  try go_simp
  rw [← HW0.out]
  have hk0 : ∀ w2, Below W0.heap.size W0 w2 → w2.cell? ⟨w.heap.size, 0, none⟩ = some (.int .u64 xh) := fun w2 hb => (by rw [hb.cell (p := ⟨w.heap.size, 0, none⟩) (by assumption)]; assumption)
  have hk1 : ∀ w2, Below W0.heap.size W0 w2 → w2.cell? ⟨w.heap.size, 1, none⟩ = some (.int .u64 xl) := fun w2 hb => (by rw [hb.cell (p := ⟨w.heap.size, 1, none⟩) (by assumption)]; assumption)
  have hk2 : ∀ w2, Below W0.heap.size W0 w2 → w2.cell? ⟨w.heap.size + 1, 0, none⟩ = some (.int .u64 yh) := fun w2 hb => (by rw [hb.cell (p := ⟨w.heap.size + 1, 0, none⟩) (by assumption)]; assumption)
  have hk3 : ∀ w2, Below W0.heap.size W0 w2 → w2.cell? ⟨w.heap.size + 1, 1, none⟩ = some (.int .u64 yl) := fun w2 hb => (by rw [hb.cell (p := ⟨w.heap.size + 1, 1, none⟩) (by assumption)]; assumption)
  have hk4 : ∀ w2, Below W0.heap.size W0 w2 → w2.cell? ⟨w.heap.size + 1 + 1, 0, none⟩ = some (.int .u64 0) := fun w2 hb => (by rw [hb.cell (p := ⟨w.heap.size + 1 + 1, 0, none⟩) (by assumption)]; assumption)
  have hk5 : ∀ w2, Below W0.heap.size W0 w2 → w2.cell? ⟨w.heap.size + 1 + 1, 1, none⟩ = some (.int .u64 0) := fun w2 hb => (by rw [hb.cell (p := ⟨w.heap.size + 1 + 1, 1, none⟩) (by assumption)]; assumption)
  have hk6 : ∀ w2, Below W0.heap.size W0 w2 → w2.cell? ⟨w.heap.size + 1 + 1 + 1, 0, none⟩ = some (.int .u64 68719476736) := fun w2 hb => (by rw [hb.cell (p := ⟨w.heap.size + 1 + 1 + 1, 0, none⟩) (by assumption)]; assumption)
  have hk7 : ∀ w2, Below W0.heap.size W0 w2 → w2.cell? ⟨w.heap.size + 1 + 1 + 1, 1, none⟩ = some (.int .u64 0) := fun w2 hb => (by rw [hb.cell (p := ⟨w.heap.size + 1 + 1 + 1, 1, none⟩) (by assumption)]; assumption)
  clear X1_0 X1_1 U1_0 U1_1 Z1_0 Z1_1 M1_0 M1_1
  refine region_plan (S := fun w2 => Below W0.heap.size W0 w2) [(0, true), (1, true), (3, true), (2, false), (4, false), (5, true), (6, true), (7, true), (9, true), (8, false), (10, false), (11, true), (12, true), (13, true), (14, true), (15, true), (16, true), (17, true)] (by as_aux_lemma => kernel_rfl) (by as_aux_lemma => kernel_rfl) (by as_aux_lemma => kernel_rfl) (by as_aux_lemma => kernel_rfl) (Below.refl W0.heap.size W0).drew ?_
  have Y0 := Lib.hid (Below.refl W0.heap.size W0).drew
  refine plan_yes (v := ?v1_2) (by simp only [List.getElem?_toArray, List.getElem?_cons_zero, List.getElem?_cons_succ]; exact rfl) (Or.inl ⟨by as_aux_lemma => rfl, ?hy1_2⟩) ?rest1_2
  case hy1_2 => (intro w2 hSw; (try dsimp only at hSw); go_simp; try with_reducible rfl)
  try simp only [Act.put, List.setIfInBounds_toArray, List.set_cons_zero, List.set_cons_succ]
  refine plan_yes (v := ?v2_2) (by simp only [List.getElem?_toArray, List.getElem?_cons_zero, List.getElem?_cons_succ]; exact rfl) (Or.inl ⟨by as_aux_lemma => rfl, ?hy2_2⟩) ?rest2_2
  case hy2_2 => (intro w2 hSw; (try dsimp only at hSw); go_simp; try with_reducible rfl)
  try simp only [Act.put, List.setIfInBounds_toArray, List.set_cons_zero, List.set_cons_succ]
  refine plan_yes (v := ?v3_2) (by simp only [List.getElem?_toArray, List.getElem?_cons_zero, List.getElem?_cons_succ]; exact rfl) (Or.inl ⟨by as_aux_lemma => rfl, ?hy3_2⟩) ?rest3_2
  case hy3_2 => (intro w2 hSw; (try dsimp only at hSw); go_simp; try with_reducible rfl)
  try simp only [Act.put, List.setIfInBounds_toArray, List.set_cons_zero, List.set_cons_succ]
  refine plan_calls (by simp only [List.getElem?_toArray, List.getElem?_cons_zero, List.getElem?_cons_succ]; exact rfl) (by as_aux_lemma => rfl) (fun K hK => ?_)
  go_simp
  refine (HA.out _).mono ?_
  rintro e Y1w ⟨rfl, hb1⟩
  have Y1 := Lib.hid (keepS (W0 := W0) Y0.out hb1)
  clear hb1
  refine hK.out _ _ Y1.out ?_
  clear hK K
  try simp only [Act.put, List.setIfInBounds_toArray, List.set_cons_zero, List.set_cons_succ]
  as_aux_lemma =>
   refine plan_calls (by simp only [List.getElem?_toArray, List.getElem?_cons_zero, List.getElem?_cons_succ]; exact rfl) (by as_aux_lemma => rfl) (fun K hK => ?_)
   go_simp
   refine (H1.out _).mono ?_
   rintro e Y2w ⟨rfl, hb1⟩
   have Y2 := Lib.hid (keepS (W0 := W0) Y1.out hb1)
   clear hb1
   refine hK.out _ _ Y2.out ?_
   clear hK K
   try simp only [Act.put, List.setIfInBounds_toArray, List.set_cons_zero, List.set_cons_succ]
   as_aux_lemma =>
    refine plan_yes (v := ?v4_2) (by simp only [List.getElem?_toArray, List.getElem?_cons_zero, List.getElem?_cons_succ]; exact rfl) (Or.inl ⟨by as_aux_lemma => rfl, ?hy4_2⟩) ?rest4_2
    case hy4_2 => (intro w2 hSw; (try dsimp only at hSw); go_simp; try with_reducible rfl)
    try simp only [Act.put, List.setIfInBounds_toArray, List.set_cons_zero, List.set_cons_succ]
    refine plan_yes (v := ?v5_2) (by simp only [List.getElem?_toArray, List.getElem?_cons_zero, List.getElem?_cons_succ]; exact rfl) (Or.inl ⟨by as_aux_lemma => rfl, ?hy5_2⟩) ?rest5_2
    case hy5_2 => (intro w2 hSw; (try dsimp only at hSw); go_simp; try with_reducible rfl)
    try simp only [Act.put, List.setIfInBounds_toArray, List.set_cons_zero, List.set_cons_succ]
    refine plan_yes (v := ?v6_2) (by simp only [List.getElem?_toArray, List.getElem?_cons_zero, List.getElem?_cons_succ]; exact rfl) (Or.inl ⟨by as_aux_lemma => rfl, ?hy6_2⟩) ?rest6_2
    case hy6_2 => (intro w2 hSw; (try dsimp only at hSw); go_simp; try with_reducible rfl)
    try simp only [Act.put, List.setIfInBounds_toArray, List.set_cons_zero, List.set_cons_succ]
    refine plan_yes (v := ?v7_2) (by simp only [List.getElem?_toArray, List.getElem?_cons_zero, List.getElem?_cons_succ]; exact rfl) (Or.inl ⟨by as_aux_lemma => rfl, ?hy7_2⟩) ?rest7_2
    case hy7_2 => (intro w2 hSw; (try dsimp only at hSw); go_simp; try with_reducible rfl)
    try simp only [Act.put, List.setIfInBounds_toArray, List.set_cons_zero, List.set_cons_succ]
    refine plan_calls (by simp only [List.getElem?_toArray, List.getElem?_cons_zero, List.getElem?_cons_succ]; exact rfl) (by as_aux_lemma => rfl) (fun K hK => ?_)
    go_simp
    refine (HB.out _).mono ?_
    rintro e Y3w ⟨rfl, hb1⟩
    have Y3 := Lib.hid (keepS (W0 := W0) Y2.out hb1)
    clear hb1
    refine hK.out _ _ Y3.out ?_
    clear hK K
    try simp only [Act.put, List.setIfInBounds_toArray, List.set_cons_zero, List.set_cons_succ]
    as_aux_lemma =>
     refine plan_calls (by simp only [List.getElem?_toArray, List.getElem?_cons_zero, List.getElem?_cons_succ]; exact rfl) (by as_aux_lemma => rfl) (fun K hK => ?_)
     go_simp
     refine (H2.out _).mono ?_
     rintro e Y4w ⟨rfl, hb1⟩
     have Y4 := Lib.hid (keepS (W0 := W0) Y3.out hb1)
     clear hb1
     refine hK.out _ _ Y4.out ?_
     clear hK K
     try simp only [Act.put, List.setIfInBounds_toArray, List.set_cons_zero, List.set_cons_succ]
     as_aux_lemma =>
      refine plan_yes (v := ?v8_2) (by simp only [List.getElem?_toArray, List.getElem?_cons_zero, List.getElem?_cons_succ]; exact rfl) (Or.inl ⟨by as_aux_lemma => rfl, ?hy8_2⟩) ?rest8_2
      case hy8_2 => (intro w2 hSw; (try dsimp only at hSw); go_simp; try with_reducible rfl)
      try simp only [Act.put, List.setIfInBounds_toArray, List.set_cons_zero, List.set_cons_succ]
      refine plan_yes (v := ?v9_2) (by simp only [List.getElem?_toArray, List.getElem?_cons_zero, List.getElem?_cons_succ]; exact rfl) (Or.inl ⟨by as_aux_lemma => rfl, ?hy9_2⟩) ?rest9_2
      case hy9_2 => (intro w2 hSw; (try dsimp only at hSw); go_simp; try with_reducible rfl)
      try simp only [Act.put, List.setIfInBounds_toArray, List.set_cons_zero, List.set_cons_succ]
      refine plan_yes (v := ?v10_2) (by simp only [List.getElem?_toArray, List.getElem?_cons_zero, List.getElem?_cons_succ]; exact rfl) (Or.inl ⟨by as_aux_lemma => rfl, ?hy10_2⟩) ?rest10_2
      case hy10_2 => (intro w2 hSw; (try dsimp only at hSw); go_simp; try with_reducible rfl)
      try simp only [Act.put, List.setIfInBounds_toArray, List.set_cons_zero, List.set_cons_succ]
      refine plan_yes (v := undef) (by simp only [List.getElem?_toArray, List.getElem?_cons_zero, List.getElem?_cons_succ]; exact rfl) (Or.inr ⟨by as_aux_lemma => rfl, rfl⟩) ?_
      try simp only [Act.put, List.setIfInBounds_toArray, List.set_cons_zero, List.set_cons_succ]
      refine plan_yes (v := undef) (by simp only [List.getElem?_toArray, List.getElem?_cons_zero, List.getElem?_cons_succ]; exact rfl) (Or.inr ⟨by as_aux_lemma => rfl, rfl⟩) ?_
      try simp only [Act.put, List.setIfInBounds_toArray, List.set_cons_zero, List.set_cons_succ]
      refine plan_yes (v := undef) (by simp only [List.getElem?_toArray, List.getElem?_cons_zero, List.getElem?_cons_succ]; exact rfl) (Or.inr ⟨by as_aux_lemma => rfl, rfl⟩) ?_
      try simp only [Act.put, List.setIfInBounds_toArray, List.set_cons_zero, List.set_cons_succ]
      refine plan_yes (v := ?v11_2) (by simp only [List.getElem?_toArray, List.getElem?_cons_zero, List.getElem?_cons_succ]; exact rfl) (Or.inl ⟨by as_aux_lemma => rfl, ?hy11_2⟩) ?rest11_2
      case hy11_2 => (intro w2 hSw; (try dsimp only at hSw); go_simp; try with_reducible rfl)
      try simp only [Act.put, List.setIfInBounds_toArray, List.set_cons_zero, List.set_cons_succ]
      refine plan_done (NoPanic.normal ?_)
      have B0 := Y4.out
      have BW := Lib.hid (HB0.out.trans (B0.mono zW0))
      replace X1 := Lib.hid (row_call B0 X1.out)
      replace U1 := Lib.hid (row_call B0 U1.out)
      replace Z1 := Lib.hid (row_call B0 Z1.out)
      replace M1 := Lib.hid (row_call B0 M1.out)
      have B1 := BW
      clear BW B0 hk0 hk1 hk2 hk3 hk4 hk5 hk6 hk7 zX1 zU1 zZ1 zM1 Y0 Y1 Y2 Y3 Y4
      obtain ⟨V1, rfl⟩ : ∃ V, V = Y4w := ⟨_, rfl⟩
      have X1_0 : V1.cell? ⟨w.heap.size, 0, none⟩ = some (.int .u64 xh) := cell_of_row _ _ _ _ _ _ X1.out
      have X1_f0 : V1.frozen? ⟨w.heap.size, 0, none⟩ = false := (by simp [World.frozen?, X1.out])
      have X1_1 : V1.cell? ⟨w.heap.size, 1, none⟩ = some (.int .u64 xl) := cell_of_row _ _ _ _ _ _ X1.out
      have X1_f1 : V1.frozen? ⟨w.heap.size, 1, none⟩ = false := (by simp [World.frozen?, X1.out])
      have zX1 := lt_of_heap X1.out
      have U1_0 : V1.cell? ⟨w.heap.size + 1, 0, none⟩ = some (.int .u64 yh) := cell_of_row _ _ _ _ _ _ U1.out
      have U1_1 : V1.cell? ⟨w.heap.size + 1, 1, none⟩ = some (.int .u64 yl) := cell_of_row _ _ _ _ _ _ U1.out
      have zU1 := lt_of_heap U1.out
      have Z1_0 : V1.cell? ⟨w.heap.size + 1 + 1, 0, none⟩ = some (.int .u64 0) := cell_of_row _ _ _ _ _ _ Z1.out
      have Z1_f0 : V1.frozen? ⟨w.heap.size + 1 + 1, 0, none⟩ = false := (by simp [World.frozen?, Z1.out])
      have Z1_1 : V1.cell? ⟨w.heap.size + 1 + 1, 1, none⟩ = some (.int .u64 0) := cell_of_row _ _ _ _ _ _ Z1.out
      have Z1_f1 : V1.frozen? ⟨w.heap.size + 1 + 1, 1, none⟩ = false := (by simp [World.frozen?, Z1.out])
      have zZ1 := lt_of_heap Z1.out
      have M1_0 : V1.cell? ⟨w.heap.size + 1 + 1 + 1, 0, none⟩ = some (.int .u64 68719476736) := cell_of_row _ _ _ _ _ _ M1.out
      have M1_1 : V1.cell? ⟨w.heap.size + 1 + 1 + 1, 1, none⟩ = some (.int .u64 0) := cell_of_row _ _ _ _ _ _ M1.out
      have zM1 := lt_of_heap M1.out
      go_simp
      go_wp2
      refine shut_ret (v := .tuple #[.agg #[.int .u64 0, .int .u64 0], .int .i64 5]) (by simp [results, Try.results8, go_sem, zZ1, Z1_0, Z1_1]) rfl ⟨rfl, ?_⟩
      exact keep2 B1.out (by omega) _ _
set_option maxHeartbeats 3200000 in
set_option maxRecDepth 100000 in
theorem wide_bad3 (xh xl yh yl nh nl : Nat) (m : Int) (w : World)
    (HA : Hid (∀ w, Calls Try.prog 18 #[.agg #[.int .u64 68719476736, .int .u64 0]] w fun e w' => e = .returned (.agg #[.int .u64 nh, .int .u64 nl]) ∧ Below w.heap.size w w'))
    (H1 : Hid (∀ w, Calls Try.prog 17 #[.agg #[.int .u64 xh, .int .u64 xl], .agg #[.int .u64 nh, .int .u64 nl], .agg #[.int .u64 68719476736, .int .u64 0]] w fun e w' => e = .returned (.bool true) ∧ Below w.heap.size w w'))
    (HB : Hid (∀ w, Calls Try.prog 19 #[.int .i64 1] w fun e w' => e = .returned (.agg #[.int .u64 0, .int .u64 1]) ∧ Below w.heap.size w w'))
    (H2 : Hid (∀ w, Calls Try.prog 17 #[.agg #[.int .u64 yh, .int .u64 yl], .agg #[.int .u64 0, .int .u64 1], .agg #[.int .u64 65536, .int .u64 0]] w fun e w' => e = .returned (.bool true) ∧ Below w.heap.size w w'))
    (HK : Hid (∀ w, Calls Try.prog 20 #[.int .i64 m] w fun e w' => e = .returned (.bool false) ∧ Below w.heap.size w w'))
    : Calls Try.prog 8 #[.agg #[.int .u64 xh, .int .u64 xl], .agg #[.int .u64 yh, .int .u64 yl], .int .i64 m] w fun e w' => e = .returned (.tuple #[.agg #[.int .u64 0, .int .u64 0], .int .i64 5]) ∧ Below w.heap.size w w' := by
  go_enter Try.func8, Try.ntmps8
  refine wp_shut ?_
  go_wp2_with fail
  
  obtain ⟨W0, hW0⟩ : ∃ W0, W0 = ((((w.alloc (Obj.cells #[Value.int .u64 xh, Value.int .u64 xl] 24)).alloc (Obj.cells #[Value.int .u64 yh, Value.int .u64 yl] 24)).alloc (Obj.cells #[Value.int .u64 0, Value.int .u64 0] 24)).alloc (Obj.cells #[Value.int .u64 68719476736, Value.int .u64 0] 24)) := ⟨_, rfl⟩
  have X1 := Lib.hid (row_at (k' := w.heap.size) (by simp) (row_by hW0 (row_alloc (row_alloc (row_alloc (heap_alloc_new _ _) _) _) _)))
  have U1 := Lib.hid (row_at (k' := w.heap.size + 1) (by simp) (row_by hW0 (row_alloc (row_alloc (heap_alloc_new _ _) _) _)))
  have Z1 := Lib.hid (row_at (k' := w.heap.size + 1 + 1) (by simp) (row_by hW0 (row_alloc (heap_alloc_new _ _) _)))
  have M1 := Lib.hid (row_at (k' := w.heap.size + 1 + 1 + 1) (by simp) (row_by hW0 (heap_alloc_new _ _)))
  have X1_0 : W0.cell? ⟨w.heap.size, 0, none⟩ = some (.int .u64 xh) := cell_of_row _ _ _ _ _ _ X1.out
  have X1_1 : W0.cell? ⟨w.heap.size, 1, none⟩ = some (.int .u64 xl) := cell_of_row _ _ _ _ _ _ X1.out
  have zX1 := lt_of_heap X1.out
  have U1_0 : W0.cell? ⟨w.heap.size + 1, 0, none⟩ = some (.int .u64 yh) := cell_of_row _ _ _ _ _ _ U1.out
  have U1_1 : W0.cell? ⟨w.heap.size + 1, 1, none⟩ = some (.int .u64 yl) := cell_of_row _ _ _ _ _ _ U1.out
  have zU1 := lt_of_heap U1.out
  have Z1_0 : W0.cell? ⟨w.heap.size + 1 + 1, 0, none⟩ = some (.int .u64 0) := cell_of_row _ _ _ _ _ _ Z1.out
  have Z1_1 : W0.cell? ⟨w.heap.size + 1 + 1, 1, none⟩ = some (.int .u64 0) := cell_of_row _ _ _ _ _ _ Z1.out
  have zZ1 := lt_of_heap Z1.out
  have M1_0 : W0.cell? ⟨w.heap.size + 1 + 1 + 1, 0, none⟩ = some (.int .u64 68719476736) := cell_of_row _ _ _ _ _ _ M1.out
  have M1_1 : W0.cell? ⟨w.heap.size + 1 + 1 + 1, 1, none⟩ = some (.int .u64 0) := cell_of_row _ _ _ _ _ _ M1.out
  have zM1 := lt_of_heap M1.out
  have HB0 := Lib.hid (below_by hW0 (((((Below.refl w.heap.size w).alloc (Nat.le_refl _) _).alloc (by simp <;> omega) _).alloc (by simp <;> omega) _).alloc (by simp <;> omega) _))
  have zW0 := HB0.out.size
  have HW0 := Lib.hid hW0
  clear hW0
  try go_simp
  rw [← HW0.out]
  have hk0 : ∀ w2, Below W0.heap.size W0 w2 → w2.cell? ⟨w.heap.size, 0, none⟩ = some (.int .u64 xh) := fun w2 hb => (by rw [hb.cell (p := ⟨w.heap.size, 0, none⟩) (by assumption)]; assumption)
  have hk1 : ∀ w2, Below W0.heap.size W0 w2 → w2.cell? ⟨w.heap.size, 1, none⟩ = some (.int .u64 xl) := fun w2 hb => (by rw [hb.cell (p := ⟨w.heap.size, 1, none⟩) (by assumption)]; assumption)
  have hk2 : ∀ w2, Below W0.heap.size W0 w2 → w2.cell? ⟨w.heap.size + 1, 0, none⟩ = some (.int .u64 yh) := fun w2 hb => (by rw [hb.cell (p := ⟨w.heap.size + 1, 0, none⟩) (by assumption)]; assumption)
  have hk3 : ∀ w2, Below W0.heap.size W0 w2 → w2.cell? ⟨w.heap.size + 1, 1, none⟩ = some (.int .u64 yl) := fun w2 hb => (by rw [hb.cell (p := ⟨w.heap.size + 1, 1, none⟩) (by assumption)]; assumption)
  have hk4 : ∀ w2, Below W0.heap.size W0 w2 → w2.cell? ⟨w.heap.size + 1 + 1, 0, none⟩ = some (.int .u64 0) := fun w2 hb => (by rw [hb.cell (p := ⟨w.heap.size + 1 + 1, 0, none⟩) (by assumption)]; assumption)
  have hk5 : ∀ w2, Below W0.heap.size W0 w2 → w2.cell? ⟨w.heap.size + 1 + 1, 1, none⟩ = some (.int .u64 0) := fun w2 hb => (by rw [hb.cell (p := ⟨w.heap.size + 1 + 1, 1, none⟩) (by assumption)]; assumption)
  have hk6 : ∀ w2, Below W0.heap.size W0 w2 → w2.cell? ⟨w.heap.size + 1 + 1 + 1, 0, none⟩ = some (.int .u64 68719476736) := fun w2 hb => (by rw [hb.cell (p := ⟨w.heap.size + 1 + 1 + 1, 0, none⟩) (by assumption)]; assumption)
  have hk7 : ∀ w2, Below W0.heap.size W0 w2 → w2.cell? ⟨w.heap.size + 1 + 1 + 1, 1, none⟩ = some (.int .u64 0) := fun w2 hb => (by rw [hb.cell (p := ⟨w.heap.size + 1 + 1 + 1, 1, none⟩) (by assumption)]; assumption)
  clear X1_0 X1_1 U1_0 U1_1 Z1_0 Z1_1 M1_0 M1_1
  refine region_plan (S := fun w2 => Below W0.heap.size W0 w2) [(0, true), (1, true), (3, true), (2, false), (4, false), (5, true), (6, true), (7, true), (9, true), (8, false), (10, false), (11, true), (12, true), (13, true), (14, true), (15, false), (16, true), (17, true)] (by as_aux_lemma => kernel_rfl) (by as_aux_lemma => kernel_rfl) (by as_aux_lemma => kernel_rfl) (by as_aux_lemma => kernel_rfl) (Below.refl W0.heap.size W0).drew ?_
  have Y0 := Lib.hid (Below.refl W0.heap.size W0).drew
  refine plan_yes (v := ?v1_3) (by simp only [List.getElem?_toArray, List.getElem?_cons_zero, List.getElem?_cons_succ]; exact rfl) (Or.inl ⟨by as_aux_lemma => rfl, ?hy1_3⟩) ?rest1_3
  case hy1_3 => (intro w2 hSw; (try dsimp only at hSw); go_simp; try with_reducible rfl)
  try simp only [Act.put, List.setIfInBounds_toArray, List.set_cons_zero, List.set_cons_succ]
  refine plan_yes (v := ?v2_3) (by simp only [List.getElem?_toArray, List.getElem?_cons_zero, List.getElem?_cons_succ]; exact rfl) (Or.inl ⟨by as_aux_lemma => rfl, ?hy2_3⟩) ?rest2_3
  case hy2_3 => (intro w2 hSw; (try dsimp only at hSw); go_simp; try with_reducible rfl)
  try simp only [Act.put, List.setIfInBounds_toArray, List.set_cons_zero, List.set_cons_succ]
  refine plan_yes (v := ?v3_3) (by simp only [List.getElem?_toArray, List.getElem?_cons_zero, List.getElem?_cons_succ]; exact rfl) (Or.inl ⟨by as_aux_lemma => rfl, ?hy3_3⟩) ?rest3_3
  case hy3_3 => (intro w2 hSw; (try dsimp only at hSw); go_simp; try with_reducible rfl)
  try simp only [Act.put, List.setIfInBounds_toArray, List.set_cons_zero, List.set_cons_succ]
  refine plan_calls (by simp only [List.getElem?_toArray, List.getElem?_cons_zero, List.getElem?_cons_succ]; exact rfl) (by as_aux_lemma => rfl) (fun K hK => ?_)
  go_simp
  refine (HA.out _).mono ?_
  rintro e Y1w ⟨rfl, hb1⟩
  have Y1 := Lib.hid (keepS (W0 := W0) Y0.out hb1)
  clear hb1
  refine hK.out _ _ Y1.out ?_
  clear hK K
  try simp only [Act.put, List.setIfInBounds_toArray, List.set_cons_zero, List.set_cons_succ]
  as_aux_lemma =>
   refine plan_calls (by simp only [List.getElem?_toArray, List.getElem?_cons_zero, List.getElem?_cons_succ]; exact rfl) (by as_aux_lemma => rfl) (fun K hK => ?_)
   go_simp
   refine (H1.out _).mono ?_
   rintro e Y2w ⟨rfl, hb1⟩
   have Y2 := Lib.hid (keepS (W0 := W0) Y1.out hb1)
   clear hb1
   refine hK.out _ _ Y2.out ?_
   clear hK K
   try simp only [Act.put, List.setIfInBounds_toArray, List.set_cons_zero, List.set_cons_succ]
   as_aux_lemma =>
    refine plan_yes (v := ?v4_3) (by simp only [List.getElem?_toArray, List.getElem?_cons_zero, List.getElem?_cons_succ]; exact rfl) (Or.inl ⟨by as_aux_lemma => rfl, ?hy4_3⟩) ?rest4_3
    case hy4_3 => (intro w2 hSw; (try dsimp only at hSw); go_simp; try with_reducible rfl)
    try simp only [Act.put, List.setIfInBounds_toArray, List.set_cons_zero, List.set_cons_succ]
    refine plan_yes (v := ?v5_3) (by simp only [List.getElem?_toArray, List.getElem?_cons_zero, List.getElem?_cons_succ]; exact rfl) (Or.inl ⟨by as_aux_lemma => rfl, ?hy5_3⟩) ?rest5_3
    case hy5_3 => (intro w2 hSw; (try dsimp only at hSw); go_simp; try with_reducible rfl)
    try simp only [Act.put, List.setIfInBounds_toArray, List.set_cons_zero, List.set_cons_succ]
    refine plan_yes (v := ?v6_3) (by simp only [List.getElem?_toArray, List.getElem?_cons_zero, List.getElem?_cons_succ]; exact rfl) (Or.inl ⟨by as_aux_lemma => rfl, ?hy6_3⟩) ?rest6_3
    case hy6_3 => (intro w2 hSw; (try dsimp only at hSw); go_simp; try with_reducible rfl)
    try simp only [Act.put, List.setIfInBounds_toArray, List.set_cons_zero, List.set_cons_succ]
    refine plan_yes (v := ?v7_3) (by simp only [List.getElem?_toArray, List.getElem?_cons_zero, List.getElem?_cons_succ]; exact rfl) (Or.inl ⟨by as_aux_lemma => rfl, ?hy7_3⟩) ?rest7_3
    case hy7_3 => (intro w2 hSw; (try dsimp only at hSw); go_simp; try with_reducible rfl)
    try simp only [Act.put, List.setIfInBounds_toArray, List.set_cons_zero, List.set_cons_succ]
    refine plan_calls (by simp only [List.getElem?_toArray, List.getElem?_cons_zero, List.getElem?_cons_succ]; exact rfl) (by as_aux_lemma => rfl) (fun K hK => ?_)
    go_simp
    refine (HB.out _).mono ?_
    rintro e Y3w ⟨rfl, hb1⟩
    have Y3 := Lib.hid (keepS (W0 := W0) Y2.out hb1)
    clear hb1
    refine hK.out _ _ Y3.out ?_
    clear hK K
    try simp only [Act.put, List.setIfInBounds_toArray, List.set_cons_zero, List.set_cons_succ]
    as_aux_lemma =>
     refine plan_calls (by simp only [List.getElem?_toArray, List.getElem?_cons_zero, List.getElem?_cons_succ]; exact rfl) (by as_aux_lemma => rfl) (fun K hK => ?_)
     go_simp
     refine (H2.out _).mono ?_
     rintro e Y4w ⟨rfl, hb1⟩
     have Y4 := Lib.hid (keepS (W0 := W0) Y3.out hb1)
     clear hb1
     refine hK.out _ _ Y4.out ?_
     clear hK K
     try simp only [Act.put, List.setIfInBounds_toArray, List.set_cons_zero, List.set_cons_succ]
     as_aux_lemma =>
      refine plan_yes (v := ?v8_3) (by simp only [List.getElem?_toArray, List.getElem?_cons_zero, List.getElem?_cons_succ]; exact rfl) (Or.inl ⟨by as_aux_lemma => rfl, ?hy8_3⟩) ?rest8_3
      case hy8_3 => (intro w2 hSw; (try dsimp only at hSw); go_simp; try with_reducible rfl)
      try simp only [Act.put, List.setIfInBounds_toArray, List.set_cons_zero, List.set_cons_succ]
      refine plan_yes (v := ?v9_3) (by simp only [List.getElem?_toArray, List.getElem?_cons_zero, List.getElem?_cons_succ]; exact rfl) (Or.inl ⟨by as_aux_lemma => rfl, ?hy9_3⟩) ?rest9_3
      case hy9_3 => (intro w2 hSw; (try dsimp only at hSw); go_simp; try with_reducible rfl)
      try simp only [Act.put, List.setIfInBounds_toArray, List.set_cons_zero, List.set_cons_succ]
      refine plan_yes (v := ?v10_3) (by simp only [List.getElem?_toArray, List.getElem?_cons_zero, List.getElem?_cons_succ]; exact rfl) (Or.inl ⟨by as_aux_lemma => rfl, ?hy10_3⟩) ?rest10_3
      case hy10_3 => (intro w2 hSw; (try dsimp only at hSw); go_simp; try with_reducible rfl)
      try simp only [Act.put, List.setIfInBounds_toArray, List.set_cons_zero, List.set_cons_succ]
      refine plan_yes (v := ?v11_3) (by simp only [List.getElem?_toArray, List.getElem?_cons_zero, List.getElem?_cons_succ]; exact rfl) (Or.inl ⟨by as_aux_lemma => rfl, ?hy11_3⟩) ?rest11_3
      case hy11_3 => (intro w2 hSw; (try dsimp only at hSw); go_simp; try with_reducible rfl)
      try simp only [Act.put, List.setIfInBounds_toArray, List.set_cons_zero, List.set_cons_succ]
      refine plan_calls (by simp only [List.getElem?_toArray, List.getElem?_cons_zero, List.getElem?_cons_succ]; exact rfl) (by as_aux_lemma => rfl) (fun K hK => ?_)
      go_simp
      refine (HK.out _).mono ?_
      rintro e Y5w ⟨rfl, hb1⟩
      have Y5 := Lib.hid (keepS (W0 := W0) Y4.out hb1)
      clear hb1
      refine hK.out _ _ Y5.out ?_
      clear hK K
      try simp only [Act.put, List.setIfInBounds_toArray, List.set_cons_zero, List.set_cons_succ]
      as_aux_lemma =>
       refine plan_yes (v := ?v12_3) (by simp only [List.getElem?_toArray, List.getElem?_cons_zero, List.getElem?_cons_succ]; exact rfl) (Or.inl ⟨by as_aux_lemma => rfl, ?hy12_3⟩) ?rest12_3
       case hy12_3 => (intro w2 hSw; (try dsimp only at hSw); go_simp; try with_reducible rfl)
       try simp only [Act.put, List.setIfInBounds_toArray, List.set_cons_zero, List.set_cons_succ]
       refine plan_yes (v := ?v13_3) (by simp only [List.getElem?_toArray, List.getElem?_cons_zero, List.getElem?_cons_succ]; exact rfl) (Or.inl ⟨by as_aux_lemma => rfl, ?hy13_3⟩) ?rest13_3
       case hy13_3 => (intro w2 hSw; (try dsimp only at hSw); go_simp; try with_reducible rfl)
       try simp only [Act.put, List.setIfInBounds_toArray, List.set_cons_zero, List.set_cons_succ]
       refine plan_done (NoPanic.normal ?_)
       have B0 := Y5.out
       have BW := Lib.hid (HB0.out.trans (B0.mono zW0))
       replace X1 := Lib.hid (row_call B0 X1.out)
       replace U1 := Lib.hid (row_call B0 U1.out)
       replace Z1 := Lib.hid (row_call B0 Z1.out)
       replace M1 := Lib.hid (row_call B0 M1.out)
       have B1 := BW
       clear BW B0 hk0 hk1 hk2 hk3 hk4 hk5 hk6 hk7 zX1 zU1 zZ1 zM1 Y0 Y1 Y2 Y3 Y4 Y5
       obtain ⟨V1, rfl⟩ : ∃ V, V = Y5w := ⟨_, rfl⟩
       have X1_0 : V1.cell? ⟨w.heap.size, 0, none⟩ = some (.int .u64 xh) := cell_of_row _ _ _ _ _ _ X1.out
       have X1_f0 : V1.frozen? ⟨w.heap.size, 0, none⟩ = false := (by simp [World.frozen?, X1.out])
       have X1_1 : V1.cell? ⟨w.heap.size, 1, none⟩ = some (.int .u64 xl) := cell_of_row _ _ _ _ _ _ X1.out
       have X1_f1 : V1.frozen? ⟨w.heap.size, 1, none⟩ = false := (by simp [World.frozen?, X1.out])
       have zX1 := lt_of_heap X1.out
       have U1_0 : V1.cell? ⟨w.heap.size + 1, 0, none⟩ = some (.int .u64 yh) := cell_of_row _ _ _ _ _ _ U1.out
       have U1_1 : V1.cell? ⟨w.heap.size + 1, 1, none⟩ = some (.int .u64 yl) := cell_of_row _ _ _ _ _ _ U1.out
       have zU1 := lt_of_heap U1.out
       have Z1_0 : V1.cell? ⟨w.heap.size + 1 + 1, 0, none⟩ = some (.int .u64 0) := cell_of_row _ _ _ _ _ _ Z1.out
       have Z1_f0 : V1.frozen? ⟨w.heap.size + 1 + 1, 0, none⟩ = false := (by simp [World.frozen?, Z1.out])
       have Z1_1 : V1.cell? ⟨w.heap.size + 1 + 1, 1, none⟩ = some (.int .u64 0) := cell_of_row _ _ _ _ _ _ Z1.out
       have Z1_f1 : V1.frozen? ⟨w.heap.size + 1 + 1, 1, none⟩ = false := (by simp [World.frozen?, Z1.out])
       have zZ1 := lt_of_heap Z1.out
       have M1_0 : V1.cell? ⟨w.heap.size + 1 + 1 + 1, 0, none⟩ = some (.int .u64 68719476736) := cell_of_row _ _ _ _ _ _ M1.out
       have M1_1 : V1.cell? ⟨w.heap.size + 1 + 1 + 1, 1, none⟩ = some (.int .u64 0) := cell_of_row _ _ _ _ _ _ M1.out
       have zM1 := lt_of_heap M1.out
       go_simp
       go_wp2
       refine shut_ret (v := .tuple #[.agg #[.int .u64 0, .int .u64 0], .int .i64 5]) (by simp [results, Try.results8, go_sem, zZ1, Z1_0, Z1_1]) rfl ⟨rfl, ?_⟩
       exact keep2 B1.out (by omega) _ _
set_option maxHeartbeats 3200000 in
set_option maxRecDepth 100000 in
theorem wide_pos (xh xl yh yl nh nl rh rl : Nat) (m : Int) (w : World)
    (HA : Hid (∀ w, Calls Try.prog 18 #[.agg #[.int .u64 68719476736, .int .u64 0]] w fun e w' => e = .returned (.agg #[.int .u64 nh, .int .u64 nl]) ∧ Below w.heap.size w w'))
    (H1 : Hid (∀ w, Calls Try.prog 17 #[.agg #[.int .u64 xh, .int .u64 xl], .agg #[.int .u64 nh, .int .u64 nl], .agg #[.int .u64 68719476736, .int .u64 0]] w fun e w' => e = .returned (.bool true) ∧ Below w.heap.size w w'))
    (HB : Hid (∀ w, Calls Try.prog 19 #[.int .i64 1] w fun e w' => e = .returned (.agg #[.int .u64 0, .int .u64 1]) ∧ Below w.heap.size w w'))
    (H2 : Hid (∀ w, Calls Try.prog 17 #[.agg #[.int .u64 yh, .int .u64 yl], .agg #[.int .u64 0, .int .u64 1], .agg #[.int .u64 65536, .int .u64 0]] w fun e w' => e = .returned (.bool true) ∧ Below w.heap.size w w'))
    (HK : Hid (∀ w, Calls Try.prog 20 #[.int .i64 m] w fun e w' => e = .returned (.bool true) ∧ Below w.heap.size w w'))
    (c : Int) (hc : decide (c < 0) = false)
    (H6 : Hid (∀ w, Calls Try.prog 21 #[.agg #[.int .u64 xh, .int .u64 xl], .agg #[.int .u64 0, .int .u64 0]] w fun e w' => e = .returned (.int .i64 c) ∧ Below w.heap.size w w'))
    (H8 : Hid (∀ w, Calls Try.prog 22 #[.agg #[.int .u64 xh, .int .u64 xl], .agg #[.int .u64 yh, .int .u64 yl], .int .i64 m, .bool false] w fun e w' => e = .returned (.agg #[.int .u64 rh, .int .u64 rl]) ∧ Below w.heap.size w w'))
    : Calls Try.prog 8 #[.agg #[.int .u64 xh, .int .u64 xl], .agg #[.int .u64 yh, .int .u64 yl], .int .i64 m] w fun e w' => e = .returned (.tuple #[.agg #[.int .u64 rh, .int .u64 rl], .int .i64 0]) ∧ Below w.heap.size w w' := by
  go_enter Try.func8, Try.ntmps8
  refine wp_shut ?_
  go_wp2_with fail
  
  obtain ⟨W0, hW0⟩ : ∃ W0, W0 = ((((w.alloc (Obj.cells #[Value.int .u64 xh, Value.int .u64 xl] 24)).alloc (Obj.cells #[Value.int .u64 yh, Value.int .u64 yl] 24)).alloc (Obj.cells #[Value.int .u64 0, Value.int .u64 0] 24)).alloc (Obj.cells #[Value.int .u64 68719476736, Value.int .u64 0] 24)) := ⟨_, rfl⟩
  have X1 := Lib.hid (row_at (k' := w.heap.size) (by simp) (row_by hW0 (row_alloc (row_alloc (row_alloc (heap_alloc_new _ _) _) _) _)))
  have U1 := Lib.hid (row_at (k' := w.heap.size + 1) (by simp) (row_by hW0 (row_alloc (row_alloc (heap_alloc_new _ _) _) _)))
  have Z1 := Lib.hid (row_at (k' := w.heap.size + 1 + 1) (by simp) (row_by hW0 (row_alloc (heap_alloc_new _ _) _)))
  have M1 := Lib.hid (row_at (k' := w.heap.size + 1 + 1 + 1) (by simp) (row_by hW0 (heap_alloc_new _ _)))
  have X1_0 : W0.cell? ⟨w.heap.size, 0, none⟩ = some (.int .u64 xh) := cell_of_row _ _ _ _ _ _ X1.out
  have X1_1 : W0.cell? ⟨w.heap.size, 1, none⟩ = some (.int .u64 xl) := cell_of_row _ _ _ _ _ _ X1.out
  have zX1 := lt_of_heap X1.out
  have U1_0 : W0.cell? ⟨w.heap.size + 1, 0, none⟩ = some (.int .u64 yh) := cell_of_row _ _ _ _ _ _ U1.out
  have U1_1 : W0.cell? ⟨w.heap.size + 1, 1, none⟩ = some (.int .u64 yl) := cell_of_row _ _ _ _ _ _ U1.out
  have zU1 := lt_of_heap U1.out
  have Z1_0 : W0.cell? ⟨w.heap.size + 1 + 1, 0, none⟩ = some (.int .u64 0) := cell_of_row _ _ _ _ _ _ Z1.out
  have Z1_1 : W0.cell? ⟨w.heap.size + 1 + 1, 1, none⟩ = some (.int .u64 0) := cell_of_row _ _ _ _ _ _ Z1.out
  have zZ1 := lt_of_heap Z1.out
  have M1_0 : W0.cell? ⟨w.heap.size + 1 + 1 + 1, 0, none⟩ = some (.int .u64 68719476736) := cell_of_row _ _ _ _ _ _ M1.out
  have M1_1 : W0.cell? ⟨w.heap.size + 1 + 1 + 1, 1, none⟩ = some (.int .u64 0) := cell_of_row _ _ _ _ _ _ M1.out
  have zM1 := lt_of_heap M1.out
  have HB0 := Lib.hid (below_by hW0 (((((Below.refl w.heap.size w).alloc (Nat.le_refl _) _).alloc (by simp <;> omega) _).alloc (by simp <;> omega) _).alloc (by simp <;> omega) _))
  have zW0 := HB0.out.size
  have HW0 := Lib.hid hW0
  clear hW0
  try go_simp
  rw [← HW0.out]
  have hk0 : ∀ w2, Below W0.heap.size W0 w2 → w2.cell? ⟨w.heap.size, 0, none⟩ = some (.int .u64 xh) := fun w2 hb => (by rw [hb.cell (p := ⟨w.heap.size, 0, none⟩) (by assumption)]; assumption)
  have hk1 : ∀ w2, Below W0.heap.size W0 w2 → w2.cell? ⟨w.heap.size, 1, none⟩ = some (.int .u64 xl) := fun w2 hb => (by rw [hb.cell (p := ⟨w.heap.size, 1, none⟩) (by assumption)]; assumption)
  have hk2 : ∀ w2, Below W0.heap.size W0 w2 → w2.cell? ⟨w.heap.size + 1, 0, none⟩ = some (.int .u64 yh) := fun w2 hb => (by rw [hb.cell (p := ⟨w.heap.size + 1, 0, none⟩) (by assumption)]; assumption)
  have hk3 : ∀ w2, Below W0.heap.size W0 w2 → w2.cell? ⟨w.heap.size + 1, 1, none⟩ = some (.int .u64 yl) := fun w2 hb => (by rw [hb.cell (p := ⟨w.heap.size + 1, 1, none⟩) (by assumption)]; assumption)
  have hk4 : ∀ w2, Below W0.heap.size W0 w2 → w2.cell? ⟨w.heap.size + 1 + 1, 0, none⟩ = some (.int .u64 0) := fun w2 hb => (by rw [hb.cell (p := ⟨w.heap.size + 1 + 1, 0, none⟩) (by assumption)]; assumption)
  have hk5 : ∀ w2, Below W0.heap.size W0 w2 → w2.cell? ⟨w.heap.size + 1 + 1, 1, none⟩ = some (.int .u64 0) := fun w2 hb => (by rw [hb.cell (p := ⟨w.heap.size + 1 + 1, 1, none⟩) (by assumption)]; assumption)
  have hk6 : ∀ w2, Below W0.heap.size W0 w2 → w2.cell? ⟨w.heap.size + 1 + 1 + 1, 0, none⟩ = some (.int .u64 68719476736) := fun w2 hb => (by rw [hb.cell (p := ⟨w.heap.size + 1 + 1 + 1, 0, none⟩) (by assumption)]; assumption)
  have hk7 : ∀ w2, Below W0.heap.size W0 w2 → w2.cell? ⟨w.heap.size + 1 + 1 + 1, 1, none⟩ = some (.int .u64 0) := fun w2 hb => (by rw [hb.cell (p := ⟨w.heap.size + 1 + 1 + 1, 1, none⟩) (by assumption)]; assumption)
  clear X1_0 X1_1 U1_0 U1_1 Z1_0 Z1_1 M1_0 M1_1
  refine region_plan (S := fun w2 => Below W0.heap.size W0 w2) [(0, true), (1, true), (3, true), (2, false), (4, false), (5, true), (6, true), (7, true), (9, true), (8, false), (10, false), (11, true), (12, true), (13, true), (14, true), (15, false), (16, true), (17, true)] (by as_aux_lemma => kernel_rfl) (by as_aux_lemma => kernel_rfl) (by as_aux_lemma => kernel_rfl) (by as_aux_lemma => kernel_rfl) (Below.refl W0.heap.size W0).drew ?_
  have Y0 := Lib.hid (Below.refl W0.heap.size W0).drew
  refine plan_yes (v := ?v1_4) (by simp only [List.getElem?_toArray, List.getElem?_cons_zero, List.getElem?_cons_succ]; exact rfl) (Or.inl ⟨by as_aux_lemma => rfl, ?hy1_4⟩) ?rest1_4
  case hy1_4 => (intro w2 hSw; (try dsimp only at hSw); go_simp; try with_reducible rfl)
  try simp only [Act.put, List.setIfInBounds_toArray, List.set_cons_zero, List.set_cons_succ]
  refine plan_yes (v := ?v2_4) (by simp only [List.getElem?_toArray, List.getElem?_cons_zero, List.getElem?_cons_succ]; exact rfl) (Or.inl ⟨by as_aux_lemma => rfl, ?hy2_4⟩) ?rest2_4
  case hy2_4 => (intro w2 hSw; (try dsimp only at hSw); go_simp; try with_reducible rfl)
  try simp only [Act.put, List.setIfInBounds_toArray, List.set_cons_zero, List.set_cons_succ]
  refine plan_yes (v := ?v3_4) (by simp only [List.getElem?_toArray, List.getElem?_cons_zero, List.getElem?_cons_succ]; exact rfl) (Or.inl ⟨by as_aux_lemma => rfl, ?hy3_4⟩) ?rest3_4
  case hy3_4 => (intro w2 hSw; (try dsimp only at hSw); go_simp; try with_reducible rfl)
  try simp only [Act.put, List.setIfInBounds_toArray, List.set_cons_zero, List.set_cons_succ]
  refine plan_calls (by simp only [List.getElem?_toArray, List.getElem?_cons_zero, List.getElem?_cons_succ]; exact rfl) (by as_aux_lemma => rfl) (fun K hK => ?_)
  go_simp
  refine (HA.out _).mono ?_
  rintro e Y1w ⟨rfl, hb1⟩
  have Y1 := Lib.hid (keepS (W0 := W0) Y0.out hb1)
  clear hb1
  refine hK.out _ _ Y1.out ?_
  clear hK K
  try simp only [Act.put, List.setIfInBounds_toArray, List.set_cons_zero, List.set_cons_succ]
  as_aux_lemma =>
   refine plan_calls (by simp only [List.getElem?_toArray, List.getElem?_cons_zero, List.getElem?_cons_succ]; exact rfl) (by as_aux_lemma => rfl) (fun K hK => ?_)
   go_simp
   refine (H1.out _).mono ?_
   rintro e Y2w ⟨rfl, hb1⟩
   have Y2 := Lib.hid (keepS (W0 := W0) Y1.out hb1)
   clear hb1
   refine hK.out _ _ Y2.out ?_
   clear hK K
   try simp only [Act.put, List.setIfInBounds_toArray, List.set_cons_zero, List.set_cons_succ]
   as_aux_lemma =>
    refine plan_yes (v := ?v4_4) (by simp only [List.getElem?_toArray, List.getElem?_cons_zero, List.getElem?_cons_succ]; exact rfl) (Or.inl ⟨by as_aux_lemma => rfl, ?hy4_4⟩) ?rest4_4
    case hy4_4 => (intro w2 hSw; (try dsimp only at hSw); go_simp; try with_reducible rfl)
    try simp only [Act.put, List.setIfInBounds_toArray, List.set_cons_zero, List.set_cons_succ]
    refine plan_yes (v := ?v5_4) (by simp only [List.getElem?_toArray, List.getElem?_cons_zero, List.getElem?_cons_succ]; exact rfl) (Or.inl ⟨by as_aux_lemma => rfl, ?hy5_4⟩) ?rest5_4
    case hy5_4 => (intro w2 hSw; (try dsimp only at hSw); go_simp; try with_reducible rfl)
    try simp only [Act.put, List.setIfInBounds_toArray, List.set_cons_zero, List.set_cons_succ]
    refine plan_yes (v := ?v6_4) (by simp only [List.getElem?_toArray, List.getElem?_cons_zero, List.getElem?_cons_succ]; exact rfl) (Or.inl ⟨by as_aux_lemma => rfl, ?hy6_4⟩) ?rest6_4
    case hy6_4 => (intro w2 hSw; (try dsimp only at hSw); go_simp; try with_reducible rfl)
    try simp only [Act.put, List.setIfInBounds_toArray, List.set_cons_zero, List.set_cons_succ]
    refine plan_yes (v := ?v7_4) (by simp only [List.getElem?_toArray, List.getElem?_cons_zero, List.getElem?_cons_succ]; exact rfl) (Or.inl ⟨by as_aux_lemma => rfl, ?hy7_4⟩) ?rest7_4
    case hy7_4 => (intro w2 hSw; (try dsimp only at hSw); go_simp; try with_reducible rfl)
    try simp only [Act.put, List.setIfInBounds_toArray, List.set_cons_zero, List.set_cons_succ]
    refine plan_calls (by simp only [List.getElem?_toArray, List.getElem?_cons_zero, List.getElem?_cons_succ]; exact rfl) (by as_aux_lemma => rfl) (fun K hK => ?_)
    go_simp
    refine (HB.out _).mono ?_
    rintro e Y3w ⟨rfl, hb1⟩
    have Y3 := Lib.hid (keepS (W0 := W0) Y2.out hb1)
    clear hb1
    refine hK.out _ _ Y3.out ?_
    clear hK K
    try simp only [Act.put, List.setIfInBounds_toArray, List.set_cons_zero, List.set_cons_succ]
    as_aux_lemma =>
     refine plan_calls (by simp only [List.getElem?_toArray, List.getElem?_cons_zero, List.getElem?_cons_succ]; exact rfl) (by as_aux_lemma => rfl) (fun K hK => ?_)
     go_simp
     refine (H2.out _).mono ?_
     rintro e Y4w ⟨rfl, hb1⟩
     have Y4 := Lib.hid (keepS (W0 := W0) Y3.out hb1)
     clear hb1
     refine hK.out _ _ Y4.out ?_
     clear hK K
     try simp only [Act.put, List.setIfInBounds_toArray, List.set_cons_zero, List.set_cons_succ]
     as_aux_lemma =>
      refine plan_yes (v := ?v8_4) (by simp only [List.getElem?_toArray, List.getElem?_cons_zero, List.getElem?_cons_succ]; exact rfl) (Or.inl ⟨by as_aux_lemma => rfl, ?hy8_4⟩) ?rest8_4
      case hy8_4 => (intro w2 hSw; (try dsimp only at hSw); go_simp; try with_reducible rfl)
      try simp only [Act.put, List.setIfInBounds_toArray, List.set_cons_zero, List.set_cons_succ]
      refine plan_yes (v := ?v9_4) (by simp only [List.getElem?_toArray, List.getElem?_cons_zero, List.getElem?_cons_succ]; exact rfl) (Or.inl ⟨by as_aux_lemma => rfl, ?hy9_4⟩) ?rest9_4
      case hy9_4 => (intro w2 hSw; (try dsimp only at hSw); go_simp; try with_reducible rfl)
      try simp only [Act.put, List.setIfInBounds_toArray, List.set_cons_zero, List.set_cons_succ]
      refine plan_yes (v := ?v10_4) (by simp only [List.getElem?_toArray, List.getElem?_cons_zero, List.getElem?_cons_succ]; exact rfl) (Or.inl ⟨by as_aux_lemma => rfl, ?hy10_4⟩) ?rest10_4
      case hy10_4 => (intro w2 hSw; (try dsimp only at hSw); go_simp; try with_reducible rfl)
      try simp only [Act.put, List.setIfInBounds_toArray, List.set_cons_zero, List.set_cons_succ]
      refine plan_yes (v := ?v11_4) (by simp only [List.getElem?_toArray, List.getElem?_cons_zero, List.getElem?_cons_succ]; exact rfl) (Or.inl ⟨by as_aux_lemma => rfl, ?hy11_4⟩) ?rest11_4
      case hy11_4 => (intro w2 hSw; (try dsimp only at hSw); go_simp; try with_reducible rfl)
      try simp only [Act.put, List.setIfInBounds_toArray, List.set_cons_zero, List.set_cons_succ]
      refine plan_calls (by simp only [List.getElem?_toArray, List.getElem?_cons_zero, List.getElem?_cons_succ]; exact rfl) (by as_aux_lemma => rfl) (fun K hK => ?_)
      go_simp
      refine (HK.out _).mono ?_
      rintro e Y5w ⟨rfl, hb1⟩
      have Y5 := Lib.hid (keepS (W0 := W0) Y4.out hb1)
      clear hb1
      refine hK.out _ _ Y5.out ?_
      clear hK K
      try simp only [Act.put, List.setIfInBounds_toArray, List.set_cons_zero, List.set_cons_succ]
      as_aux_lemma =>
       refine plan_yes (v := ?v12_4) (by simp only [List.getElem?_toArray, List.getElem?_cons_zero, List.getElem?_cons_succ]; exact rfl) (Or.inl ⟨by as_aux_lemma => rfl, ?hy12_4⟩) ?rest12_4
       case hy12_4 => (intro w2 hSw; (try dsimp only at hSw); go_simp; try with_reducible rfl)
       try simp only [Act.put, List.setIfInBounds_toArray, List.set_cons_zero, List.set_cons_succ]
       refine plan_yes (v := ?v13_4) (by simp only [List.getElem?_toArray, List.getElem?_cons_zero, List.getElem?_cons_succ]; exact rfl) (Or.inl ⟨by as_aux_lemma => rfl, ?hy13_4⟩) ?rest13_4
       case hy13_4 => (intro w2 hSw; (try dsimp only at hSw); go_simp; try with_reducible rfl)
       try simp only [Act.put, List.setIfInBounds_toArray, List.set_cons_zero, List.set_cons_succ]
       refine plan_done (NoPanic.normal ?_)
       have B0 := Y5.out
       have BW := Lib.hid (HB0.out.trans (B0.mono zW0))
       replace X1 := Lib.hid (row_call B0 X1.out)
       replace U1 := Lib.hid (row_call B0 U1.out)
       replace Z1 := Lib.hid (row_call B0 Z1.out)
       replace M1 := Lib.hid (row_call B0 M1.out)
       have B1 := BW
       clear BW B0 hk0 hk1 hk2 hk3 hk4 hk5 hk6 hk7 zX1 zU1 zZ1 zM1 Y0 Y1 Y2 Y3 Y4 Y5
       obtain ⟨V1, rfl⟩ : ∃ V, V = Y5w := ⟨_, rfl⟩
       have X1_0 : V1.cell? ⟨w.heap.size, 0, none⟩ = some (.int .u64 xh) := cell_of_row _ _ _ _ _ _ X1.out
       have X1_f0 : V1.frozen? ⟨w.heap.size, 0, none⟩ = false := (by simp [World.frozen?, X1.out])
       have X1_1 : V1.cell? ⟨w.heap.size, 1, none⟩ = some (.int .u64 xl) := cell_of_row _ _ _ _ _ _ X1.out
       have X1_f1 : V1.frozen? ⟨w.heap.size, 1, none⟩ = false := (by simp [World.frozen?, X1.out])
       have zX1 := lt_of_heap X1.out
       have U1_0 : V1.cell? ⟨w.heap.size + 1, 0, none⟩ = some (.int .u64 yh) := cell_of_row _ _ _ _ _ _ U1.out
       have U1_1 : V1.cell? ⟨w.heap.size + 1, 1, none⟩ = some (.int .u64 yl) := cell_of_row _ _ _ _ _ _ U1.out
       have zU1 := lt_of_heap U1.out
       have Z1_0 : V1.cell? ⟨w.heap.size + 1 + 1, 0, none⟩ = some (.int .u64 0) := cell_of_row _ _ _ _ _ _ Z1.out
       have Z1_f0 : V1.frozen? ⟨w.heap.size + 1 + 1, 0, none⟩ = false := (by simp [World.frozen?, Z1.out])
       have Z1_1 : V1.cell? ⟨w.heap.size + 1 + 1, 1, none⟩ = some (.int .u64 0) := cell_of_row _ _ _ _ _ _ Z1.out
       have Z1_f1 : V1.frozen? ⟨w.heap.size + 1 + 1, 1, none⟩ = false := (by simp [World.frozen?, Z1.out])
       have zZ1 := lt_of_heap Z1.out
       have M1_0 : V1.cell? ⟨w.heap.size + 1 + 1 + 1, 0, none⟩ = some (.int .u64 68719476736) := cell_of_row _ _ _ _ _ _ M1.out
       have M1_1 : V1.cell? ⟨w.heap.size + 1 + 1 + 1, 1, none⟩ = some (.int .u64 0) := cell_of_row _ _ _ _ _ _ M1.out
       have zM1 := lt_of_heap M1.out
       go_simp
       go_wp2_with fail
       refine (H6.out _).mono ?_
       rintro e V2 ⟨rfl, hb2⟩
       clear X1_0 X1_f0 X1_1 X1_f1 zX1 U1_0 U1_1 zU1 Z1_0 Z1_f0 Z1_1 Z1_f1 zZ1 M1_0 M1_1 zM1
       have B2 : Hid (Below w.heap.size w V2) := by first | exact Lib.hid ((B1.out).trans (hb2.mono (by have := B1.out.size; first | assumption | (simp <;> omega) | (simp; done)))) | exact Lib.hid (((B1.out).alloc (B1.out.size) _).trans (hb2.mono (by have := B1.out.size; first | assumption | (simp <;> omega) | (simp; done)))) | exact Lib.hid ((((B1.out).alloc (B1.out.size) _).alloc (by have := B1.out.size; simp <;> omega) _).trans (hb2.mono (by have := B1.out.size; first | assumption | (simp <;> omega) | (simp; done)))) | exact Lib.hid (((((B1.out).alloc (B1.out.size) _).alloc (by have := B1.out.size; simp <;> omega) _).alloc (by have := B1.out.size; simp <;> omega) _).trans (hb2.mono (by have := B1.out.size; first | assumption | (simp <;> omega) | (simp; done))))
       first | replace X1 := Lib.hid (row_call hb2 X1.out) | replace X1 := Lib.hid (row_call hb2 (row_alloc X1.out _)) | replace X1 := Lib.hid (row_call hb2 (row_alloc (row_alloc X1.out _) _)) | replace X1 := Lib.hid (row_call hb2 (row_alloc (row_alloc (row_alloc X1.out _) _) _))
       first | replace U1 := Lib.hid (row_call hb2 U1.out) | replace U1 := Lib.hid (row_call hb2 (row_alloc U1.out _)) | replace U1 := Lib.hid (row_call hb2 (row_alloc (row_alloc U1.out _) _)) | replace U1 := Lib.hid (row_call hb2 (row_alloc (row_alloc (row_alloc U1.out _) _) _))
       first | replace Z1 := Lib.hid (row_call hb2 Z1.out) | replace Z1 := Lib.hid (row_call hb2 (row_alloc Z1.out _)) | replace Z1 := Lib.hid (row_call hb2 (row_alloc (row_alloc Z1.out _) _)) | replace Z1 := Lib.hid (row_call hb2 (row_alloc (row_alloc (row_alloc Z1.out _) _) _))
       first | replace M1 := Lib.hid (row_call hb2 M1.out) | replace M1 := Lib.hid (row_call hb2 (row_alloc M1.out _)) | replace M1 := Lib.hid (row_call hb2 (row_alloc (row_alloc M1.out _) _)) | replace M1 := Lib.hid (row_call hb2 (row_alloc (row_alloc (row_alloc M1.out _) _) _))
       clear hb2
       have X1_0 : V2.cell? ⟨w.heap.size, 0, none⟩ = some (.int .u64 xh) := cell_of_row _ _ _ _ _ _ X1.out
       have X1_1 : V2.cell? ⟨w.heap.size, 1, none⟩ = some (.int .u64 xl) := cell_of_row _ _ _ _ _ _ X1.out
       have X1_f0 : V2.frozen? ⟨w.heap.size, 0, none⟩ = false := by simp [World.frozen?, X1.out]
       have X1_f1 : V2.frozen? ⟨w.heap.size, 1, none⟩ = false := by simp [World.frozen?, X1.out]
       have U1_0 : V2.cell? ⟨w.heap.size + 1, 0, none⟩ = some (.int .u64 yh) := cell_of_row _ _ _ _ _ _ U1.out
       have U1_1 : V2.cell? ⟨w.heap.size + 1, 1, none⟩ = some (.int .u64 yl) := cell_of_row _ _ _ _ _ _ U1.out
       have Z1_0 : V2.cell? ⟨w.heap.size + 1 + 1, 0, none⟩ = some (.int .u64 0) := cell_of_row _ _ _ _ _ _ Z1.out
       have Z1_1 : V2.cell? ⟨w.heap.size + 1 + 1, 1, none⟩ = some (.int .u64 0) := cell_of_row _ _ _ _ _ _ Z1.out
       have Z1_f0 : V2.frozen? ⟨w.heap.size + 1 + 1, 0, none⟩ = false := by simp [World.frozen?, Z1.out]
       have Z1_f1 : V2.frozen? ⟨w.heap.size + 1 + 1, 1, none⟩ = false := by simp [World.frozen?, Z1.out]
       have M1_0 : V2.cell? ⟨w.heap.size + 1 + 1 + 1, 0, none⟩ = some (.int .u64 68719476736) := cell_of_row _ _ _ _ _ _ M1.out
       have M1_1 : V2.cell? ⟨w.heap.size + 1 + 1 + 1, 1, none⟩ = some (.int .u64 0) := cell_of_row _ _ _ _ _ _ M1.out
       have zX1 := lt_of_heap X1.out
       have zU1 := lt_of_heap U1.out
       have zZ1 := lt_of_heap Z1.out
       have zM1 := lt_of_heap M1.out
       go_simp
       go_wp2_with fail
       refine (H8.out _).mono ?_
       rintro e V3 ⟨rfl, hb3⟩
       clear X1_0 X1_1 X1_f0 X1_f1 zX1 U1_0 U1_1 zU1 Z1_0 Z1_1 Z1_f0 Z1_f1 zZ1 M1_0 M1_1 zM1
       have B3 : Hid (Below w.heap.size w V3) := by first | exact Lib.hid ((B2.out).trans (hb3.mono (by have := B2.out.size; first | assumption | (simp <;> omega) | (simp; done)))) | exact Lib.hid (((B2.out).alloc (B2.out.size) _).trans (hb3.mono (by have := B2.out.size; first | assumption | (simp <;> omega) | (simp; done)))) | exact Lib.hid ((((B2.out).alloc (B2.out.size) _).alloc (by have := B2.out.size; simp <;> omega) _).trans (hb3.mono (by have := B2.out.size; first | assumption | (simp <;> omega) | (simp; done)))) | exact Lib.hid (((((B2.out).alloc (B2.out.size) _).alloc (by have := B2.out.size; simp <;> omega) _).alloc (by have := B2.out.size; simp <;> omega) _).trans (hb3.mono (by have := B2.out.size; first | assumption | (simp <;> omega) | (simp; done))))
       first | replace X1 := Lib.hid (row_call hb3 X1.out) | replace X1 := Lib.hid (row_call hb3 (row_alloc X1.out _)) | replace X1 := Lib.hid (row_call hb3 (row_alloc (row_alloc X1.out _) _)) | replace X1 := Lib.hid (row_call hb3 (row_alloc (row_alloc (row_alloc X1.out _) _) _))
       first | replace U1 := Lib.hid (row_call hb3 U1.out) | replace U1 := Lib.hid (row_call hb3 (row_alloc U1.out _)) | replace U1 := Lib.hid (row_call hb3 (row_alloc (row_alloc U1.out _) _)) | replace U1 := Lib.hid (row_call hb3 (row_alloc (row_alloc (row_alloc U1.out _) _) _))
       first | replace Z1 := Lib.hid (row_call hb3 Z1.out) | replace Z1 := Lib.hid (row_call hb3 (row_alloc Z1.out _)) | replace Z1 := Lib.hid (row_call hb3 (row_alloc (row_alloc Z1.out _) _)) | replace Z1 := Lib.hid (row_call hb3 (row_alloc (row_alloc (row_alloc Z1.out _) _) _))
       first | replace M1 := Lib.hid (row_call hb3 M1.out) | replace M1 := Lib.hid (row_call hb3 (row_alloc M1.out _)) | replace M1 := Lib.hid (row_call hb3 (row_alloc (row_alloc M1.out _) _)) | replace M1 := Lib.hid (row_call hb3 (row_alloc (row_alloc (row_alloc M1.out _) _) _))
       clear hb3
       have X1_0 : V3.cell? ⟨w.heap.size, 0, none⟩ = some (.int .u64 xh) := cell_of_row _ _ _ _ _ _ X1.out
       have X1_1 : V3.cell? ⟨w.heap.size, 1, none⟩ = some (.int .u64 xl) := cell_of_row _ _ _ _ _ _ X1.out
       have X1_f0 : V3.frozen? ⟨w.heap.size, 0, none⟩ = false := by simp [World.frozen?, X1.out]
       have X1_f1 : V3.frozen? ⟨w.heap.size, 1, none⟩ = false := by simp [World.frozen?, X1.out]
       have U1_0 : V3.cell? ⟨w.heap.size + 1, 0, none⟩ = some (.int .u64 yh) := cell_of_row _ _ _ _ _ _ U1.out
       have U1_1 : V3.cell? ⟨w.heap.size + 1, 1, none⟩ = some (.int .u64 yl) := cell_of_row _ _ _ _ _ _ U1.out
       have Z1_0 : V3.cell? ⟨w.heap.size + 1 + 1, 0, none⟩ = some (.int .u64 0) := cell_of_row _ _ _ _ _ _ Z1.out
       have Z1_1 : V3.cell? ⟨w.heap.size + 1 + 1, 1, none⟩ = some (.int .u64 0) := cell_of_row _ _ _ _ _ _ Z1.out
       have Z1_f0 : V3.frozen? ⟨w.heap.size + 1 + 1, 0, none⟩ = false := by simp [World.frozen?, Z1.out]
       have Z1_f1 : V3.frozen? ⟨w.heap.size + 1 + 1, 1, none⟩ = false := by simp [World.frozen?, Z1.out]
       have M1_0 : V3.cell? ⟨w.heap.size + 1 + 1 + 1, 0, none⟩ = some (.int .u64 68719476736) := cell_of_row _ _ _ _ _ _ M1.out
       have M1_1 : V3.cell? ⟨w.heap.size + 1 + 1 + 1, 1, none⟩ = some (.int .u64 0) := cell_of_row _ _ _ _ _ _ M1.out
       have zX1 := lt_of_heap X1.out
       have zU1 := lt_of_heap U1.out
       have zZ1 := lt_of_heap Z1.out
       have zM1 := lt_of_heap M1.out
       go_simp
       go_wp2
       refine shut_ret (v := .tuple #[.agg #[.int .u64 rh, .int .u64 rl], .int .i64 0]) (by simp [results, Try.results8, go_sem, zZ1, Z1_0, Z1_1]) rfl ⟨rfl, ?_⟩
       exact keep2 (keep2 B3.out (by omega) _ _) (by omega) _ _
set_option maxHeartbeats 3200000 in
set_option maxRecDepth 100000 in
theorem wide_neg (xh xl yh yl nh nl ah al rh rl sh sl : Nat) (m : Int) (w : World)
    (HA : Hid (∀ w, Calls Try.prog 18 #[.agg #[.int .u64 68719476736, .int .u64 0]] w fun e w' => e = .returned (.agg #[.int .u64 nh, .int .u64 nl]) ∧ Below w.heap.size w w'))
    (H1 : Hid (∀ w, Calls Try.prog 17 #[.agg #[.int .u64 xh, .int .u64 xl], .agg #[.int .u64 nh, .int .u64 nl], .agg #[.int .u64 68719476736, .int .u64 0]] w fun e w' => e = .returned (.bool true) ∧ Below w.heap.size w w'))
    (HB : Hid (∀ w, Calls Try.prog 19 #[.int .i64 1] w fun e w' => e = .returned (.agg #[.int .u64 0, .int .u64 1]) ∧ Below w.heap.size w w'))
    (H2 : Hid (∀ w, Calls Try.prog 17 #[.agg #[.int .u64 yh, .int .u64 yl], .agg #[.int .u64 0, .int .u64 1], .agg #[.int .u64 65536, .int .u64 0]] w fun e w' => e = .returned (.bool true) ∧ Below w.heap.size w w'))
    (HK : Hid (∀ w, Calls Try.prog 20 #[.int .i64 m] w fun e w' => e = .returned (.bool true) ∧ Below w.heap.size w w'))
    (c : Int) (hc : c < 0)
    (H6 : Hid (∀ w, Calls Try.prog 21 #[.agg #[.int .u64 xh, .int .u64 xl], .agg #[.int .u64 0, .int .u64 0]] w fun e w' => e = .returned (.int .i64 c) ∧ Below w.heap.size w w'))
    (H7 : Hid (∀ w, Calls Try.prog 18 #[.agg #[.int .u64 xh, .int .u64 xl]] w fun e w' => e = .returned (.agg #[.int .u64 ah, .int .u64 al]) ∧ Below w.heap.size w w'))
    (H8 : Hid (∀ w, Calls Try.prog 22 #[.agg #[.int .u64 ah, .int .u64 al], .agg #[.int .u64 yh, .int .u64 yl], .int .i64 m, .bool true] w fun e w' => e = .returned (.agg #[.int .u64 rh, .int .u64 rl]) ∧ Below w.heap.size w w'))
    (H9 : Hid (∀ w, Calls Try.prog 18 #[.agg #[.int .u64 rh, .int .u64 rl]] w fun e w' => e = .returned (.agg #[.int .u64 sh, .int .u64 sl]) ∧ Below w.heap.size w w'))
    : Calls Try.prog 8 #[.agg #[.int .u64 xh, .int .u64 xl], .agg #[.int .u64 yh, .int .u64 yl], .int .i64 m] w fun e w' => e = .returned (.tuple #[.agg #[.int .u64 sh, .int .u64 sl], .int .i64 0]) ∧ Below w.heap.size w w' := by
  go_enter Try.func8, Try.ntmps8
  refine wp_shut ?_
  go_wp2_with fail
  
  obtain ⟨W0, hW0⟩ : ∃ W0, W0 = ((((w.alloc (Obj.cells #[Value.int .u64 xh, Value.int .u64 xl] 24)).alloc (Obj.cells #[Value.int .u64 yh, Value.int .u64 yl] 24)).alloc (Obj.cells #[Value.int .u64 0, Value.int .u64 0] 24)).alloc (Obj.cells #[Value.int .u64 68719476736, Value.int .u64 0] 24)) := ⟨_, rfl⟩
  have X1 := Lib.hid (row_at (k' := w.heap.size) (by simp) (row_by hW0 (row_alloc (row_alloc (row_alloc (heap_alloc_new _ _) _) _) _)))
  have U1 := Lib.hid (row_at (k' := w.heap.size + 1) (by simp) (row_by hW0 (row_alloc (row_alloc (heap_alloc_new _ _) _) _)))
  have Z1 := Lib.hid (row_at (k' := w.heap.size + 1 + 1) (by simp) (row_by hW0 (row_alloc (heap_alloc_new _ _) _)))
  have M1 := Lib.hid (row_at (k' := w.heap.size + 1 + 1 + 1) (by simp) (row_by hW0 (heap_alloc_new _ _)))
  have X1_0 : W0.cell? ⟨w.heap.size, 0, none⟩ = some (.int .u64 xh) := cell_of_row _ _ _ _ _ _ X1.out
  have X1_1 : W0.cell? ⟨w.heap.size, 1, none⟩ = some (.int .u64 xl) := cell_of_row _ _ _ _ _ _ X1.out
  have zX1 := lt_of_heap X1.out
  have U1_0 : W0.cell? ⟨w.heap.size + 1, 0, none⟩ = some (.int .u64 yh) := cell_of_row _ _ _ _ _ _ U1.out
  have U1_1 : W0.cell? ⟨w.heap.size + 1, 1, none⟩ = some (.int .u64 yl) := cell_of_row _ _ _ _ _ _ U1.out
  have zU1 := lt_of_heap U1.out
  have Z1_0 : W0.cell? ⟨w.heap.size + 1 + 1, 0, none⟩ = some (.int .u64 0) := cell_of_row _ _ _ _ _ _ Z1.out
  have Z1_1 : W0.cell? ⟨w.heap.size + 1 + 1, 1, none⟩ = some (.int .u64 0) := cell_of_row _ _ _ _ _ _ Z1.out
  have zZ1 := lt_of_heap Z1.out
  have M1_0 : W0.cell? ⟨w.heap.size + 1 + 1 + 1, 0, none⟩ = some (.int .u64 68719476736) := cell_of_row _ _ _ _ _ _ M1.out
  have M1_1 : W0.cell? ⟨w.heap.size + 1 + 1 + 1, 1, none⟩ = some (.int .u64 0) := cell_of_row _ _ _ _ _ _ M1.out
  have zM1 := lt_of_heap M1.out
  have HB0 := Lib.hid (below_by hW0 (((((Below.refl w.heap.size w).alloc (Nat.le_refl _) _).alloc (by simp <;> omega) _).alloc (by simp <;> omega) _).alloc (by simp <;> omega) _))
  have zW0 := HB0.out.size
  have HW0 := Lib.hid hW0
  clear hW0
  try go_simp
  rw [← HW0.out]
  have hk0 : ∀ w2, Below W0.heap.size W0 w2 → w2.cell? ⟨w.heap.size, 0, none⟩ = some (.int .u64 xh) := fun w2 hb => (by rw [hb.cell (p := ⟨w.heap.size, 0, none⟩) (by assumption)]; assumption)
  have hk1 : ∀ w2, Below W0.heap.size W0 w2 → w2.cell? ⟨w.heap.size, 1, none⟩ = some (.int .u64 xl) := fun w2 hb => (by rw [hb.cell (p := ⟨w.heap.size, 1, none⟩) (by assumption)]; assumption)
  have hk2 : ∀ w2, Below W0.heap.size W0 w2 → w2.cell? ⟨w.heap.size + 1, 0, none⟩ = some (.int .u64 yh) := fun w2 hb => (by rw [hb.cell (p := ⟨w.heap.size + 1, 0, none⟩) (by assumption)]; assumption)
  have hk3 : ∀ w2, Below W0.heap.size W0 w2 → w2.cell? ⟨w.heap.size + 1, 1, none⟩ = some (.int .u64 yl) := fun w2 hb => (by rw [hb.cell (p := ⟨w.heap.size + 1, 1, none⟩) (by assumption)]; assumption)
  have hk4 : ∀ w2, Below W0.heap.size W0 w2 → w2.cell? ⟨w.heap.size + 1 + 1, 0, none⟩ = some (.int .u64 0) := fun w2 hb => (by rw [hb.cell (p := ⟨w.heap.size + 1 + 1, 0, none⟩) (by assumption)]; assumption)
  have hk5 : ∀ w2, Below W0.heap.size W0 w2 → w2.cell? ⟨w.heap.size + 1 + 1, 1, none⟩ = some (.int .u64 0) := fun w2 hb => (by rw [hb.cell (p := ⟨w.heap.size + 1 + 1, 1, none⟩) (by assumption)]; assumption)
  have hk6 : ∀ w2, Below W0.heap.size W0 w2 → w2.cell? ⟨w.heap.size + 1 + 1 + 1, 0, none⟩ = some (.int .u64 68719476736) := fun w2 hb => (by rw [hb.cell (p := ⟨w.heap.size + 1 + 1 + 1, 0, none⟩) (by assumption)]; assumption)
  have hk7 : ∀ w2, Below W0.heap.size W0 w2 → w2.cell? ⟨w.heap.size + 1 + 1 + 1, 1, none⟩ = some (.int .u64 0) := fun w2 hb => (by rw [hb.cell (p := ⟨w.heap.size + 1 + 1 + 1, 1, none⟩) (by assumption)]; assumption)
  clear X1_0 X1_1 U1_0 U1_1 Z1_0 Z1_1 M1_0 M1_1
  refine region_plan (S := fun w2 => Below W0.heap.size W0 w2) [(0, true), (1, true), (3, true), (2, false), (4, false), (5, true), (6, true), (7, true), (9, true), (8, false), (10, false), (11, true), (12, true), (13, true), (14, true), (15, false), (16, true), (17, true)] (by as_aux_lemma => kernel_rfl) (by as_aux_lemma => kernel_rfl) (by as_aux_lemma => kernel_rfl) (by as_aux_lemma => kernel_rfl) (Below.refl W0.heap.size W0).drew ?_
  have Y0 := Lib.hid (Below.refl W0.heap.size W0).drew
  refine plan_yes (v := ?v1_5) (by simp only [List.getElem?_toArray, List.getElem?_cons_zero, List.getElem?_cons_succ]; exact rfl) (Or.inl ⟨by as_aux_lemma => rfl, ?hy1_5⟩) ?rest1_5
  case hy1_5 => (intro w2 hSw; (try dsimp only at hSw); go_simp; try with_reducible rfl)
  try simp only [Act.put, List.setIfInBounds_toArray, List.set_cons_zero, List.set_cons_succ]
  refine plan_yes (v := ?v2_5) (by simp only [List.getElem?_toArray, List.getElem?_cons_zero, List.getElem?_cons_succ]; exact rfl) (Or.inl ⟨by as_aux_lemma => rfl, ?hy2_5⟩) ?rest2_5
  case hy2_5 => (intro w2 hSw; (try dsimp only at hSw); go_simp; try with_reducible rfl)
  try simp only [Act.put, List.setIfInBounds_toArray, List.set_cons_zero, List.set_cons_succ]
  refine plan_yes (v := ?v3_5) (by simp only [List.getElem?_toArray, List.getElem?_cons_zero, List.getElem?_cons_succ]; exact rfl) (Or.inl ⟨by as_aux_lemma => rfl, ?hy3_5⟩) ?rest3_5
  case hy3_5 => (intro w2 hSw; (try dsimp only at hSw); go_simp; try with_reducible rfl)
  try simp only [Act.put, List.setIfInBounds_toArray, List.set_cons_zero, List.set_cons_succ]
  refine plan_calls (by simp only [List.getElem?_toArray, List.getElem?_cons_zero, List.getElem?_cons_succ]; exact rfl) (by as_aux_lemma => rfl) (fun K hK => ?_)
  go_simp
  refine (HA.out _).mono ?_
  rintro e Y1w ⟨rfl, hb1⟩
  have Y1 := Lib.hid (keepS (W0 := W0) Y0.out hb1)
  clear hb1
  refine hK.out _ _ Y1.out ?_
  clear hK K
  try simp only [Act.put, List.setIfInBounds_toArray, List.set_cons_zero, List.set_cons_succ]
  as_aux_lemma =>
   refine plan_calls (by simp only [List.getElem?_toArray, List.getElem?_cons_zero, List.getElem?_cons_succ]; exact rfl) (by as_aux_lemma => rfl) (fun K hK => ?_)
   go_simp
   refine (H1.out _).mono ?_
   rintro e Y2w ⟨rfl, hb1⟩
   have Y2 := Lib.hid (keepS (W0 := W0) Y1.out hb1)
   clear hb1
   refine hK.out _ _ Y2.out ?_
   clear hK K
   try simp only [Act.put, List.setIfInBounds_toArray, List.set_cons_zero, List.set_cons_succ]
   as_aux_lemma =>
    refine plan_yes (v := ?v4_5) (by simp only [List.getElem?_toArray, List.getElem?_cons_zero, List.getElem?_cons_succ]; exact rfl) (Or.inl ⟨by as_aux_lemma => rfl, ?hy4_5⟩) ?rest4_5
    case hy4_5 => (intro w2 hSw; (try dsimp only at hSw); go_simp; try with_reducible rfl)
    try simp only [Act.put, List.setIfInBounds_toArray, List.set_cons_zero, List.set_cons_succ]
    refine plan_yes (v := ?v5_5) (by simp only [List.getElem?_toArray, List.getElem?_cons_zero, List.getElem?_cons_succ]; exact rfl) (Or.inl ⟨by as_aux_lemma => rfl, ?hy5_5⟩) ?rest5_5
    case hy5_5 => (intro w2 hSw; (try dsimp only at hSw); go_simp; try with_reducible rfl)
    try simp only [Act.put, List.setIfInBounds_toArray, List.set_cons_zero, List.set_cons_succ]
    refine plan_yes (v := ?v6_5) (by simp only [List.getElem?_toArray, List.getElem?_cons_zero, List.getElem?_cons_succ]; exact rfl) (Or.inl ⟨by as_aux_lemma => rfl, ?hy6_5⟩) ?rest6_5
    case hy6_5 => (intro w2 hSw; (try dsimp only at hSw); go_simp; try with_reducible rfl)
    try simp only [Act.put, List.setIfInBounds_toArray, List.set_cons_zero, List.set_cons_succ]
    refine plan_yes (v := ?v7_5) (by simp only [List.getElem?_toArray, List.getElem?_cons_zero, List.getElem?_cons_succ]; exact rfl) (Or.inl ⟨by as_aux_lemma => rfl, ?hy7_5⟩) ?rest7_5
    case hy7_5 => (intro w2 hSw; (try dsimp only at hSw); go_simp; try with_reducible rfl)
    try simp only [Act.put, List.setIfInBounds_toArray, List.set_cons_zero, List.set_cons_succ]
    refine plan_calls (by simp only [List.getElem?_toArray, List.getElem?_cons_zero, List.getElem?_cons_succ]; exact rfl) (by as_aux_lemma => rfl) (fun K hK => ?_)
    go_simp
    refine (HB.out _).mono ?_
    rintro e Y3w ⟨rfl, hb1⟩
    have Y3 := Lib.hid (keepS (W0 := W0) Y2.out hb1)
    clear hb1
    refine hK.out _ _ Y3.out ?_
    clear hK K
    try simp only [Act.put, List.setIfInBounds_toArray, List.set_cons_zero, List.set_cons_succ]
    as_aux_lemma =>
     refine plan_calls (by simp only [List.getElem?_toArray, List.getElem?_cons_zero, List.getElem?_cons_succ]; exact rfl) (by as_aux_lemma => rfl) (fun K hK => ?_)
     go_simp
     refine (H2.out _).mono ?_
     rintro e Y4w ⟨rfl, hb1⟩
     have Y4 := Lib.hid (keepS (W0 := W0) Y3.out hb1)
     clear hb1
     refine hK.out _ _ Y4.out ?_
     clear hK K
     try simp only [Act.put, List.setIfInBounds_toArray, List.set_cons_zero, List.set_cons_succ]
     as_aux_lemma =>
      refine plan_yes (v := ?v8_5) (by simp only [List.getElem?_toArray, List.getElem?_cons_zero, List.getElem?_cons_succ]; exact rfl) (Or.inl ⟨by as_aux_lemma => rfl, ?hy8_5⟩) ?rest8_5
      case hy8_5 => (intro w2 hSw; (try dsimp only at hSw); go_simp; try with_reducible rfl)
      try simp only [Act.put, List.setIfInBounds_toArray, List.set_cons_zero, List.set_cons_succ]
      refine plan_yes (v := ?v9_5) (by simp only [List.getElem?_toArray, List.getElem?_cons_zero, List.getElem?_cons_succ]; exact rfl) (Or.inl ⟨by as_aux_lemma => rfl, ?hy9_5⟩) ?rest9_5
      case hy9_5 => (intro w2 hSw; (try dsimp only at hSw); go_simp; try with_reducible rfl)
      try simp only [Act.put, List.setIfInBounds_toArray, List.set_cons_zero, List.set_cons_succ]
      refine plan_yes (v := ?v10_5) (by simp only [List.getElem?_toArray, List.getElem?_cons_zero, List.getElem?_cons_succ]; exact rfl) (Or.inl ⟨by as_aux_lemma => rfl, ?hy10_5⟩) ?rest10_5
      case hy10_5 => (intro w2 hSw; (try dsimp only at hSw); go_simp; try with_reducible rfl)
      try simp only [Act.put, List.setIfInBounds_toArray, List.set_cons_zero, List.set_cons_succ]
      refine plan_yes (v := ?v11_5) (by simp only [List.getElem?_toArray, List.getElem?_cons_zero, List.getElem?_cons_succ]; exact rfl) (Or.inl ⟨by as_aux_lemma => rfl, ?hy11_5⟩) ?rest11_5
      case hy11_5 => (intro w2 hSw; (try dsimp only at hSw); go_simp; try with_reducible rfl)
      try simp only [Act.put, List.setIfInBounds_toArray, List.set_cons_zero, List.set_cons_succ]
      refine plan_calls (by simp only [List.getElem?_toArray, List.getElem?_cons_zero, List.getElem?_cons_succ]; exact rfl) (by as_aux_lemma => rfl) (fun K hK => ?_)
      go_simp
      refine (HK.out _).mono ?_
      rintro e Y5w ⟨rfl, hb1⟩
      have Y5 := Lib.hid (keepS (W0 := W0) Y4.out hb1)
      clear hb1
      refine hK.out _ _ Y5.out ?_
      clear hK K
      try simp only [Act.put, List.setIfInBounds_toArray, List.set_cons_zero, List.set_cons_succ]
      as_aux_lemma =>
       refine plan_yes (v := ?v12_5) (by simp only [List.getElem?_toArray, List.getElem?_cons_zero, List.getElem?_cons_succ]; exact rfl) (Or.inl ⟨by as_aux_lemma => rfl, ?hy12_5⟩) ?rest12_5
       case hy12_5 => (intro w2 hSw; (try dsimp only at hSw); go_simp; try with_reducible rfl)
       try simp only [Act.put, List.setIfInBounds_toArray, List.set_cons_zero, List.set_cons_succ]
       refine plan_yes (v := ?v13_5) (by simp only [List.getElem?_toArray, List.getElem?_cons_zero, List.getElem?_cons_succ]; exact rfl) (Or.inl ⟨by as_aux_lemma => rfl, ?hy13_5⟩) ?rest13_5
       case hy13_5 => (intro w2 hSw; (try dsimp only at hSw); go_simp; try with_reducible rfl)
       try simp only [Act.put, List.setIfInBounds_toArray, List.set_cons_zero, List.set_cons_succ]
       refine plan_done (NoPanic.normal ?_)
       have B0 := Y5.out
       have BW := Lib.hid (HB0.out.trans (B0.mono zW0))
       replace X1 := Lib.hid (row_call B0 X1.out)
       replace U1 := Lib.hid (row_call B0 U1.out)
       replace Z1 := Lib.hid (row_call B0 Z1.out)
       replace M1 := Lib.hid (row_call B0 M1.out)
       have B1 := BW
       clear BW B0 hk0 hk1 hk2 hk3 hk4 hk5 hk6 hk7 zX1 zU1 zZ1 zM1 Y0 Y1 Y2 Y3 Y4 Y5
       obtain ⟨V1, rfl⟩ : ∃ V, V = Y5w := ⟨_, rfl⟩
       have X1_0 : V1.cell? ⟨w.heap.size, 0, none⟩ = some (.int .u64 xh) := cell_of_row _ _ _ _ _ _ X1.out
       have X1_f0 : V1.frozen? ⟨w.heap.size, 0, none⟩ = false := (by simp [World.frozen?, X1.out])
       have X1_1 : V1.cell? ⟨w.heap.size, 1, none⟩ = some (.int .u64 xl) := cell_of_row _ _ _ _ _ _ X1.out
       have X1_f1 : V1.frozen? ⟨w.heap.size, 1, none⟩ = false := (by simp [World.frozen?, X1.out])
       have zX1 := lt_of_heap X1.out
       have U1_0 : V1.cell? ⟨w.heap.size + 1, 0, none⟩ = some (.int .u64 yh) := cell_of_row _ _ _ _ _ _ U1.out
       have U1_1 : V1.cell? ⟨w.heap.size + 1, 1, none⟩ = some (.int .u64 yl) := cell_of_row _ _ _ _ _ _ U1.out
       have zU1 := lt_of_heap U1.out
       have Z1_0 : V1.cell? ⟨w.heap.size + 1 + 1, 0, none⟩ = some (.int .u64 0) := cell_of_row _ _ _ _ _ _ Z1.out
       have Z1_f0 : V1.frozen? ⟨w.heap.size + 1 + 1, 0, none⟩ = false := (by simp [World.frozen?, Z1.out])
       have Z1_1 : V1.cell? ⟨w.heap.size + 1 + 1, 1, none⟩ = some (.int .u64 0) := cell_of_row _ _ _ _ _ _ Z1.out
       have Z1_f1 : V1.frozen? ⟨w.heap.size + 1 + 1, 1, none⟩ = false := (by simp [World.frozen?, Z1.out])
       have zZ1 := lt_of_heap Z1.out
       have M1_0 : V1.cell? ⟨w.heap.size + 1 + 1 + 1, 0, none⟩ = some (.int .u64 68719476736) := cell_of_row _ _ _ _ _ _ M1.out
       have M1_1 : V1.cell? ⟨w.heap.size + 1 + 1 + 1, 1, none⟩ = some (.int .u64 0) := cell_of_row _ _ _ _ _ _ M1.out
       have zM1 := lt_of_heap M1.out
       go_simp
       go_wp2_with fail
       refine (H6.out _).mono ?_
       rintro e V2 ⟨rfl, hb2⟩
       clear X1_0 X1_f0 X1_1 X1_f1 zX1 U1_0 U1_1 zU1 Z1_0 Z1_f0 Z1_1 Z1_f1 zZ1 M1_0 M1_1 zM1
       have B2 : Hid (Below w.heap.size w V2) := by first | exact Lib.hid ((B1.out).trans (hb2.mono (by have := B1.out.size; first | assumption | (simp <;> omega) | (simp; done)))) | exact Lib.hid (((B1.out).alloc (B1.out.size) _).trans (hb2.mono (by have := B1.out.size; first | assumption | (simp <;> omega) | (simp; done)))) | exact Lib.hid ((((B1.out).alloc (B1.out.size) _).alloc (by have := B1.out.size; simp <;> omega) _).trans (hb2.mono (by have := B1.out.size; first | assumption | (simp <;> omega) | (simp; done)))) | exact Lib.hid (((((B1.out).alloc (B1.out.size) _).alloc (by have := B1.out.size; simp <;> omega) _).alloc (by have := B1.out.size; simp <;> omega) _).trans (hb2.mono (by have := B1.out.size; first | assumption | (simp <;> omega) | (simp; done))))
       first | replace X1 := Lib.hid (row_call hb2 X1.out) | replace X1 := Lib.hid (row_call hb2 (row_alloc X1.out _)) | replace X1 := Lib.hid (row_call hb2 (row_alloc (row_alloc X1.out _) _)) | replace X1 := Lib.hid (row_call hb2 (row_alloc (row_alloc (row_alloc X1.out _) _) _))
       first | replace U1 := Lib.hid (row_call hb2 U1.out) | replace U1 := Lib.hid (row_call hb2 (row_alloc U1.out _)) | replace U1 := Lib.hid (row_call hb2 (row_alloc (row_alloc U1.out _) _)) | replace U1 := Lib.hid (row_call hb2 (row_alloc (row_alloc (row_alloc U1.out _) _) _))
       first | replace Z1 := Lib.hid (row_call hb2 Z1.out) | replace Z1 := Lib.hid (row_call hb2 (row_alloc Z1.out _)) | replace Z1 := Lib.hid (row_call hb2 (row_alloc (row_alloc Z1.out _) _)) | replace Z1 := Lib.hid (row_call hb2 (row_alloc (row_alloc (row_alloc Z1.out _) _) _))
       first | replace M1 := Lib.hid (row_call hb2 M1.out) | replace M1 := Lib.hid (row_call hb2 (row_alloc M1.out _)) | replace M1 := Lib.hid (row_call hb2 (row_alloc (row_alloc M1.out _) _)) | replace M1 := Lib.hid (row_call hb2 (row_alloc (row_alloc (row_alloc M1.out _) _) _))
       clear hb2
       have X1_0 : V2.cell? ⟨w.heap.size, 0, none⟩ = some (.int .u64 xh) := cell_of_row _ _ _ _ _ _ X1.out
       have X1_1 : V2.cell? ⟨w.heap.size, 1, none⟩ = some (.int .u64 xl) := cell_of_row _ _ _ _ _ _ X1.out
       have X1_f0 : V2.frozen? ⟨w.heap.size, 0, none⟩ = false := by simp [World.frozen?, X1.out]
       have X1_f1 : V2.frozen? ⟨w.heap.size, 1, none⟩ = false := by simp [World.frozen?, X1.out]
       have U1_0 : V2.cell? ⟨w.heap.size + 1, 0, none⟩ = some (.int .u64 yh) := cell_of_row _ _ _ _ _ _ U1.out
       have U1_1 : V2.cell? ⟨w.heap.size + 1, 1, none⟩ = some (.int .u64 yl) := cell_of_row _ _ _ _ _ _ U1.out
       have Z1_0 : V2.cell? ⟨w.heap.size + 1 + 1, 0, none⟩ = some (.int .u64 0) := cell_of_row _ _ _ _ _ _ Z1.out
       have Z1_1 : V2.cell? ⟨w.heap.size + 1 + 1, 1, none⟩ = some (.int .u64 0) := cell_of_row _ _ _ _ _ _ Z1.out
       have Z1_f0 : V2.frozen? ⟨w.heap.size + 1 + 1, 0, none⟩ = false := by simp [World.frozen?, Z1.out]
       have Z1_f1 : V2.frozen? ⟨w.heap.size + 1 + 1, 1, none⟩ = false := by simp [World.frozen?, Z1.out]
       have M1_0 : V2.cell? ⟨w.heap.size + 1 + 1 + 1, 0, none⟩ = some (.int .u64 68719476736) := cell_of_row _ _ _ _ _ _ M1.out
       have M1_1 : V2.cell? ⟨w.heap.size + 1 + 1 + 1, 1, none⟩ = some (.int .u64 0) := cell_of_row _ _ _ _ _ _ M1.out
       have zX1 := lt_of_heap X1.out
       have zU1 := lt_of_heap U1.out
       have zZ1 := lt_of_heap Z1.out
       have zM1 := lt_of_heap M1.out
       go_simp
       go_wp2_with fail
       refine (H7.out _).mono ?_
       rintro e V3 ⟨rfl, hb3⟩
       clear X1_0 X1_1 X1_f0 X1_f1 zX1 U1_0 U1_1 zU1 Z1_0 Z1_1 Z1_f0 Z1_f1 zZ1 M1_0 M1_1 zM1
       have B3 : Hid (Below w.heap.size w V3) := by first | exact Lib.hid ((B2.out).trans (hb3.mono (by have := B2.out.size; first | assumption | (simp <;> omega) | (simp; done)))) | exact Lib.hid (((B2.out).alloc (B2.out.size) _).trans (hb3.mono (by have := B2.out.size; first | assumption | (simp <;> omega) | (simp; done)))) | exact Lib.hid ((((B2.out).alloc (B2.out.size) _).alloc (by have := B2.out.size; simp <;> omega) _).trans (hb3.mono (by have := B2.out.size; first | assumption | (simp <;> omega) | (simp; done)))) | exact Lib.hid (((((B2.out).alloc (B2.out.size) _).alloc (by have := B2.out.size; simp <;> omega) _).alloc (by have := B2.out.size; simp <;> omega) _).trans (hb3.mono (by have := B2.out.size; first | assumption | (simp <;> omega) | (simp; done))))
       first | replace X1 := Lib.hid (row_call hb3 X1.out) | replace X1 := Lib.hid (row_call hb3 (row_alloc X1.out _)) | replace X1 := Lib.hid (row_call hb3 (row_alloc (row_alloc X1.out _) _)) | replace X1 := Lib.hid (row_call hb3 (row_alloc (row_alloc (row_alloc X1.out _) _) _))
       first | replace U1 := Lib.hid (row_call hb3 U1.out) | replace U1 := Lib.hid (row_call hb3 (row_alloc U1.out _)) | replace U1 := Lib.hid (row_call hb3 (row_alloc (row_alloc U1.out _) _)) | replace U1 := Lib.hid (row_call hb3 (row_alloc (row_alloc (row_alloc U1.out _) _) _))
       first | replace Z1 := Lib.hid (row_call hb3 Z1.out) | replace Z1 := Lib.hid (row_call hb3 (row_alloc Z1.out _)) | replace Z1 := Lib.hid (row_call hb3 (row_alloc (row_alloc Z1.out _) _)) | replace Z1 := Lib.hid (row_call hb3 (row_alloc (row_alloc (row_alloc Z1.out _) _) _))
       first | replace M1 := Lib.hid (row_call hb3 M1.out) | replace M1 := Lib.hid (row_call hb3 (row_alloc M1.out _)) | replace M1 := Lib.hid (row_call hb3 (row_alloc (row_alloc M1.out _) _)) | replace M1 := Lib.hid (row_call hb3 (row_alloc (row_alloc (row_alloc M1.out _) _) _))
       clear hb3
       have X1_0 : V3.cell? ⟨w.heap.size, 0, none⟩ = some (.int .u64 xh) := cell_of_row _ _ _ _ _ _ X1.out
       have X1_1 : V3.cell? ⟨w.heap.size, 1, none⟩ = some (.int .u64 xl) := cell_of_row _ _ _ _ _ _ X1.out
       have X1_f0 : V3.frozen? ⟨w.heap.size, 0, none⟩ = false := by simp [World.frozen?, X1.out]
       have X1_f1 : V3.frozen? ⟨w.heap.size, 1, none⟩ = false := by simp [World.frozen?, X1.out]
       have U1_0 : V3.cell? ⟨w.heap.size + 1, 0, none⟩ = some (.int .u64 yh) := cell_of_row _ _ _ _ _ _ U1.out
       have U1_1 : V3.cell? ⟨w.heap.size + 1, 1, none⟩ = some (.int .u64 yl) := cell_of_row _ _ _ _ _ _ U1.out
       have Z1_0 : V3.cell? ⟨w.heap.size + 1 + 1, 0, none⟩ = some (.int .u64 0) := cell_of_row _ _ _ _ _ _ Z1.out
       have Z1_1 : V3.cell? ⟨w.heap.size + 1 + 1, 1, none⟩ = some (.int .u64 0) := cell_of_row _ _ _ _ _ _ Z1.out
       have Z1_f0 : V3.frozen? ⟨w.heap.size + 1 + 1, 0, none⟩ = false := by simp [World.frozen?, Z1.out]
       have Z1_f1 : V3.frozen? ⟨w.heap.size + 1 + 1, 1, none⟩ = false := by simp [World.frozen?, Z1.out]
       have M1_0 : V3.cell? ⟨w.heap.size + 1 + 1 + 1, 0, none⟩ = some (.int .u64 68719476736) := cell_of_row _ _ _ _ _ _ M1.out
       have M1_1 : V3.cell? ⟨w.heap.size + 1 + 1 + 1, 1, none⟩ = some (.int .u64 0) := cell_of_row _ _ _ _ _ _ M1.out
       have zX1 := lt_of_heap X1.out
       have zU1 := lt_of_heap U1.out
       have zZ1 := lt_of_heap Z1.out
       have zM1 := lt_of_heap M1.out
       go_simp
       go_wp2_with fail
       refine (H8.out _).mono ?_
       rintro e V4 ⟨rfl, hb4⟩
       clear X1_0 X1_1 X1_f0 X1_f1 zX1 U1_0 U1_1 zU1 Z1_0 Z1_1 Z1_f0 Z1_f1 zZ1 M1_0 M1_1 zM1
       have B4 : Hid (Below w.heap.size w V4) := by first | exact Lib.hid ((keep2 (B3.out) (Nat.le_refl _) _ _).trans (hb4.mono (by have := B3.out.size; first | assumption | (simp <;> omega) | (simp; done)))) | exact Lib.hid (((keep2 (B3.out) (Nat.le_refl _) _ _).alloc (B3.out.size) _).trans (hb4.mono (by have := B3.out.size; first | assumption | (simp <;> omega) | (simp; done)))) | exact Lib.hid ((((keep2 (B3.out) (Nat.le_refl _) _ _).alloc (B3.out.size) _).alloc (by have := B3.out.size; simp <;> omega) _).trans (hb4.mono (by have := B3.out.size; first | assumption | (simp <;> omega) | (simp; done)))) | exact Lib.hid (((((keep2 (B3.out) (Nat.le_refl _) _ _).alloc (B3.out.size) _).alloc (by have := B3.out.size; simp <;> omega) _).alloc (by have := B3.out.size; simp <;> omega) _).trans (hb4.mono (by have := B3.out.size; first | assumption | (simp <;> omega) | (simp; done))))
       first | replace X1 := Lib.hid (row_call hb4 (row_set X1.out _ _)) | replace X1 := Lib.hid (row_call hb4 (row_alloc (row_set X1.out _ _) _)) | replace X1 := Lib.hid (row_call hb4 (row_alloc (row_alloc (row_set X1.out _ _) _) _)) | replace X1 := Lib.hid (row_call hb4 (row_alloc (row_alloc (row_alloc (row_set X1.out _ _) _) _) _))
       first | replace U1 := Lib.hid (row_call hb4 (row_other (by omega) U1.out _ _)) | replace U1 := Lib.hid (row_call hb4 (row_alloc (row_other (by omega) U1.out _ _) _)) | replace U1 := Lib.hid (row_call hb4 (row_alloc (row_alloc (row_other (by omega) U1.out _ _) _) _)) | replace U1 := Lib.hid (row_call hb4 (row_alloc (row_alloc (row_alloc (row_other (by omega) U1.out _ _) _) _) _))
       first | replace Z1 := Lib.hid (row_call hb4 (row_other (by omega) Z1.out _ _)) | replace Z1 := Lib.hid (row_call hb4 (row_alloc (row_other (by omega) Z1.out _ _) _)) | replace Z1 := Lib.hid (row_call hb4 (row_alloc (row_alloc (row_other (by omega) Z1.out _ _) _) _)) | replace Z1 := Lib.hid (row_call hb4 (row_alloc (row_alloc (row_alloc (row_other (by omega) Z1.out _ _) _) _) _))
       first | replace M1 := Lib.hid (row_call hb4 (row_other (by omega) M1.out _ _)) | replace M1 := Lib.hid (row_call hb4 (row_alloc (row_other (by omega) M1.out _ _) _)) | replace M1 := Lib.hid (row_call hb4 (row_alloc (row_alloc (row_other (by omega) M1.out _ _) _) _)) | replace M1 := Lib.hid (row_call hb4 (row_alloc (row_alloc (row_alloc (row_other (by omega) M1.out _ _) _) _) _))
       clear hb4
       have X1_0 : V4.cell? ⟨w.heap.size, 0, none⟩ = some (.int .u64 ah) := cell_of_row _ _ _ _ _ _ X1.out
       have X1_1 : V4.cell? ⟨w.heap.size, 1, none⟩ = some (.int .u64 al) := cell_of_row _ _ _ _ _ _ X1.out
       have X1_f0 : V4.frozen? ⟨w.heap.size, 0, none⟩ = false := by simp [World.frozen?, X1.out]
       have X1_f1 : V4.frozen? ⟨w.heap.size, 1, none⟩ = false := by simp [World.frozen?, X1.out]
       have U1_0 : V4.cell? ⟨w.heap.size + 1, 0, none⟩ = some (.int .u64 yh) := cell_of_row _ _ _ _ _ _ U1.out
       have U1_1 : V4.cell? ⟨w.heap.size + 1, 1, none⟩ = some (.int .u64 yl) := cell_of_row _ _ _ _ _ _ U1.out
       have Z1_0 : V4.cell? ⟨w.heap.size + 1 + 1, 0, none⟩ = some (.int .u64 0) := cell_of_row _ _ _ _ _ _ Z1.out
       have Z1_1 : V4.cell? ⟨w.heap.size + 1 + 1, 1, none⟩ = some (.int .u64 0) := cell_of_row _ _ _ _ _ _ Z1.out
       have Z1_f0 : V4.frozen? ⟨w.heap.size + 1 + 1, 0, none⟩ = false := by simp [World.frozen?, Z1.out]
       have Z1_f1 : V4.frozen? ⟨w.heap.size + 1 + 1, 1, none⟩ = false := by simp [World.frozen?, Z1.out]
       have M1_0 : V4.cell? ⟨w.heap.size + 1 + 1 + 1, 0, none⟩ = some (.int .u64 68719476736) := cell_of_row _ _ _ _ _ _ M1.out
       have M1_1 : V4.cell? ⟨w.heap.size + 1 + 1 + 1, 1, none⟩ = some (.int .u64 0) := cell_of_row _ _ _ _ _ _ M1.out
       have zX1 := lt_of_heap X1.out
       have zU1 := lt_of_heap U1.out
       have zZ1 := lt_of_heap Z1.out
       have zM1 := lt_of_heap M1.out
       go_simp
       go_wp2_with fail
       refine (H9.out _).mono ?_
       rintro e V5 ⟨rfl, hb5⟩
       clear X1_0 X1_1 X1_f0 X1_f1 zX1 U1_0 U1_1 zU1 Z1_0 Z1_1 Z1_f0 Z1_f1 zZ1 M1_0 M1_1 zM1
       have B5 : Hid (Below w.heap.size w V5) := by first | exact Lib.hid ((keep2 (B4.out) (Nat.le_refl _) _ _).trans (hb5.mono (by have := B4.out.size; first | assumption | (simp <;> omega) | (simp; done)))) | exact Lib.hid (((keep2 (B4.out) (Nat.le_refl _) _ _).alloc (B4.out.size) _).trans (hb5.mono (by have := B4.out.size; first | assumption | (simp <;> omega) | (simp; done)))) | exact Lib.hid ((((keep2 (B4.out) (Nat.le_refl _) _ _).alloc (B4.out.size) _).alloc (by have := B4.out.size; simp <;> omega) _).trans (hb5.mono (by have := B4.out.size; first | assumption | (simp <;> omega) | (simp; done)))) | exact Lib.hid (((((keep2 (B4.out) (Nat.le_refl _) _ _).alloc (B4.out.size) _).alloc (by have := B4.out.size; simp <;> omega) _).alloc (by have := B4.out.size; simp <;> omega) _).trans (hb5.mono (by have := B4.out.size; first | assumption | (simp <;> omega) | (simp; done))))
       first | replace X1 := Lib.hid (row_call hb5 (row_set X1.out _ _)) | replace X1 := Lib.hid (row_call hb5 (row_alloc (row_set X1.out _ _) _)) | replace X1 := Lib.hid (row_call hb5 (row_alloc (row_alloc (row_set X1.out _ _) _) _)) | replace X1 := Lib.hid (row_call hb5 (row_alloc (row_alloc (row_alloc (row_set X1.out _ _) _) _) _))
       first | replace U1 := Lib.hid (row_call hb5 (row_other (by omega) U1.out _ _)) | replace U1 := Lib.hid (row_call hb5 (row_alloc (row_other (by omega) U1.out _ _) _)) | replace U1 := Lib.hid (row_call hb5 (row_alloc (row_alloc (row_other (by omega) U1.out _ _) _) _)) | replace U1 := Lib.hid (row_call hb5 (row_alloc (row_alloc (row_alloc (row_other (by omega) U1.out _ _) _) _) _))
       first | replace Z1 := Lib.hid (row_call hb5 (row_other (by omega) Z1.out _ _)) | replace Z1 := Lib.hid (row_call hb5 (row_alloc (row_other (by omega) Z1.out _ _) _)) | replace Z1 := Lib.hid (row_call hb5 (row_alloc (row_alloc (row_other (by omega) Z1.out _ _) _) _)) | replace Z1 := Lib.hid (row_call hb5 (row_alloc (row_alloc (row_alloc (row_other (by omega) Z1.out _ _) _) _) _))
       first | replace M1 := Lib.hid (row_call hb5 (row_other (by omega) M1.out _ _)) | replace M1 := Lib.hid (row_call hb5 (row_alloc (row_other (by omega) M1.out _ _) _)) | replace M1 := Lib.hid (row_call hb5 (row_alloc (row_alloc (row_other (by omega) M1.out _ _) _) _)) | replace M1 := Lib.hid (row_call hb5 (row_alloc (row_alloc (row_alloc (row_other (by omega) M1.out _ _) _) _) _))
       clear hb5
       have X1_0 : V5.cell? ⟨w.heap.size, 0, none⟩ = some (.int .u64 rh) := cell_of_row _ _ _ _ _ _ X1.out
       have X1_1 : V5.cell? ⟨w.heap.size, 1, none⟩ = some (.int .u64 rl) := cell_of_row _ _ _ _ _ _ X1.out
       have X1_f0 : V5.frozen? ⟨w.heap.size, 0, none⟩ = false := by simp [World.frozen?, X1.out]
       have X1_f1 : V5.frozen? ⟨w.heap.size, 1, none⟩ = false := by simp [World.frozen?, X1.out]
       have U1_0 : V5.cell? ⟨w.heap.size + 1, 0, none⟩ = some (.int .u64 yh) := cell_of_row _ _ _ _ _ _ U1.out
       have U1_1 : V5.cell? ⟨w.heap.size + 1, 1, none⟩ = some (.int .u64 yl) := cell_of_row _ _ _ _ _ _ U1.out
       have Z1_0 : V5.cell? ⟨w.heap.size + 1 + 1, 0, none⟩ = some (.int .u64 0) := cell_of_row _ _ _ _ _ _ Z1.out
       have Z1_1 : V5.cell? ⟨w.heap.size + 1 + 1, 1, none⟩ = some (.int .u64 0) := cell_of_row _ _ _ _ _ _ Z1.out
       have Z1_f0 : V5.frozen? ⟨w.heap.size + 1 + 1, 0, none⟩ = false := by simp [World.frozen?, Z1.out]
       have Z1_f1 : V5.frozen? ⟨w.heap.size + 1 + 1, 1, none⟩ = false := by simp [World.frozen?, Z1.out]
       have M1_0 : V5.cell? ⟨w.heap.size + 1 + 1 + 1, 0, none⟩ = some (.int .u64 68719476736) := cell_of_row _ _ _ _ _ _ M1.out
       have M1_1 : V5.cell? ⟨w.heap.size + 1 + 1 + 1, 1, none⟩ = some (.int .u64 0) := cell_of_row _ _ _ _ _ _ M1.out
       have zX1 := lt_of_heap X1.out
       have zU1 := lt_of_heap U1.out
       have zZ1 := lt_of_heap Z1.out
       have zM1 := lt_of_heap M1.out
       go_simp
       go_wp2
       refine shut_ret (v := .tuple #[.agg #[.int .u64 sh, .int .u64 sl], .int .i64 0]) (by simp [results, Try.results8, go_sem, zZ1, Z1_0, Z1_1]) rfl ⟨rfl, ?_⟩
       exact keep2 (keep2 B5.out (by omega) _ _) (by omega) _ _
end Go.Proofs.Ytlfbiidnfheelaa
