/- The walks of the laws of layer 3, two more. -/
import Derived.Test.YtlpbkdihjpceoaaInstG
namespace Go.Proofs.Ytlpbkdihjpceoaa
set_option linter.unusedVariables false
set_option linter.unusedSimpArgs false
open Go.ChangeShapes Go.WideShapes Go.ChangeAt Go.RowKit

/-- a difference, added again. -/
theorem back_sub {s n d m : Int} (h : fsI (ckI s n) (ckI d m) = 0) : adS d m (sbS s n d m) (sbN s n d m) = s ∧ adN d m (sbS s n d m) (sbN s n d m) = n ∧ adE d m (sbS s n d m) (sbN s n d m) = 0 := by
  obtain ⟨h1, h2⟩ := fs_zero h
  obtain ⟨t1, t2⟩ := sb_ok h
  have hw : wmB (sbN s n d m) = true := by rw [t2]; exact wmB_true (by omega) (by omega)
  obtain ⟨a1, a2, a3⟩ := ad_sum (s := d) (n := m) (d := sbS s n d m) hw h2
  have e : nanos d m + nanos (sbS s n d m) (sbN s n d m) = nanos s n := by
    rw [t1, t2]
    generalize nanos s n = p
    generalize nanos d m = q
    unfold nanos
    omega
  rw [e] at a1 a2 a3
  obtain ⟨u1, u2, u3⟩ := tk_self h1
  exact ⟨a2.trans u1, a3.trans u2, a1.trans u3⟩
theorem sb_64 (s n d m : Int) : in64 (sbS s n d m) ∧ in64 (sbN s n d m) := by
  by_cases h : fsI (ckI s n) (ckI d m) = 0
  · obtain ⟨t1, t2⟩ := sb_ok h
    obtain ⟨r1, r2⟩ := sb_in h
    rw [t1, t2]; unfold in64; omega
  · obtain ⟨t1, t2⟩ := sb_no h
    rw [t1, t2]; unfold in64; omega
set_option maxHeartbeats 6400000 in
set_option maxRecDepth 100000 in
theorem instantBetween_walk (s n d m : Int) (bs : in64 s) (bn : in64 n) (bd : in64 d) (bm : in64 m) (w : World) :
    Calls Try.prog 6 #[.agg #[.int .i64 s, .int .i64 n], .agg #[.int .i64 d, .int .i64 m]] w fun e w' => e = .returned (.bool true) ∧ Below w.heap.size w w' := by
  have X1 := iSub_any s n d m bs bn bd bm
  have X2 := riSub_any s n d m bs bn bd bm
  have H3 := Lib.hid (iCmp_any s n d m)
  have H4 := Lib.hid (pair_any s n)
  have H5 := Lib.hid (pair_any d m)
  have H6 := Lib.hid (riCmp_any s n d m)
  have H8 := Lib.hid awake3_any
  by_cases hc : fsI (ckI s n) (ckI d m) = 0
  · have X7 := iAdd_any d m (sbS s n d m) (sbN s n d m) bd bm (sb_64 s n d m).1 (sb_64 s n d m).2
    obtain ⟨a1, a2, a3⟩ := back_sub hc
    rw [a1, a2, a3] at X7
    rw [hc] at X1 X2
    have H1 := Lib.hid X1
    have H2 := Lib.hid X2
    have H7 := Lib.hid X7
    clear X1 X2 X7 a1 a2 a3 hc bs bn bd bm
    generalize sbS s n d m = S at *
    generalize sbN s n d m = N at *
    generalize ord2 s n d m = c at *
    go_enter Try.func6, Try.ntmps6
    go_wp2_with fail
    
    refine (H1.out _).mono ?_
    rintro e V1 ⟨rfl, hb1⟩
    have B1 := Lib.hid ((((Below.refl w.heap.size w).alloc (Nat.le_refl _) _).alloc (by simp <;> omega) _).trans (hb1.mono (by first | assumption | (simp <;> omega) | (simp; done))))
    have A1 := Lib.hid (row_call hb1 (row_alloc (heap_alloc_new _ _) _))
    have D1 := Lib.hid (row_at (k' := w.heap.size + 1) (by simp) (row_call hb1 (heap_alloc_new _ _)))
    clear hb1
    have A1_0 : V1.cell? ⟨w.heap.size, 0, none⟩ = some (.int .i64 s) := cell_of_row _ _ _ _ _ _ A1.out
    have A1_1 : V1.cell? ⟨w.heap.size, 1, none⟩ = some (.int .i64 n) := cell_of_row _ _ _ _ _ _ A1.out
    have D1_0 : V1.cell? ⟨w.heap.size + 1, 0, none⟩ = some (.int .i64 d) := cell_of_row _ _ _ _ _ _ D1.out
    have D1_1 : V1.cell? ⟨w.heap.size + 1, 1, none⟩ = some (.int .i64 m) := cell_of_row _ _ _ _ _ _ D1.out
    have zA1 := lt_of_heap A1.out
    have zD1 := lt_of_heap D1.out
    go_simp
    go_wp2_with fail
    refine (H2.out _).mono ?_
    rintro e V2 ⟨rfl, hb2⟩
    clear A1_0 A1_1 zA1 D1_0 D1_1 zD1
    have nA1I1 := Lib.hid (lt_of_heap A1.out)
    have nD1I1 := Lib.hid (lt_of_heap D1.out)
    have B2 := Lib.hid (((B1.out).alloc (B1.out.size) _).trans (hb2.mono (by have := B1.out.size; first | assumption | (simp <;> omega) | (simp; done))))
    replace A1 := Lib.hid (row_call hb2 (row_alloc A1.out _))
    replace D1 := Lib.hid (row_call hb2 (row_alloc D1.out _))
    have I1 := Lib.hid (row_call hb2 (heap_alloc_new _ _))
    clear hb2
    have A1_0 : V2.cell? ⟨w.heap.size, 0, none⟩ = some (.int .i64 s) := cell_of_row _ _ _ _ _ _ A1.out
    have A1_1 : V2.cell? ⟨w.heap.size, 1, none⟩ = some (.int .i64 n) := cell_of_row _ _ _ _ _ _ A1.out
    have D1_0 : V2.cell? ⟨w.heap.size + 1, 0, none⟩ = some (.int .i64 d) := cell_of_row _ _ _ _ _ _ D1.out
    have D1_1 : V2.cell? ⟨w.heap.size + 1, 1, none⟩ = some (.int .i64 m) := cell_of_row _ _ _ _ _ _ D1.out
    have I1_0 : V2.cell? ⟨V1.heap.size, 0, none⟩ = some (.int .i64 S) := cell_of_row _ _ _ _ _ _ I1.out
    have I1_1 : V2.cell? ⟨V1.heap.size, 1, none⟩ = some (.int .i64 N) := cell_of_row _ _ _ _ _ _ I1.out
    have zA1 := lt_of_heap A1.out
    have zD1 := lt_of_heap D1.out
    have zI1 := lt_of_heap I1.out
    go_simp
    go_wp2_with fail
    obtain ⟨W0, hW0⟩ : ∃ W0, W0 = (V2.alloc (Obj.cells #[Value.int .i64 S, Value.int .i64 N] 42)) := ⟨_, rfl⟩
    replace A1 := Lib.hid (row_by hW0 (row_alloc A1.out _))
    replace D1 := Lib.hid (row_by hW0 (row_alloc D1.out _))
    replace I1 := Lib.hid (row_by hW0 (row_alloc I1.out _))
    have J1 := Lib.hid (row_at (k' := V2.heap.size) (by simp) (row_by hW0 (heap_alloc_new _ _)))
    clear A1_0 A1_1 zA1 D1_0 D1_1 zD1 I1_0 I1_1 zI1
    have A1_0 : W0.cell? ⟨w.heap.size, 0, none⟩ = some (.int .i64 s) := cell_of_row _ _ _ _ _ _ A1.out
    have A1_1 : W0.cell? ⟨w.heap.size, 1, none⟩ = some (.int .i64 n) := cell_of_row _ _ _ _ _ _ A1.out
    have zA1 := lt_of_heap A1.out
    have D1_0 : W0.cell? ⟨w.heap.size + 1, 0, none⟩ = some (.int .i64 d) := cell_of_row _ _ _ _ _ _ D1.out
    have D1_1 : W0.cell? ⟨w.heap.size + 1, 1, none⟩ = some (.int .i64 m) := cell_of_row _ _ _ _ _ _ D1.out
    have zD1 := lt_of_heap D1.out
    have I1_0 : W0.cell? ⟨V1.heap.size, 0, none⟩ = some (.int .i64 S) := cell_of_row _ _ _ _ _ _ I1.out
    have I1_1 : W0.cell? ⟨V1.heap.size, 1, none⟩ = some (.int .i64 N) := cell_of_row _ _ _ _ _ _ I1.out
    have zI1 := lt_of_heap I1.out
    have J1_0 : W0.cell? ⟨V2.heap.size, 0, none⟩ = some (.int .i64 S) := cell_of_row _ _ _ _ _ _ J1.out
    have J1_1 : W0.cell? ⟨V2.heap.size, 1, none⟩ = some (.int .i64 N) := cell_of_row _ _ _ _ _ _ J1.out
    have zJ1 := lt_of_heap J1.out
    have HB0 := Lib.hid (below_by hW0 ((B2.out).alloc (B2.out.size) _))
    have zW0 := HB0.out.size
    have HW0 := Lib.hid hW0
    clear hW0
    try go_simp
    rw [← HW0.out]
    have hk0 : ∀ w2, Below W0.heap.size W0 w2 → w2.cell? ⟨w.heap.size, 0, none⟩ = some (.int .i64 s) := fun w2 hb => (by rw [hb.cell (p := ⟨w.heap.size, 0, none⟩) (by assumption)]; assumption)
    have hk1 : ∀ w2, Below W0.heap.size W0 w2 → w2.cell? ⟨w.heap.size, 1, none⟩ = some (.int .i64 n) := fun w2 hb => (by rw [hb.cell (p := ⟨w.heap.size, 1, none⟩) (by assumption)]; assumption)
    have hk2 : ∀ w2, Below W0.heap.size W0 w2 → w2.cell? ⟨w.heap.size + 1, 0, none⟩ = some (.int .i64 d) := fun w2 hb => (by rw [hb.cell (p := ⟨w.heap.size + 1, 0, none⟩) (by assumption)]; assumption)
    have hk3 : ∀ w2, Below W0.heap.size W0 w2 → w2.cell? ⟨w.heap.size + 1, 1, none⟩ = some (.int .i64 m) := fun w2 hb => (by rw [hb.cell (p := ⟨w.heap.size + 1, 1, none⟩) (by assumption)]; assumption)
    have hk4 : ∀ w2, Below W0.heap.size W0 w2 → w2.cell? ⟨V1.heap.size, 0, none⟩ = some (.int .i64 S) := fun w2 hb => (by rw [hb.cell (p := ⟨V1.heap.size, 0, none⟩) (by assumption)]; assumption)
    have hk5 : ∀ w2, Below W0.heap.size W0 w2 → w2.cell? ⟨V1.heap.size, 1, none⟩ = some (.int .i64 N) := fun w2 hb => (by rw [hb.cell (p := ⟨V1.heap.size, 1, none⟩) (by assumption)]; assumption)
    have hk6 : ∀ w2, Below W0.heap.size W0 w2 → w2.cell? ⟨V2.heap.size, 0, none⟩ = some (.int .i64 S) := fun w2 hb => (by rw [hb.cell (p := ⟨V2.heap.size, 0, none⟩) (by assumption)]; assumption)
    have hk7 : ∀ w2, Below W0.heap.size W0 w2 → w2.cell? ⟨V2.heap.size, 1, none⟩ = some (.int .i64 N) := fun w2 hb => (by rw [hb.cell (p := ⟨V2.heap.size, 1, none⟩) (by assumption)]; assumption)
    clear A1_0 A1_1 D1_0 D1_1 I1_0 I1_1 J1_0 J1_1
    refine region_plan (S := fun w2 => Below W0.heap.size W0 w2) [(0, true), (1, true), (2, true), (3, true), (4, true), (5, true), (6, true), (7, true), (8, true), (9, true), (10, true), (12, true), (14, true), (11, false), (13, false), (15, false), (16, false), (17, true), (18, true)] (by as_aux_lemma => kernel_rfl) (by as_aux_lemma => kernel_rfl) (by as_aux_lemma => kernel_rfl) (by as_aux_lemma => kernel_rfl) (Below.refl W0.heap.size W0).drew ?_
    have Y0 := Lib.hid (Below.refl W0.heap.size W0).drew
    refine plan_yes (v := ?v1) (by simp only [List.getElem?_toArray, List.getElem?_cons_zero, List.getElem?_cons_succ]; exact rfl) (Or.inl ⟨by as_aux_lemma => rfl, ?hy1⟩) ?rest1
    case hy1 => (intro w2 hSw; (try dsimp only at hSw); go_simp; try with_reducible rfl)
    try simp only [Act.put, List.setIfInBounds_toArray, List.set_cons_zero, List.set_cons_succ]
    refine plan_yes (v := ?v2) (by simp only [List.getElem?_toArray, List.getElem?_cons_zero, List.getElem?_cons_succ]; exact rfl) (Or.inl ⟨by as_aux_lemma => rfl, ?hy2⟩) ?rest2
    case hy2 => (intro w2 hSw; (try dsimp only at hSw); go_simp; try with_reducible rfl)
    try simp only [Act.put, List.setIfInBounds_toArray, List.set_cons_zero, List.set_cons_succ]
    refine plan_yes (v := .bool false) (by simp only [List.getElem?_toArray, List.getElem?_cons_zero, List.getElem?_cons_succ]; exact rfl) (Or.inl ⟨by as_aux_lemma => rfl, ?hy3⟩) ?rest3
    case hy3 => (intro w2 hSw; first | (apply neq_wide; rfl; rfl; rfl) | (apply neq_inst; rfl; rfl; rfl) | (apply neq_dur; rfl; rfl; rfl))
    try simp only [Act.put, List.setIfInBounds_toArray, List.set_cons_zero, List.set_cons_succ]
    refine plan_yes (v := ?v4) (by simp only [List.getElem?_toArray, List.getElem?_cons_zero, List.getElem?_cons_succ]; exact rfl) (Or.inl ⟨by as_aux_lemma => rfl, ?hy4⟩) ?rest4
    case hy4 => (intro w2 hSw; (try dsimp only at hSw); go_simp; try with_reducible rfl)
    try simp only [Act.put, List.setIfInBounds_toArray, List.set_cons_zero, List.set_cons_succ]
    refine plan_yes (v := ?v5) (by simp only [List.getElem?_toArray, List.getElem?_cons_zero, List.getElem?_cons_succ]; exact rfl) (Or.inl ⟨by as_aux_lemma => rfl, ?hy5⟩) ?rest5
    case hy5 => (intro w2 hSw; (try dsimp only at hSw); go_simp; try with_reducible rfl)
    try simp only [Act.put, List.setIfInBounds_toArray, List.set_cons_zero, List.set_cons_succ]
    refine plan_yes (v := ?v6) (by simp only [List.getElem?_toArray, List.getElem?_cons_zero, List.getElem?_cons_succ]; exact rfl) (Or.inl ⟨by as_aux_lemma => rfl, ?hy6⟩) ?rest6
    case hy6 => (intro w2 hSw; (try dsimp only at hSw); go_simp; try with_reducible rfl)
    try simp only [Act.put, List.setIfInBounds_toArray, List.set_cons_zero, List.set_cons_succ]
    refine plan_yes (v := ?v7) (by simp only [List.getElem?_toArray, List.getElem?_cons_zero, List.getElem?_cons_succ]; exact rfl) (Or.inl ⟨by as_aux_lemma => rfl, ?hy7⟩) ?rest7
    case hy7 => (intro w2 hSw; (try dsimp only at hSw); go_simp; try with_reducible rfl)
    try simp only [Act.put, List.setIfInBounds_toArray, List.set_cons_zero, List.set_cons_succ]
    refine plan_yes (v := ?v8) (by simp only [List.getElem?_toArray, List.getElem?_cons_zero, List.getElem?_cons_succ]; exact rfl) (Or.inl ⟨by as_aux_lemma => rfl, ?hy8⟩) ?rest8
    case hy8 => (intro w2 hSw; (try dsimp only at hSw); go_simp; try with_reducible rfl)
    try simp only [Act.put, List.setIfInBounds_toArray, List.set_cons_zero, List.set_cons_succ]
    refine plan_yes (v := ?v9) (by simp only [List.getElem?_toArray, List.getElem?_cons_zero, List.getElem?_cons_succ]; exact rfl) (Or.inl ⟨by as_aux_lemma => rfl, ?hy9⟩) ?rest9
    case hy9 => (intro w2 hSw; (try dsimp only at hSw); go_simp; try with_reducible rfl)
    try simp only [Act.put, List.setIfInBounds_toArray, List.set_cons_zero, List.set_cons_succ]
    refine plan_yes (v := ?v10) (by simp only [List.getElem?_toArray, List.getElem?_cons_zero, List.getElem?_cons_succ]; exact rfl) (Or.inl ⟨by as_aux_lemma => rfl, ?hy10⟩) ?rest10
    case hy10 => (intro w2 hSw; (try dsimp only at hSw); go_simp; try with_reducible rfl)
    try simp only [Act.put, List.setIfInBounds_toArray, List.set_cons_zero, List.set_cons_succ]
    refine plan_yes (v := ?v11) (by simp only [List.getElem?_toArray, List.getElem?_cons_zero, List.getElem?_cons_succ]; exact rfl) (Or.inl ⟨by as_aux_lemma => rfl, ?hy11⟩) ?rest11
    case hy11 => (intro w2 hSw; (try dsimp only at hSw); go_simp; try with_reducible rfl)
    try simp only [Act.put, List.setIfInBounds_toArray, List.set_cons_zero, List.set_cons_succ]
    refine plan_yes (v := ?v12) (by simp only [List.getElem?_toArray, List.getElem?_cons_zero, List.getElem?_cons_succ]; exact rfl) (Or.inl ⟨by as_aux_lemma => rfl, ?hy12⟩) ?rest12
    case hy12 => (intro w2 hSw; (try dsimp only at hSw); go_simp; try with_reducible rfl)
    try simp only [Act.put, List.setIfInBounds_toArray, List.set_cons_zero, List.set_cons_succ]
    refine plan_yes (v := ?v13) (by simp only [List.getElem?_toArray, List.getElem?_cons_zero, List.getElem?_cons_succ]; exact rfl) (Or.inl ⟨by as_aux_lemma => rfl, ?hy13⟩) ?rest13
    case hy13 => (intro w2 hSw; (try dsimp only at hSw); go_simp; try with_reducible rfl)
    try simp only [Act.put, List.setIfInBounds_toArray, List.set_cons_zero, List.set_cons_succ]
    refine plan_calls (by simp only [List.getElem?_toArray, List.getElem?_cons_zero, List.getElem?_cons_succ]; exact rfl) (by as_aux_lemma => rfl) (fun K hK => ?_)
    go_simp
    refine (H3.out _).mono ?_
    rintro e Y1w ⟨rfl, hb1⟩
    have Y1 := Lib.hid (keepS (W0 := W0) Y0.out hb1)
    clear hb1
    refine hK.out _ _ Y1.out ?_
    clear hK K
    try simp only [Act.put, List.setIfInBounds_toArray, List.set_cons_zero, List.set_cons_succ]
    as_aux_lemma =>
     refine plan_calls (by simp only [List.getElem?_toArray, List.getElem?_cons_zero, List.getElem?_cons_succ]; exact rfl) (by as_aux_lemma => rfl) (fun K hK => ?_)
     go_simp
     refine (H4.out _).mono ?_
     rintro e Y2w ⟨rfl, hb1⟩
     have Y2 := Lib.hid (keepS (W0 := W0) Y1.out hb1)
     clear hb1
     refine hK.out _ _ Y2.out ?_
     clear hK K
     try simp only [Act.put, List.setIfInBounds_toArray, List.set_cons_zero, List.set_cons_succ]
     as_aux_lemma =>
      refine plan_calls (by simp only [List.getElem?_toArray, List.getElem?_cons_zero, List.getElem?_cons_succ]; exact rfl) (by as_aux_lemma => rfl) (fun K hK => ?_)
      go_simp
      refine (H5.out _).mono ?_
      rintro e Y3w ⟨rfl, hb1⟩
      have Y3 := Lib.hid (keepS (W0 := W0) Y2.out hb1)
      clear hb1
      refine hK.out _ _ Y3.out ?_
      clear hK K
      try simp only [Act.put, List.setIfInBounds_toArray, List.set_cons_zero, List.set_cons_succ]
      as_aux_lemma =>
       refine plan_calls (by simp only [List.getElem?_toArray, List.getElem?_cons_zero, List.getElem?_cons_succ]; exact rfl) (by as_aux_lemma => rfl) (fun K hK => ?_)
       go_simp
       refine (H6.out _).mono ?_
       rintro e Y4w ⟨rfl, hb1⟩
       have Y4 := Lib.hid (keepS (W0 := W0) Y3.out hb1)
       clear hb1
       refine hK.out _ _ Y4.out ?_
       clear hK K
       try simp only [Act.put, List.setIfInBounds_toArray, List.set_cons_zero, List.set_cons_succ]
       as_aux_lemma =>
        refine plan_yes (v := ?v14) (by simp only [List.getElem?_toArray, List.getElem?_cons_zero, List.getElem?_cons_succ]; exact rfl) (Or.inl ⟨by as_aux_lemma => rfl, ?hy14⟩) ?rest14
        case hy14 => (intro w2 hSw; (try dsimp only at hSw); go_simp; try with_reducible rfl)
        try simp only [Act.put, List.setIfInBounds_toArray, List.set_cons_zero, List.set_cons_succ]
        refine plan_yes (v := ?v15) (by simp only [List.getElem?_toArray, List.getElem?_cons_zero, List.getElem?_cons_succ]; exact rfl) (Or.inl ⟨by as_aux_lemma => rfl, ?hy15⟩) ?rest15
        case hy15 => (intro w2 hSw; (try dsimp only at hSw); go_simp; try with_reducible rfl)
        try simp only [Act.put, List.setIfInBounds_toArray, List.set_cons_zero, List.set_cons_succ]
        refine plan_done (NoPanic.normal ?_)
        have B0 := Y4.out
        have BW := Lib.hid (HB0.out.trans (B0.mono zW0))
        replace A1 := Lib.hid (row_call B0 A1.out)
        replace D1 := Lib.hid (row_call B0 D1.out)
        replace I1 := Lib.hid (row_call B0 I1.out)
        replace J1 := Lib.hid (row_call B0 J1.out)
        have B3 := BW
        clear BW B0 hk0 hk1 hk2 hk3 hk4 hk5 hk6 hk7 zA1 zD1 zI1 zJ1 Y0 Y1 Y2 Y3 Y4
        obtain ⟨V3, rfl⟩ : ∃ V, V = Y4w := ⟨_, rfl⟩
        have A1_0 : V3.cell? ⟨w.heap.size, 0, none⟩ = some (.int .i64 s) := cell_of_row _ _ _ _ _ _ A1.out
        have A1_1 : V3.cell? ⟨w.heap.size, 1, none⟩ = some (.int .i64 n) := cell_of_row _ _ _ _ _ _ A1.out
        have zA1 := lt_of_heap A1.out
        have D1_0 : V3.cell? ⟨w.heap.size + 1, 0, none⟩ = some (.int .i64 d) := cell_of_row _ _ _ _ _ _ D1.out
        have D1_1 : V3.cell? ⟨w.heap.size + 1, 1, none⟩ = some (.int .i64 m) := cell_of_row _ _ _ _ _ _ D1.out
        have zD1 := lt_of_heap D1.out
        have I1_0 : V3.cell? ⟨V1.heap.size, 0, none⟩ = some (.int .i64 S) := cell_of_row _ _ _ _ _ _ I1.out
        have I1_1 : V3.cell? ⟨V1.heap.size, 1, none⟩ = some (.int .i64 N) := cell_of_row _ _ _ _ _ _ I1.out
        have zI1 := lt_of_heap I1.out
        have J1_0 : V3.cell? ⟨V2.heap.size, 0, none⟩ = some (.int .i64 S) := cell_of_row _ _ _ _ _ _ J1.out
        have J1_1 : V3.cell? ⟨V2.heap.size, 1, none⟩ = some (.int .i64 N) := cell_of_row _ _ _ _ _ _ J1.out
        have zJ1 := lt_of_heap J1.out
        go_simp
        go_wp2_with fail
        refine (H7.out _).mono ?_
        rintro e V4 ⟨rfl, hb4⟩
        clear A1_0 A1_1 zA1 D1_0 D1_1 zD1 I1_0 I1_1 zI1 J1_0 J1_1 zJ1
        have B4 : Hid (Below w.heap.size w V4) := by first | exact Lib.hid ((B3.out).trans (hb4.mono (by have := B3.out.size; first | assumption | (simp <;> omega) | (simp; done)))) | exact Lib.hid (((B3.out).alloc (B3.out.size) _).trans (hb4.mono (by have := B3.out.size; first | assumption | (simp <;> omega) | (simp; done)))) | exact Lib.hid ((((B3.out).alloc (B3.out.size) _).alloc (by have := B3.out.size; simp <;> omega) _).trans (hb4.mono (by have := B3.out.size; first | assumption | (simp <;> omega) | (simp; done)))) | exact Lib.hid (((((B3.out).alloc (B3.out.size) _).alloc (by have := B3.out.size; simp <;> omega) _).alloc (by have := B3.out.size; simp <;> omega) _).trans (hb4.mono (by have := B3.out.size; first | assumption | (simp <;> omega) | (simp; done))))
        first | replace A1 := Lib.hid (row_call hb4 A1.out) | replace A1 := Lib.hid (row_call hb4 (row_alloc A1.out _)) | replace A1 := Lib.hid (row_call hb4 (row_alloc (row_alloc A1.out _) _)) | replace A1 := Lib.hid (row_call hb4 (row_alloc (row_alloc (row_alloc A1.out _) _) _))
        first | replace D1 := Lib.hid (row_call hb4 D1.out) | replace D1 := Lib.hid (row_call hb4 (row_alloc D1.out _)) | replace D1 := Lib.hid (row_call hb4 (row_alloc (row_alloc D1.out _) _)) | replace D1 := Lib.hid (row_call hb4 (row_alloc (row_alloc (row_alloc D1.out _) _) _))
        first | replace I1 := Lib.hid (row_call hb4 I1.out) | replace I1 := Lib.hid (row_call hb4 (row_alloc I1.out _)) | replace I1 := Lib.hid (row_call hb4 (row_alloc (row_alloc I1.out _) _)) | replace I1 := Lib.hid (row_call hb4 (row_alloc (row_alloc (row_alloc I1.out _) _) _))
        first | replace J1 := Lib.hid (row_call hb4 J1.out) | replace J1 := Lib.hid (row_call hb4 (row_alloc J1.out _)) | replace J1 := Lib.hid (row_call hb4 (row_alloc (row_alloc J1.out _) _)) | replace J1 := Lib.hid (row_call hb4 (row_alloc (row_alloc (row_alloc J1.out _) _) _))
        clear hb4
        have A1_0 : V4.cell? ⟨w.heap.size, 0, none⟩ = some (.int .i64 s) := cell_of_row _ _ _ _ _ _ A1.out
        have A1_1 : V4.cell? ⟨w.heap.size, 1, none⟩ = some (.int .i64 n) := cell_of_row _ _ _ _ _ _ A1.out
        have D1_0 : V4.cell? ⟨w.heap.size + 1, 0, none⟩ = some (.int .i64 d) := cell_of_row _ _ _ _ _ _ D1.out
        have D1_1 : V4.cell? ⟨w.heap.size + 1, 1, none⟩ = some (.int .i64 m) := cell_of_row _ _ _ _ _ _ D1.out
        have I1_0 : V4.cell? ⟨V1.heap.size, 0, none⟩ = some (.int .i64 S) := cell_of_row _ _ _ _ _ _ I1.out
        have I1_1 : V4.cell? ⟨V1.heap.size, 1, none⟩ = some (.int .i64 N) := cell_of_row _ _ _ _ _ _ I1.out
        have J1_0 : V4.cell? ⟨V2.heap.size, 0, none⟩ = some (.int .i64 S) := cell_of_row _ _ _ _ _ _ J1.out
        have J1_1 : V4.cell? ⟨V2.heap.size, 1, none⟩ = some (.int .i64 N) := cell_of_row _ _ _ _ _ _ J1.out
        have zA1 := lt_of_heap A1.out
        have zD1 := lt_of_heap D1.out
        have zI1 := lt_of_heap I1.out
        have zJ1 := lt_of_heap J1.out
        go_simp
        go_wp2_with fail
        refine (H8.out _).mono ?_
        rintro e V5 ⟨rfl, hb5⟩
        clear A1_0 A1_1 zA1 D1_0 D1_1 zD1 I1_0 I1_1 zI1 J1_0 J1_1 zJ1
        have nA1K1 := Lib.hid (lt_of_heap A1.out)
        have nD1K1 := Lib.hid (lt_of_heap D1.out)
        have nI1K1 := Lib.hid (lt_of_heap I1.out)
        have nJ1K1 := Lib.hid (lt_of_heap J1.out)
        have B5 := Lib.hid (((B4.out).alloc (B4.out.size) _).trans (hb5.mono (by have := B4.out.size; first | assumption | (simp <;> omega) | (simp; done))))
        replace A1 := Lib.hid (row_call hb5 (row_alloc A1.out _))
        replace D1 := Lib.hid (row_call hb5 (row_alloc D1.out _))
        replace I1 := Lib.hid (row_call hb5 (row_alloc I1.out _))
        replace J1 := Lib.hid (row_call hb5 (row_alloc J1.out _))
        have K1 := Lib.hid (row_call hb5 (heap_alloc_new _ _))
        clear hb5
        have A1_0 : V5.cell? ⟨w.heap.size, 0, none⟩ = some (.int .i64 s) := cell_of_row _ _ _ _ _ _ A1.out
        have A1_1 : V5.cell? ⟨w.heap.size, 1, none⟩ = some (.int .i64 n) := cell_of_row _ _ _ _ _ _ A1.out
        have D1_0 : V5.cell? ⟨w.heap.size + 1, 0, none⟩ = some (.int .i64 d) := cell_of_row _ _ _ _ _ _ D1.out
        have D1_1 : V5.cell? ⟨w.heap.size + 1, 1, none⟩ = some (.int .i64 m) := cell_of_row _ _ _ _ _ _ D1.out
        have I1_0 : V5.cell? ⟨V1.heap.size, 0, none⟩ = some (.int .i64 S) := cell_of_row _ _ _ _ _ _ I1.out
        have I1_1 : V5.cell? ⟨V1.heap.size, 1, none⟩ = some (.int .i64 N) := cell_of_row _ _ _ _ _ _ I1.out
        have J1_0 : V5.cell? ⟨V2.heap.size, 0, none⟩ = some (.int .i64 S) := cell_of_row _ _ _ _ _ _ J1.out
        have J1_1 : V5.cell? ⟨V2.heap.size, 1, none⟩ = some (.int .i64 N) := cell_of_row _ _ _ _ _ _ J1.out
        have K1_0 : V5.cell? ⟨V4.heap.size, 0, none⟩ = some (.int .i64 s) := cell_of_row _ _ _ _ _ _ K1.out
        have K1_1 : V5.cell? ⟨V4.heap.size, 1, none⟩ = some (.int .i64 n) := cell_of_row _ _ _ _ _ _ K1.out
        have zA1 := lt_of_heap A1.out
        have zD1 := lt_of_heap D1.out
        have zI1 := lt_of_heap I1.out
        have zJ1 := lt_of_heap J1.out
        have zK1 := lt_of_heap K1.out
        go_simp
        go_wp2
        go_ret
        exact ⟨rfl, by first | exact B5.out | exact B5.out.alloc B5.out.size _⟩
  · have H1 := Lib.hid X1
    have H2 := Lib.hid X2
    clear X1 X2 bs bn bd bm
    generalize fsI (ckI s n) (ckI d m) = E at *
    generalize sbS s n d m = S at *
    generalize sbN s n d m = N at *
    generalize ord2 s n d m = c at *
    have f1 : (E != 0) = true := by rw [bne_iff_ne]; exact hc
    go_enter Try.func6, Try.ntmps6
    go_wp2_with fail
    
    refine (H1.out _).mono ?_
    rintro e V1 ⟨rfl, hb1⟩
    have B1 := Lib.hid ((((Below.refl w.heap.size w).alloc (Nat.le_refl _) _).alloc (by simp <;> omega) _).trans (hb1.mono (by first | assumption | (simp <;> omega) | (simp; done))))
    have A1 := Lib.hid (row_call hb1 (row_alloc (heap_alloc_new _ _) _))
    have D1 := Lib.hid (row_at (k' := w.heap.size + 1) (by simp) (row_call hb1 (heap_alloc_new _ _)))
    clear hb1
    have A1_0 : V1.cell? ⟨w.heap.size, 0, none⟩ = some (.int .i64 s) := cell_of_row _ _ _ _ _ _ A1.out
    have A1_1 : V1.cell? ⟨w.heap.size, 1, none⟩ = some (.int .i64 n) := cell_of_row _ _ _ _ _ _ A1.out
    have D1_0 : V1.cell? ⟨w.heap.size + 1, 0, none⟩ = some (.int .i64 d) := cell_of_row _ _ _ _ _ _ D1.out
    have D1_1 : V1.cell? ⟨w.heap.size + 1, 1, none⟩ = some (.int .i64 m) := cell_of_row _ _ _ _ _ _ D1.out
    have zA1 := lt_of_heap A1.out
    have zD1 := lt_of_heap D1.out
    go_simp
    go_wp2_with fail
    refine (H2.out _).mono ?_
    rintro e V2 ⟨rfl, hb2⟩
    clear A1_0 A1_1 zA1 D1_0 D1_1 zD1
    have nA1I1 := Lib.hid (lt_of_heap A1.out)
    have nD1I1 := Lib.hid (lt_of_heap D1.out)
    have B2 := Lib.hid (((B1.out).alloc (B1.out.size) _).trans (hb2.mono (by have := B1.out.size; first | assumption | (simp <;> omega) | (simp; done))))
    replace A1 := Lib.hid (row_call hb2 (row_alloc A1.out _))
    replace D1 := Lib.hid (row_call hb2 (row_alloc D1.out _))
    have I1 := Lib.hid (row_call hb2 (heap_alloc_new _ _))
    clear hb2
    have A1_0 : V2.cell? ⟨w.heap.size, 0, none⟩ = some (.int .i64 s) := cell_of_row _ _ _ _ _ _ A1.out
    have A1_1 : V2.cell? ⟨w.heap.size, 1, none⟩ = some (.int .i64 n) := cell_of_row _ _ _ _ _ _ A1.out
    have D1_0 : V2.cell? ⟨w.heap.size + 1, 0, none⟩ = some (.int .i64 d) := cell_of_row _ _ _ _ _ _ D1.out
    have D1_1 : V2.cell? ⟨w.heap.size + 1, 1, none⟩ = some (.int .i64 m) := cell_of_row _ _ _ _ _ _ D1.out
    have I1_0 : V2.cell? ⟨V1.heap.size, 0, none⟩ = some (.int .i64 S) := cell_of_row _ _ _ _ _ _ I1.out
    have I1_1 : V2.cell? ⟨V1.heap.size, 1, none⟩ = some (.int .i64 N) := cell_of_row _ _ _ _ _ _ I1.out
    have zA1 := lt_of_heap A1.out
    have zD1 := lt_of_heap D1.out
    have zI1 := lt_of_heap I1.out
    go_simp
    go_wp2_with fail
    obtain ⟨W0, hW0⟩ : ∃ W0, W0 = (V2.alloc (Obj.cells #[Value.int .i64 S, Value.int .i64 N] 42)) := ⟨_, rfl⟩
    replace A1 := Lib.hid (row_by hW0 (row_alloc A1.out _))
    replace D1 := Lib.hid (row_by hW0 (row_alloc D1.out _))
    replace I1 := Lib.hid (row_by hW0 (row_alloc I1.out _))
    have J1 := Lib.hid (row_at (k' := V2.heap.size) (by simp) (row_by hW0 (heap_alloc_new _ _)))
    clear A1_0 A1_1 zA1 D1_0 D1_1 zD1 I1_0 I1_1 zI1
    have A1_0 : W0.cell? ⟨w.heap.size, 0, none⟩ = some (.int .i64 s) := cell_of_row _ _ _ _ _ _ A1.out
    have A1_1 : W0.cell? ⟨w.heap.size, 1, none⟩ = some (.int .i64 n) := cell_of_row _ _ _ _ _ _ A1.out
    have zA1 := lt_of_heap A1.out
    have D1_0 : W0.cell? ⟨w.heap.size + 1, 0, none⟩ = some (.int .i64 d) := cell_of_row _ _ _ _ _ _ D1.out
    have D1_1 : W0.cell? ⟨w.heap.size + 1, 1, none⟩ = some (.int .i64 m) := cell_of_row _ _ _ _ _ _ D1.out
    have zD1 := lt_of_heap D1.out
    have I1_0 : W0.cell? ⟨V1.heap.size, 0, none⟩ = some (.int .i64 S) := cell_of_row _ _ _ _ _ _ I1.out
    have I1_1 : W0.cell? ⟨V1.heap.size, 1, none⟩ = some (.int .i64 N) := cell_of_row _ _ _ _ _ _ I1.out
    have zI1 := lt_of_heap I1.out
    have J1_0 : W0.cell? ⟨V2.heap.size, 0, none⟩ = some (.int .i64 S) := cell_of_row _ _ _ _ _ _ J1.out
    have J1_1 : W0.cell? ⟨V2.heap.size, 1, none⟩ = some (.int .i64 N) := cell_of_row _ _ _ _ _ _ J1.out
    have zJ1 := lt_of_heap J1.out
    have HB0 := Lib.hid (below_by hW0 ((B2.out).alloc (B2.out.size) _))
    have zW0 := HB0.out.size
    have HW0 := Lib.hid hW0
    clear hW0
    try go_simp
    rw [← HW0.out]
    have hk0 : ∀ w2, Below W0.heap.size W0 w2 → w2.cell? ⟨w.heap.size, 0, none⟩ = some (.int .i64 s) := fun w2 hb => (by rw [hb.cell (p := ⟨w.heap.size, 0, none⟩) (by assumption)]; assumption)
    have hk1 : ∀ w2, Below W0.heap.size W0 w2 → w2.cell? ⟨w.heap.size, 1, none⟩ = some (.int .i64 n) := fun w2 hb => (by rw [hb.cell (p := ⟨w.heap.size, 1, none⟩) (by assumption)]; assumption)
    have hk2 : ∀ w2, Below W0.heap.size W0 w2 → w2.cell? ⟨w.heap.size + 1, 0, none⟩ = some (.int .i64 d) := fun w2 hb => (by rw [hb.cell (p := ⟨w.heap.size + 1, 0, none⟩) (by assumption)]; assumption)
    have hk3 : ∀ w2, Below W0.heap.size W0 w2 → w2.cell? ⟨w.heap.size + 1, 1, none⟩ = some (.int .i64 m) := fun w2 hb => (by rw [hb.cell (p := ⟨w.heap.size + 1, 1, none⟩) (by assumption)]; assumption)
    have hk4 : ∀ w2, Below W0.heap.size W0 w2 → w2.cell? ⟨V1.heap.size, 0, none⟩ = some (.int .i64 S) := fun w2 hb => (by rw [hb.cell (p := ⟨V1.heap.size, 0, none⟩) (by assumption)]; assumption)
    have hk5 : ∀ w2, Below W0.heap.size W0 w2 → w2.cell? ⟨V1.heap.size, 1, none⟩ = some (.int .i64 N) := fun w2 hb => (by rw [hb.cell (p := ⟨V1.heap.size, 1, none⟩) (by assumption)]; assumption)
    have hk6 : ∀ w2, Below W0.heap.size W0 w2 → w2.cell? ⟨V2.heap.size, 0, none⟩ = some (.int .i64 S) := fun w2 hb => (by rw [hb.cell (p := ⟨V2.heap.size, 0, none⟩) (by assumption)]; assumption)
    have hk7 : ∀ w2, Below W0.heap.size W0 w2 → w2.cell? ⟨V2.heap.size, 1, none⟩ = some (.int .i64 N) := fun w2 hb => (by rw [hb.cell (p := ⟨V2.heap.size, 1, none⟩) (by assumption)]; assumption)
    clear A1_0 A1_1 D1_0 D1_1 I1_0 I1_1 J1_0 J1_1
    refine region_plan (S := fun w2 => Below W0.heap.size W0 w2) [(0, true), (1, true), (2, true), (3, true), (4, true), (5, true), (6, true), (7, true), (8, true), (9, true), (10, true), (12, true), (14, true), (11, false), (13, false), (15, false), (16, false), (17, true), (18, true)] (by as_aux_lemma => kernel_rfl) (by as_aux_lemma => kernel_rfl) (by as_aux_lemma => kernel_rfl) (by as_aux_lemma => kernel_rfl) (Below.refl W0.heap.size W0).drew ?_
    have Y0 := Lib.hid (Below.refl W0.heap.size W0).drew
    refine plan_yes (v := ?v1_2) (by simp only [List.getElem?_toArray, List.getElem?_cons_zero, List.getElem?_cons_succ]; exact rfl) (Or.inl ⟨by as_aux_lemma => rfl, ?hy1_2⟩) ?rest1_2
    case hy1_2 => (intro w2 hSw; (try dsimp only at hSw); go_simp; try with_reducible rfl)
    try simp only [Act.put, List.setIfInBounds_toArray, List.set_cons_zero, List.set_cons_succ]
    refine plan_yes (v := ?v2_2) (by simp only [List.getElem?_toArray, List.getElem?_cons_zero, List.getElem?_cons_succ]; exact rfl) (Or.inl ⟨by as_aux_lemma => rfl, ?hy2_2⟩) ?rest2_2
    case hy2_2 => (intro w2 hSw; (try dsimp only at hSw); go_simp; try with_reducible rfl)
    try simp only [Act.put, List.setIfInBounds_toArray, List.set_cons_zero, List.set_cons_succ]
    refine plan_yes (v := .bool false) (by simp only [List.getElem?_toArray, List.getElem?_cons_zero, List.getElem?_cons_succ]; exact rfl) (Or.inl ⟨by as_aux_lemma => rfl, ?hy3_2⟩) ?rest3_2
    case hy3_2 => (intro w2 hSw; first | (apply neq_wide; rfl; rfl; rfl) | (apply neq_inst; rfl; rfl; rfl) | (apply neq_dur; rfl; rfl; rfl))
    try simp only [Act.put, List.setIfInBounds_toArray, List.set_cons_zero, List.set_cons_succ]
    refine plan_yes (v := ?v4_2) (by simp only [List.getElem?_toArray, List.getElem?_cons_zero, List.getElem?_cons_succ]; exact rfl) (Or.inl ⟨by as_aux_lemma => rfl, ?hy4_2⟩) ?rest4_2
    case hy4_2 => (intro w2 hSw; (try dsimp only at hSw); go_simp; try with_reducible rfl)
    try simp only [Act.put, List.setIfInBounds_toArray, List.set_cons_zero, List.set_cons_succ]
    refine plan_yes (v := ?v5_2) (by simp only [List.getElem?_toArray, List.getElem?_cons_zero, List.getElem?_cons_succ]; exact rfl) (Or.inl ⟨by as_aux_lemma => rfl, ?hy5_2⟩) ?rest5_2
    case hy5_2 => (intro w2 hSw; (try dsimp only at hSw); go_simp; try with_reducible rfl)
    try simp only [Act.put, List.setIfInBounds_toArray, List.set_cons_zero, List.set_cons_succ]
    refine plan_yes (v := ?v6_2) (by simp only [List.getElem?_toArray, List.getElem?_cons_zero, List.getElem?_cons_succ]; exact rfl) (Or.inl ⟨by as_aux_lemma => rfl, ?hy6_2⟩) ?rest6_2
    case hy6_2 => (intro w2 hSw; (try dsimp only at hSw); go_simp; try with_reducible rfl)
    try simp only [Act.put, List.setIfInBounds_toArray, List.set_cons_zero, List.set_cons_succ]
    refine plan_yes (v := ?v7_2) (by simp only [List.getElem?_toArray, List.getElem?_cons_zero, List.getElem?_cons_succ]; exact rfl) (Or.inl ⟨by as_aux_lemma => rfl, ?hy7_2⟩) ?rest7_2
    case hy7_2 => (intro w2 hSw; (try dsimp only at hSw); go_simp; try with_reducible rfl)
    try simp only [Act.put, List.setIfInBounds_toArray, List.set_cons_zero, List.set_cons_succ]
    refine plan_yes (v := ?v8_2) (by simp only [List.getElem?_toArray, List.getElem?_cons_zero, List.getElem?_cons_succ]; exact rfl) (Or.inl ⟨by as_aux_lemma => rfl, ?hy8_2⟩) ?rest8_2
    case hy8_2 => (intro w2 hSw; (try dsimp only at hSw); go_simp; try with_reducible rfl)
    try simp only [Act.put, List.setIfInBounds_toArray, List.set_cons_zero, List.set_cons_succ]
    refine plan_yes (v := ?v9_2) (by simp only [List.getElem?_toArray, List.getElem?_cons_zero, List.getElem?_cons_succ]; exact rfl) (Or.inl ⟨by as_aux_lemma => rfl, ?hy9_2⟩) ?rest9_2
    case hy9_2 => (intro w2 hSw; (try dsimp only at hSw); go_simp; try with_reducible rfl)
    try simp only [Act.put, List.setIfInBounds_toArray, List.set_cons_zero, List.set_cons_succ]
    refine plan_yes (v := ?v10_2) (by simp only [List.getElem?_toArray, List.getElem?_cons_zero, List.getElem?_cons_succ]; exact rfl) (Or.inl ⟨by as_aux_lemma => rfl, ?hy10_2⟩) ?rest10_2
    case hy10_2 => (intro w2 hSw; (try dsimp only at hSw); go_simp; try with_reducible rfl)
    try simp only [Act.put, List.setIfInBounds_toArray, List.set_cons_zero, List.set_cons_succ]
    refine plan_yes (v := ?v11_2) (by simp only [List.getElem?_toArray, List.getElem?_cons_zero, List.getElem?_cons_succ]; exact rfl) (Or.inl ⟨by as_aux_lemma => rfl, ?hy11_2⟩) ?rest11_2
    case hy11_2 => (intro w2 hSw; (try dsimp only at hSw); go_simp; try with_reducible rfl)
    try simp only [Act.put, List.setIfInBounds_toArray, List.set_cons_zero, List.set_cons_succ]
    refine plan_yes (v := ?v12_2) (by simp only [List.getElem?_toArray, List.getElem?_cons_zero, List.getElem?_cons_succ]; exact rfl) (Or.inl ⟨by as_aux_lemma => rfl, ?hy12_2⟩) ?rest12_2
    case hy12_2 => (intro w2 hSw; (try dsimp only at hSw); go_simp; try with_reducible rfl)
    try simp only [Act.put, List.setIfInBounds_toArray, List.set_cons_zero, List.set_cons_succ]
    refine plan_yes (v := ?v13_2) (by simp only [List.getElem?_toArray, List.getElem?_cons_zero, List.getElem?_cons_succ]; exact rfl) (Or.inl ⟨by as_aux_lemma => rfl, ?hy13_2⟩) ?rest13_2
    case hy13_2 => (intro w2 hSw; (try dsimp only at hSw); go_simp; try with_reducible rfl)
    try simp only [Act.put, List.setIfInBounds_toArray, List.set_cons_zero, List.set_cons_succ]
    refine plan_calls (by simp only [List.getElem?_toArray, List.getElem?_cons_zero, List.getElem?_cons_succ]; exact rfl) (by as_aux_lemma => rfl) (fun K hK => ?_)
    go_simp
    refine (H3.out _).mono ?_
    rintro e Y1w ⟨rfl, hb1⟩
    have Y1 := Lib.hid (keepS (W0 := W0) Y0.out hb1)
    clear hb1
    refine hK.out _ _ Y1.out ?_
    clear hK K
    try simp only [Act.put, List.setIfInBounds_toArray, List.set_cons_zero, List.set_cons_succ]
    as_aux_lemma =>
     refine plan_calls (by simp only [List.getElem?_toArray, List.getElem?_cons_zero, List.getElem?_cons_succ]; exact rfl) (by as_aux_lemma => rfl) (fun K hK => ?_)
     go_simp
     refine (H4.out _).mono ?_
     rintro e Y2w ⟨rfl, hb1⟩
     have Y2 := Lib.hid (keepS (W0 := W0) Y1.out hb1)
     clear hb1
     refine hK.out _ _ Y2.out ?_
     clear hK K
     try simp only [Act.put, List.setIfInBounds_toArray, List.set_cons_zero, List.set_cons_succ]
     as_aux_lemma =>
      refine plan_calls (by simp only [List.getElem?_toArray, List.getElem?_cons_zero, List.getElem?_cons_succ]; exact rfl) (by as_aux_lemma => rfl) (fun K hK => ?_)
      go_simp
      refine (H5.out _).mono ?_
      rintro e Y3w ⟨rfl, hb1⟩
      have Y3 := Lib.hid (keepS (W0 := W0) Y2.out hb1)
      clear hb1
      refine hK.out _ _ Y3.out ?_
      clear hK K
      try simp only [Act.put, List.setIfInBounds_toArray, List.set_cons_zero, List.set_cons_succ]
      as_aux_lemma =>
       refine plan_calls (by simp only [List.getElem?_toArray, List.getElem?_cons_zero, List.getElem?_cons_succ]; exact rfl) (by as_aux_lemma => rfl) (fun K hK => ?_)
       go_simp
       refine (H6.out _).mono ?_
       rintro e Y4w ⟨rfl, hb1⟩
       have Y4 := Lib.hid (keepS (W0 := W0) Y3.out hb1)
       clear hb1
       refine hK.out _ _ Y4.out ?_
       clear hK K
       try simp only [Act.put, List.setIfInBounds_toArray, List.set_cons_zero, List.set_cons_succ]
       as_aux_lemma =>
        refine plan_yes (v := ?v14_2) (by simp only [List.getElem?_toArray, List.getElem?_cons_zero, List.getElem?_cons_succ]; exact rfl) (Or.inl ⟨by as_aux_lemma => rfl, ?hy14_2⟩) ?rest14_2
        case hy14_2 => (intro w2 hSw; (try dsimp only at hSw); go_simp; try with_reducible rfl)
        try simp only [Act.put, List.setIfInBounds_toArray, List.set_cons_zero, List.set_cons_succ]
        refine plan_yes (v := ?v15_2) (by simp only [List.getElem?_toArray, List.getElem?_cons_zero, List.getElem?_cons_succ]; exact rfl) (Or.inl ⟨by as_aux_lemma => rfl, ?hy15_2⟩) ?rest15_2
        case hy15_2 => (intro w2 hSw; (try dsimp only at hSw); go_simp; try with_reducible rfl)
        try simp only [Act.put, List.setIfInBounds_toArray, List.set_cons_zero, List.set_cons_succ]
        refine plan_done (NoPanic.normal ?_)
        have B0 := Y4.out
        have BW := Lib.hid (HB0.out.trans (B0.mono zW0))
        replace A1 := Lib.hid (row_call B0 A1.out)
        replace D1 := Lib.hid (row_call B0 D1.out)
        replace I1 := Lib.hid (row_call B0 I1.out)
        replace J1 := Lib.hid (row_call B0 J1.out)
        have B3 := BW
        clear BW B0 hk0 hk1 hk2 hk3 hk4 hk5 hk6 hk7 zA1 zD1 zI1 zJ1 Y0 Y1 Y2 Y3 Y4
        obtain ⟨V3, rfl⟩ : ∃ V, V = Y4w := ⟨_, rfl⟩
        have A1_0 : V3.cell? ⟨w.heap.size, 0, none⟩ = some (.int .i64 s) := cell_of_row _ _ _ _ _ _ A1.out
        have A1_1 : V3.cell? ⟨w.heap.size, 1, none⟩ = some (.int .i64 n) := cell_of_row _ _ _ _ _ _ A1.out
        have zA1 := lt_of_heap A1.out
        have D1_0 : V3.cell? ⟨w.heap.size + 1, 0, none⟩ = some (.int .i64 d) := cell_of_row _ _ _ _ _ _ D1.out
        have D1_1 : V3.cell? ⟨w.heap.size + 1, 1, none⟩ = some (.int .i64 m) := cell_of_row _ _ _ _ _ _ D1.out
        have zD1 := lt_of_heap D1.out
        have I1_0 : V3.cell? ⟨V1.heap.size, 0, none⟩ = some (.int .i64 S) := cell_of_row _ _ _ _ _ _ I1.out
        have I1_1 : V3.cell? ⟨V1.heap.size, 1, none⟩ = some (.int .i64 N) := cell_of_row _ _ _ _ _ _ I1.out
        have zI1 := lt_of_heap I1.out
        have J1_0 : V3.cell? ⟨V2.heap.size, 0, none⟩ = some (.int .i64 S) := cell_of_row _ _ _ _ _ _ J1.out
        have J1_1 : V3.cell? ⟨V2.heap.size, 1, none⟩ = some (.int .i64 N) := cell_of_row _ _ _ _ _ _ J1.out
        have zJ1 := lt_of_heap J1.out
        go_simp
        go_wp2_with fail
        refine (H8.out _).mono ?_
        rintro e V4 ⟨rfl, hb4⟩
        clear A1_0 A1_1 zA1 D1_0 D1_1 zD1 I1_0 I1_1 zI1 J1_0 J1_1 zJ1
        have B4 : Hid (Below w.heap.size w V4) := by first | exact Lib.hid ((B3.out).trans (hb4.mono (by have := B3.out.size; first | assumption | (simp <;> omega) | (simp; done)))) | exact Lib.hid (((B3.out).alloc (B3.out.size) _).trans (hb4.mono (by have := B3.out.size; first | assumption | (simp <;> omega) | (simp; done)))) | exact Lib.hid ((((B3.out).alloc (B3.out.size) _).alloc (by have := B3.out.size; simp <;> omega) _).trans (hb4.mono (by have := B3.out.size; first | assumption | (simp <;> omega) | (simp; done)))) | exact Lib.hid (((((B3.out).alloc (B3.out.size) _).alloc (by have := B3.out.size; simp <;> omega) _).alloc (by have := B3.out.size; simp <;> omega) _).trans (hb4.mono (by have := B3.out.size; first | assumption | (simp <;> omega) | (simp; done))))
        first | replace A1 := Lib.hid (row_call hb4 A1.out) | replace A1 := Lib.hid (row_call hb4 (row_alloc A1.out _)) | replace A1 := Lib.hid (row_call hb4 (row_alloc (row_alloc A1.out _) _)) | replace A1 := Lib.hid (row_call hb4 (row_alloc (row_alloc (row_alloc A1.out _) _) _))
        first | replace D1 := Lib.hid (row_call hb4 D1.out) | replace D1 := Lib.hid (row_call hb4 (row_alloc D1.out _)) | replace D1 := Lib.hid (row_call hb4 (row_alloc (row_alloc D1.out _) _)) | replace D1 := Lib.hid (row_call hb4 (row_alloc (row_alloc (row_alloc D1.out _) _) _))
        first | replace I1 := Lib.hid (row_call hb4 I1.out) | replace I1 := Lib.hid (row_call hb4 (row_alloc I1.out _)) | replace I1 := Lib.hid (row_call hb4 (row_alloc (row_alloc I1.out _) _)) | replace I1 := Lib.hid (row_call hb4 (row_alloc (row_alloc (row_alloc I1.out _) _) _))
        first | replace J1 := Lib.hid (row_call hb4 J1.out) | replace J1 := Lib.hid (row_call hb4 (row_alloc J1.out _)) | replace J1 := Lib.hid (row_call hb4 (row_alloc (row_alloc J1.out _) _)) | replace J1 := Lib.hid (row_call hb4 (row_alloc (row_alloc (row_alloc J1.out _) _) _))
        clear hb4
        have A1_0 : V4.cell? ⟨w.heap.size, 0, none⟩ = some (.int .i64 s) := cell_of_row _ _ _ _ _ _ A1.out
        have A1_1 : V4.cell? ⟨w.heap.size, 1, none⟩ = some (.int .i64 n) := cell_of_row _ _ _ _ _ _ A1.out
        have D1_0 : V4.cell? ⟨w.heap.size + 1, 0, none⟩ = some (.int .i64 d) := cell_of_row _ _ _ _ _ _ D1.out
        have D1_1 : V4.cell? ⟨w.heap.size + 1, 1, none⟩ = some (.int .i64 m) := cell_of_row _ _ _ _ _ _ D1.out
        have I1_0 : V4.cell? ⟨V1.heap.size, 0, none⟩ = some (.int .i64 S) := cell_of_row _ _ _ _ _ _ I1.out
        have I1_1 : V4.cell? ⟨V1.heap.size, 1, none⟩ = some (.int .i64 N) := cell_of_row _ _ _ _ _ _ I1.out
        have J1_0 : V4.cell? ⟨V2.heap.size, 0, none⟩ = some (.int .i64 S) := cell_of_row _ _ _ _ _ _ J1.out
        have J1_1 : V4.cell? ⟨V2.heap.size, 1, none⟩ = some (.int .i64 N) := cell_of_row _ _ _ _ _ _ J1.out
        have zA1 := lt_of_heap A1.out
        have zD1 := lt_of_heap D1.out
        have zI1 := lt_of_heap I1.out
        have zJ1 := lt_of_heap J1.out
        go_simp
        go_wp2
        go_ret
        exact ⟨rfl, by first | exact B4.out | exact B4.out.alloc B4.out.size _⟩
end Go.Proofs.Ytlpbkdihjpceoaa
