/- Several texts in one: RFloorB. -/
import Derived.Test.YtoopbgpoelpjfaaDoorZPkg1
import Derived.Test.YtoopbgpoelpjfaaDoorZPkg2
import Derived.Outline
import Derived.Deep.Cut
import Derived.Deep.RegionHeld3
namespace Go.Proofs.YtoopbgpoelpjfaaDoor
set_option linter.unusedVariables false
set_option linter.unusedSimpArgs false
open Go.ChangeShapes Go.WideShapes Go.ChangeAt Go.RowKit
set_option maxHeartbeats 3200000 in
set_option maxRecDepth 100000 in
theorem rfloor_up_false (x X Q q1 c : Int) (d q r s t2 : Nat) (o p z : Bool) (w : World)
    (HB : Hid (∀ w, Calls Tryd.prog 60 #[.agg #[.int .u64 (zh x), .int .u64 (zl x)]] w fun e w' => e = .returned (.bool p) ∧ Below w.heap.size w w'))
    (HA : Hid (∀ w, Calls Tryd.prog 63 #[.int .i64 c] w fun e w' => e = .returned (.int .u64 d) ∧ Below w.heap.size w w'))
    (HD : Hid (∀ w, Calls Tryd.prog 62 #[.agg #[.int .u64 (zh x), .int .u64 (zl x)], .int .u64 d] w fun e w' => e = .returned (.tuple #[.agg #[.int .u64 (zh q), .int .u64 (zl q)], .int .u64 r, .int .i64 0]) ∧ Below w.heap.size w w'))
    (hp : p = false) (dc : decide (c < 0) = z) (hz : z = false) (kt : Hid (wrap64 (r : Int) = sg c r)) :
    Calls Tryd.prog 47 #[.agg #[.int .u64 (zh x), .int .u64 (zl x)], .int .i64 c] w fun e w' => e = .returned (.tuple #[.agg #[.int .u64 (zh q), .int .u64 (zl q)], .int .i64 (sg c r)]) ∧ Below w.heap.size w w' := by
  subst hp
  go_enter Tryd.func47, Tryd.ntmps47
  refine wp_shut ?_
  go_wp2_with fail
  
  refine (HB.out _).mono ?_
  rintro e V1 ⟨rfl, hb1⟩
  have B1 := Lib.hid (((((Below.refl w.heap.size w).alloc (Nat.le_refl _) _).alloc (by simp <;> omega) _).alloc (by simp <;> omega) _).trans (hb1.mono (by first | assumption | (simp <;> omega) | (simp; done))))
  have A1 := Lib.hid (row_call hb1 (row_alloc (row_alloc (heap_alloc_new _ _) _) _))
  have Z1 := Lib.hid (row_at (k' := w.heap.size + 1) (by simp) (row_call hb1 (row_alloc (heap_alloc_new _ _) _)))
  have X1 := Lib.hid (row_at (k' := w.heap.size + 1 + 1) (by simp) (row_call hb1 (heap_alloc_new _ _)))
  clear hb1
  have A1_0 : V1.cell? ⟨w.heap.size, 0, none⟩ = some (.int .u64 (zh x)) := cell_of_row _ _ _ _ _ _ A1.out
  have A1_1 : V1.cell? ⟨w.heap.size, 1, none⟩ = some (.int .u64 (zl x)) := cell_of_row _ _ _ _ _ _ A1.out
  have Z1_0 : V1.cell? ⟨w.heap.size + 1, 0, none⟩ = some (.int .u64 0) := cell_of_row _ _ _ _ _ _ Z1.out
  have Z1_1 : V1.cell? ⟨w.heap.size + 1, 1, none⟩ = some (.int .u64 0) := cell_of_row _ _ _ _ _ _ Z1.out
  have Z1_f0 : V1.frozen? ⟨w.heap.size + 1, 0, none⟩ = false := by simp [World.frozen?, Z1.out]
  have Z1_f1 : V1.frozen? ⟨w.heap.size + 1, 1, none⟩ = false := by simp [World.frozen?, Z1.out]
  have X1_0 : V1.cell? ⟨w.heap.size + 1 + 1, 0, none⟩ = some (.int .u64 (zh x)) := cell_of_row _ _ _ _ _ _ X1.out
  have X1_1 : V1.cell? ⟨w.heap.size + 1 + 1, 1, none⟩ = some (.int .u64 (zl x)) := cell_of_row _ _ _ _ _ _ X1.out
  have X1_f0 : V1.frozen? ⟨w.heap.size + 1 + 1, 0, none⟩ = false := by simp [World.frozen?, X1.out]
  have X1_f1 : V1.frozen? ⟨w.heap.size + 1 + 1, 1, none⟩ = false := by simp [World.frozen?, X1.out]
  have zA1 := lt_of_heap A1.out
  have zZ1 := lt_of_heap Z1.out
  have zX1 := lt_of_heap X1.out
  go_simp
  clear A1_0 A1_1 zA1 Z1_0 Z1_1 Z1_f0 Z1_f1 zZ1 X1_0 X1_1 X1_f0 X1_f1 zX1
  obtain ⟨W0, hW0⟩ : ∃ W0, W0 = V1 := ⟨_, rfl⟩
  replace A1 := Lib.hid (row_by hW0 A1.out)
  replace Z1 := Lib.hid (row_by hW0 Z1.out)
  replace X1 := Lib.hid (row_by hW0 X1.out)
  have HB0 := Lib.hid (below_by hW0 (B1.out))
  have HW0 := Lib.hid hW0
  clear hW0
  have A1_0 : W0.cell? ⟨w.heap.size, 0, none⟩ = some (.int .u64 (zh x)) := cell_of_row _ _ _ _ _ _ A1.out
  have A1_1 : W0.cell? ⟨w.heap.size, 1, none⟩ = some (.int .u64 (zl x)) := cell_of_row _ _ _ _ _ _ A1.out
  have zA1 := lt_of_heap A1.out
  have Z1_0 : W0.cell? ⟨w.heap.size + 1, 0, none⟩ = some (.int .u64 0) := cell_of_row _ _ _ _ _ _ Z1.out
  have Z1_1 : W0.cell? ⟨w.heap.size + 1, 1, none⟩ = some (.int .u64 0) := cell_of_row _ _ _ _ _ _ Z1.out
  have Z1_f0 : W0.frozen? ⟨w.heap.size + 1, 0, none⟩ = false := (by simp [World.frozen?, Z1.out])
  have Z1_f1 : W0.frozen? ⟨w.heap.size + 1, 1, none⟩ = false := (by simp [World.frozen?, Z1.out])
  have zZ1 := lt_of_heap Z1.out
  have X1_0 : W0.cell? ⟨w.heap.size + 1 + 1, 0, none⟩ = some (.int .u64 (zh x)) := cell_of_row _ _ _ _ _ _ X1.out
  have X1_1 : W0.cell? ⟨w.heap.size + 1 + 1, 1, none⟩ = some (.int .u64 (zl x)) := cell_of_row _ _ _ _ _ _ X1.out
  have X1_f0 : W0.frozen? ⟨w.heap.size + 1 + 1, 0, none⟩ = false := (by simp [World.frozen?, X1.out])
  have X1_f1 : W0.frozen? ⟨w.heap.size + 1 + 1, 1, none⟩ = false := (by simp [World.frozen?, X1.out])
  have zX1 := lt_of_heap X1.out
  go_upto_region 4 with fail
  try rw [← HW0.out]
  go_cut [7, 8, 9] (fun s7 s8 s9 wx => ∃ g : Nat, s7 = .pointer (some ⟨g, 0, none⟩) ∧ s8 = .int .u64 r ∧ s9 = .int .i64 0 ∧ wx.heap[g]? = some (.cells #[.int .u64 (zh q), .int .u64 (zl q)] 66 (0, 0)) ∧ Below W0.heap.size W0 wx)
  case first =>
    go_region_held3 (fun w' => Below W0.heap.size W0 w' ∧ w'.cell? ⟨w.heap.size + 1 + 1, 0, none⟩ = some (.int .u64 (zh x)) ∧ w'.cell? ⟨w.heap.size + 1 + 1, 1, none⟩ = some (.int .u64 (zl x)))
    (first
      | ((try go_split_ands); refine ⟨(Below.refl _ _).drew, ?_, ?_⟩ <;> first | assumption | (rw [World.cell?_drew]; assumption))
      | ((try go_split_ands); refine ⟨keepS (W0 := W0) ?_ hb1, cellS (W0 := W0) ?_ hb1 ?_ ?_, cellS (W0 := W0) ?_ hb1 ?_ ?_⟩ <;> first | assumption | omega)
      | ((try go_split_ands); refine ⟨keepA (W0 := W0) ?_ _, cellA (W0 := W0) ?_ _ ?_ ?_, cellA (W0 := W0) ?_ _ ?_ ?_⟩ <;> first | assumption | omega)
      | ((try go_split_ands); refine ⟨keepAd (W0 := W0) ?_ _, cellAd (W0 := W0) ?_ _ ?_ ?_, cellAd (W0 := W0) ?_ _ ?_ ?_⟩ <;> first | assumption | omega | exact Below.refl _ _)
      | ((try go_split_ands); (with_reducible refine ⟨keep3 (W0 := W0) ?_ ?_ _ _ _, cell3 (W0 := W0) ?_ _ _ _ ?_ ?_, cell3 (W0 := W0) ?_ _ _ _ ?_ ?_⟩) <;> first | assumption | omega | exact Nat.le_refl _)
      | ((try go_split_ands); refine ⟨keep2 (W0 := W0) ?_ ?_ _ _, cell2 (W0 := W0) ?_ _ _ ?_ ?_, cell2 (W0 := W0) ?_ _ _ ?_ ?_⟩ <;> first | assumption | omega | exact Nat.le_refl _)
      | ((try go_split_ands); refine ⟨keepZ (W0 := W0) ?_ ?_ _, cellZ (W0 := W0) ?_ _ ?_ ?_, cellZ (W0 := W0) ?_ _ ?_ ?_⟩ <;> first | assumption | omega | exact Nat.le_refl _ | exact ⟨_, by assumption⟩))
    (first | (go_at_call 63; refine (HA.out _).mono ?_; rintro e w1 ⟨rfl, hb1⟩; (try go_split_ands); have hge : W0.heap.size ≤ w1.heap.size := (by first | (refine (keepS (W0 := W0) ?_ hb1).size; assumption) | exact (hb1.size : W0.heap.size ≤ w1.heap.size)); (try have hrow := row_call hb1 hrow); (try have hrow := row_new hb1); (try have hrow := row_newd hb1); have hl1 := lt_below hb1; obtain ⟨hc1, hf1⟩ := bcell hb1; (try (have hrc := row_cellA hrow; clear hc1 hf1)); (try have hrf := row_frozA hrow)) | (go_at_call 62; refine (HD.out _).mono ?_; rintro e w1 ⟨rfl, hb1⟩; (try go_split_ands); have hge : W0.heap.size ≤ w1.heap.size := (by first | (refine (keepS (W0 := W0) ?_ hb1).size; assumption) | exact (hb1.size : W0.heap.size ≤ w1.heap.size)); (try have hrow := row_call hb1 hrow); (try have hrow := row_new hb1); (try have hrow := row_newd hb1); have hl1 := lt_below hb1; obtain ⟨hc1, hf1⟩ := bcell hb1; (try (have hrc := row_cellA hrow; clear hc1 hf1)); (try have hrf := row_frozA hrow)))
    all_goals (try go_split_ands)
    all_goals (go_wp2_with fail; go_meet; refine ⟨_, rfl, rfl, rfl, ?_, ?_⟩)
    all_goals first | assumption | exact heap_alloc_new _ _ | exact row_set (by assumption) _ _
  case rest =>
    obtain ⟨g, rfl, rfl, rfl, hg, hB⟩ := hcut
    obtain ⟨V2, rfl⟩ : ∃ V, V = wc := ⟨_, rfl⟩
    have Q1 := Lib.hid hg
    clear hg
    clear A1_0 A1_1 zA1 Z1_0 Z1_1 Z1_f0 Z1_f1 zZ1 X1_0 X1_1 X1_f0 X1_f1 zX1
    replace A1 := Lib.hid (row_call hB A1.out)
    replace Z1 := Lib.hid (row_call hB Z1.out)
    replace X1 := Lib.hid (row_call hB X1.out)
    have B2 := Lib.hid (HB0.out.trans (hB.mono HB0.out.size))
    clear hB
    have A1_0 : V2.cell? ⟨w.heap.size, 0, none⟩ = some (.int .u64 (zh x)) := cell_of_row _ _ _ _ _ _ A1.out
    have A1_1 : V2.cell? ⟨w.heap.size, 1, none⟩ = some (.int .u64 (zl x)) := cell_of_row _ _ _ _ _ _ A1.out
    have zA1 := lt_of_heap A1.out
    have Z1_0 : V2.cell? ⟨w.heap.size + 1, 0, none⟩ = some (.int .u64 0) := cell_of_row _ _ _ _ _ _ Z1.out
    have Z1_1 : V2.cell? ⟨w.heap.size + 1, 1, none⟩ = some (.int .u64 0) := cell_of_row _ _ _ _ _ _ Z1.out
    have Z1_f0 : V2.frozen? ⟨w.heap.size + 1, 0, none⟩ = false := (by simp [World.frozen?, Z1.out])
    have Z1_f1 : V2.frozen? ⟨w.heap.size + 1, 1, none⟩ = false := (by simp [World.frozen?, Z1.out])
    have zZ1 := lt_of_heap Z1.out
    have X1_0 : V2.cell? ⟨w.heap.size + 1 + 1, 0, none⟩ = some (.int .u64 (zh x)) := cell_of_row _ _ _ _ _ _ X1.out
    have X1_1 : V2.cell? ⟨w.heap.size + 1 + 1, 1, none⟩ = some (.int .u64 (zl x)) := cell_of_row _ _ _ _ _ _ X1.out
    have X1_f0 : V2.frozen? ⟨w.heap.size + 1 + 1, 0, none⟩ = false := (by simp [World.frozen?, X1.out])
    have X1_f1 : V2.frozen? ⟨w.heap.size + 1 + 1, 1, none⟩ = false := (by simp [World.frozen?, X1.out])
    have zX1 := lt_of_heap X1.out
    have Q1_0 : V2.cell? ⟨g, 0, none⟩ = some (.int .u64 (zh q)) := cell_of_row _ _ _ _ _ _ Q1.out
    have Q1_1 : V2.cell? ⟨g, 1, none⟩ = some (.int .u64 (zl q)) := cell_of_row _ _ _ _ _ _ Q1.out
    have zQ1 := lt_of_heap Q1.out
    go_wp2_with fail
    refine (HB.out _).mono ?_
    rintro e V3 ⟨rfl, hb3⟩
    clear A1_0 A1_1 zA1 Z1_0 Z1_1 Z1_f0 Z1_f1 zZ1 X1_0 X1_1 X1_f0 X1_f1 zX1 Q1_0 Q1_1 zQ1
    have B3 : Hid (Below w.heap.size w V3) := by first | exact Lib.hid ((B2.out).trans (hb3.mono (by have := B2.out.size; first | assumption | (simp <;> omega) | (simp; done)))) | exact Lib.hid (((B2.out).alloc (B2.out.size) _).trans (hb3.mono (by have := B2.out.size; first | assumption | (simp <;> omega) | (simp; done)))) | exact Lib.hid ((((B2.out).alloc (B2.out.size) _).alloc (by have := B2.out.size; simp <;> omega) _).trans (hb3.mono (by have := B2.out.size; first | assumption | (simp <;> omega) | (simp; done)))) | exact Lib.hid (((((B2.out).alloc (B2.out.size) _).alloc (by have := B2.out.size; simp <;> omega) _).alloc (by have := B2.out.size; simp <;> omega) _).trans (hb3.mono (by have := B2.out.size; first | assumption | (simp <;> omega) | (simp; done))))
    first | replace A1 := Lib.hid (row_call hb3 A1.out) | replace A1 := Lib.hid (row_call hb3 (row_alloc A1.out _)) | replace A1 := Lib.hid (row_call hb3 (row_alloc (row_alloc A1.out _) _)) | replace A1 := Lib.hid (row_call hb3 (row_alloc (row_alloc (row_alloc A1.out _) _) _))
    first | replace Z1 := Lib.hid (row_call hb3 Z1.out) | replace Z1 := Lib.hid (row_call hb3 (row_alloc Z1.out _)) | replace Z1 := Lib.hid (row_call hb3 (row_alloc (row_alloc Z1.out _) _)) | replace Z1 := Lib.hid (row_call hb3 (row_alloc (row_alloc (row_alloc Z1.out _) _) _))
    first | replace X1 := Lib.hid (row_call hb3 X1.out) | replace X1 := Lib.hid (row_call hb3 (row_alloc X1.out _)) | replace X1 := Lib.hid (row_call hb3 (row_alloc (row_alloc X1.out _) _)) | replace X1 := Lib.hid (row_call hb3 (row_alloc (row_alloc (row_alloc X1.out _) _) _))
    first | replace Q1 := Lib.hid (row_call hb3 Q1.out) | replace Q1 := Lib.hid (row_call hb3 (row_alloc Q1.out _)) | replace Q1 := Lib.hid (row_call hb3 (row_alloc (row_alloc Q1.out _) _)) | replace Q1 := Lib.hid (row_call hb3 (row_alloc (row_alloc (row_alloc Q1.out _) _) _))
    clear hb3
    have A1_0 : V3.cell? ⟨w.heap.size, 0, none⟩ = some (.int .u64 (zh x)) := cell_of_row _ _ _ _ _ _ A1.out
    have A1_1 : V3.cell? ⟨w.heap.size, 1, none⟩ = some (.int .u64 (zl x)) := cell_of_row _ _ _ _ _ _ A1.out
    have Z1_0 : V3.cell? ⟨w.heap.size + 1, 0, none⟩ = some (.int .u64 0) := cell_of_row _ _ _ _ _ _ Z1.out
    have Z1_1 : V3.cell? ⟨w.heap.size + 1, 1, none⟩ = some (.int .u64 0) := cell_of_row _ _ _ _ _ _ Z1.out
    have Z1_f0 : V3.frozen? ⟨w.heap.size + 1, 0, none⟩ = false := by simp [World.frozen?, Z1.out]
    have Z1_f1 : V3.frozen? ⟨w.heap.size + 1, 1, none⟩ = false := by simp [World.frozen?, Z1.out]
    have X1_0 : V3.cell? ⟨w.heap.size + 1 + 1, 0, none⟩ = some (.int .u64 (zh x)) := cell_of_row _ _ _ _ _ _ X1.out
    have X1_1 : V3.cell? ⟨w.heap.size + 1 + 1, 1, none⟩ = some (.int .u64 (zl x)) := cell_of_row _ _ _ _ _ _ X1.out
    have X1_f0 : V3.frozen? ⟨w.heap.size + 1 + 1, 0, none⟩ = false := by simp [World.frozen?, X1.out]
    have X1_f1 : V3.frozen? ⟨w.heap.size + 1 + 1, 1, none⟩ = false := by simp [World.frozen?, X1.out]
    have Q1_0 : V3.cell? ⟨g, 0, none⟩ = some (.int .u64 (zh q)) := cell_of_row _ _ _ _ _ _ Q1.out
    have Q1_1 : V3.cell? ⟨g, 1, none⟩ = some (.int .u64 (zl q)) := cell_of_row _ _ _ _ _ _ Q1.out
    have zA1 := lt_of_heap A1.out
    have zZ1 := lt_of_heap Z1.out
    have zX1 := lt_of_heap X1.out
    have zQ1 := lt_of_heap Q1.out
    go_simp
    go_wp2
    refine shut_ret (v := .tuple #[.agg #[.int .u64 (zh q), .int .u64 (zl q)], .int .i64 (wrap64 (r : Int))]) (by simp [results, Tryd.results47, go_sem, Z1_0, Z1_1, zZ1]) rfl ⟨by rw [kt.out], ?_⟩
    exact keep2 B3.out (Nat.le_succ _) _ _
set_option maxHeartbeats 3200000 in
set_option maxRecDepth 100000 in
theorem rfloor_zero_false (x X Q q1 c : Int) (d q r s t2 : Nat) (o p z : Bool) (w : World)
    (HB : Hid (∀ w, Calls Tryd.prog 60 #[.agg #[.int .u64 (zh x), .int .u64 (zl x)]] w fun e w' => e = .returned (.bool p) ∧ Below w.heap.size w w'))
    (HA : Hid (∀ w, Calls Tryd.prog 63 #[.int .i64 c] w fun e w' => e = .returned (.int .u64 d) ∧ Below w.heap.size w w'))
    (HD : Hid (∀ w, Calls Tryd.prog 62 #[.agg #[.int .u64 (zh x), .int .u64 (zl x)], .int .u64 d] w fun e w' => e = .returned (.tuple #[.agg #[.int .u64 (zh q), .int .u64 (zl q)], .int .u64 r, .int .i64 0]) ∧ Below w.heap.size w w'))
    (HQ : Hid (∀ w, Calls Tryd.prog 61 #[.agg #[.int .u64 (zh q), .int .u64 (zl q)]] w fun e w' => e = .returned (.agg #[.int .u64 (zh Q), .int .u64 (zl Q)]) ∧ Below w.heap.size w w'))
    (hp : p = false) (dc : decide (c < 0) = z) (hz : z = true) (hr : r = 0) :
    Calls Tryd.prog 47 #[.agg #[.int .u64 (zh x), .int .u64 (zl x)], .int .i64 c] w fun e w' => e = .returned (.tuple #[.agg #[.int .u64 (zh Q), .int .u64 (zl Q)], .int .i64 (sg c r)]) ∧ Below w.heap.size w w' := by
  subst hp
  have kt := Lib.hid (show (0 : Int) = sg c r by unfold sg; split <;> omega)
  replace hr := Lib.hid hr
  go_enter Tryd.func47, Tryd.ntmps47
  refine wp_shut ?_
  go_wp2_with fail
  
  refine (HB.out _).mono ?_
  rintro e V1 ⟨rfl, hb1⟩
  have B1 := Lib.hid (((((Below.refl w.heap.size w).alloc (Nat.le_refl _) _).alloc (by simp <;> omega) _).alloc (by simp <;> omega) _).trans (hb1.mono (by first | assumption | (simp <;> omega) | (simp; done))))
  have A1 := Lib.hid (row_call hb1 (row_alloc (row_alloc (heap_alloc_new _ _) _) _))
  have Z1 := Lib.hid (row_at (k' := w.heap.size + 1) (by simp) (row_call hb1 (row_alloc (heap_alloc_new _ _) _)))
  have X1 := Lib.hid (row_at (k' := w.heap.size + 1 + 1) (by simp) (row_call hb1 (heap_alloc_new _ _)))
  clear hb1
  have A1_0 : V1.cell? ⟨w.heap.size, 0, none⟩ = some (.int .u64 (zh x)) := cell_of_row _ _ _ _ _ _ A1.out
  have A1_1 : V1.cell? ⟨w.heap.size, 1, none⟩ = some (.int .u64 (zl x)) := cell_of_row _ _ _ _ _ _ A1.out
  have Z1_0 : V1.cell? ⟨w.heap.size + 1, 0, none⟩ = some (.int .u64 0) := cell_of_row _ _ _ _ _ _ Z1.out
  have Z1_1 : V1.cell? ⟨w.heap.size + 1, 1, none⟩ = some (.int .u64 0) := cell_of_row _ _ _ _ _ _ Z1.out
  have Z1_f0 : V1.frozen? ⟨w.heap.size + 1, 0, none⟩ = false := by simp [World.frozen?, Z1.out]
  have Z1_f1 : V1.frozen? ⟨w.heap.size + 1, 1, none⟩ = false := by simp [World.frozen?, Z1.out]
  have X1_0 : V1.cell? ⟨w.heap.size + 1 + 1, 0, none⟩ = some (.int .u64 (zh x)) := cell_of_row _ _ _ _ _ _ X1.out
  have X1_1 : V1.cell? ⟨w.heap.size + 1 + 1, 1, none⟩ = some (.int .u64 (zl x)) := cell_of_row _ _ _ _ _ _ X1.out
  have X1_f0 : V1.frozen? ⟨w.heap.size + 1 + 1, 0, none⟩ = false := by simp [World.frozen?, X1.out]
  have X1_f1 : V1.frozen? ⟨w.heap.size + 1 + 1, 1, none⟩ = false := by simp [World.frozen?, X1.out]
  have zA1 := lt_of_heap A1.out
  have zZ1 := lt_of_heap Z1.out
  have zX1 := lt_of_heap X1.out
  go_simp
  clear A1_0 A1_1 zA1 Z1_0 Z1_1 Z1_f0 Z1_f1 zZ1 X1_0 X1_1 X1_f0 X1_f1 zX1
  obtain ⟨W0, hW0⟩ : ∃ W0, W0 = V1 := ⟨_, rfl⟩
  replace A1 := Lib.hid (row_by hW0 A1.out)
  replace Z1 := Lib.hid (row_by hW0 Z1.out)
  replace X1 := Lib.hid (row_by hW0 X1.out)
  have HB0 := Lib.hid (below_by hW0 (B1.out))
  have HW0 := Lib.hid hW0
  clear hW0
  have A1_0 : W0.cell? ⟨w.heap.size, 0, none⟩ = some (.int .u64 (zh x)) := cell_of_row _ _ _ _ _ _ A1.out
  have A1_1 : W0.cell? ⟨w.heap.size, 1, none⟩ = some (.int .u64 (zl x)) := cell_of_row _ _ _ _ _ _ A1.out
  have zA1 := lt_of_heap A1.out
  have Z1_0 : W0.cell? ⟨w.heap.size + 1, 0, none⟩ = some (.int .u64 0) := cell_of_row _ _ _ _ _ _ Z1.out
  have Z1_1 : W0.cell? ⟨w.heap.size + 1, 1, none⟩ = some (.int .u64 0) := cell_of_row _ _ _ _ _ _ Z1.out
  have Z1_f0 : W0.frozen? ⟨w.heap.size + 1, 0, none⟩ = false := (by simp [World.frozen?, Z1.out])
  have Z1_f1 : W0.frozen? ⟨w.heap.size + 1, 1, none⟩ = false := (by simp [World.frozen?, Z1.out])
  have zZ1 := lt_of_heap Z1.out
  have X1_0 : W0.cell? ⟨w.heap.size + 1 + 1, 0, none⟩ = some (.int .u64 (zh x)) := cell_of_row _ _ _ _ _ _ X1.out
  have X1_1 : W0.cell? ⟨w.heap.size + 1 + 1, 1, none⟩ = some (.int .u64 (zl x)) := cell_of_row _ _ _ _ _ _ X1.out
  have X1_f0 : W0.frozen? ⟨w.heap.size + 1 + 1, 0, none⟩ = false := (by simp [World.frozen?, X1.out])
  have X1_f1 : W0.frozen? ⟨w.heap.size + 1 + 1, 1, none⟩ = false := (by simp [World.frozen?, X1.out])
  have zX1 := lt_of_heap X1.out
  go_upto_region 4 with fail
  try rw [← HW0.out]
  go_cut [7, 8, 9] (fun s7 s8 s9 wx => ∃ g : Nat, s7 = .pointer (some ⟨g, 0, none⟩) ∧ s8 = .int .u64 r ∧ s9 = .int .i64 0 ∧ wx.heap[g]? = some (.cells #[.int .u64 (zh q), .int .u64 (zl q)] 66 (0, 0)) ∧ Below W0.heap.size W0 wx)
  case first =>
    go_region_held3 (fun w' => Below W0.heap.size W0 w' ∧ w'.cell? ⟨w.heap.size + 1 + 1, 0, none⟩ = some (.int .u64 (zh x)) ∧ w'.cell? ⟨w.heap.size + 1 + 1, 1, none⟩ = some (.int .u64 (zl x)))
    (first
      | ((try go_split_ands); refine ⟨(Below.refl _ _).drew, ?_, ?_⟩ <;> first | assumption | (rw [World.cell?_drew]; assumption))
      | ((try go_split_ands); refine ⟨keepS (W0 := W0) ?_ hb1, cellS (W0 := W0) ?_ hb1 ?_ ?_, cellS (W0 := W0) ?_ hb1 ?_ ?_⟩ <;> first | assumption | omega)
      | ((try go_split_ands); refine ⟨keepA (W0 := W0) ?_ _, cellA (W0 := W0) ?_ _ ?_ ?_, cellA (W0 := W0) ?_ _ ?_ ?_⟩ <;> first | assumption | omega)
      | ((try go_split_ands); refine ⟨keepAd (W0 := W0) ?_ _, cellAd (W0 := W0) ?_ _ ?_ ?_, cellAd (W0 := W0) ?_ _ ?_ ?_⟩ <;> first | assumption | omega | exact Below.refl _ _)
      | ((try go_split_ands); (with_reducible refine ⟨keep3 (W0 := W0) ?_ ?_ _ _ _, cell3 (W0 := W0) ?_ _ _ _ ?_ ?_, cell3 (W0 := W0) ?_ _ _ _ ?_ ?_⟩) <;> first | assumption | omega | exact Nat.le_refl _)
      | ((try go_split_ands); refine ⟨keep2 (W0 := W0) ?_ ?_ _ _, cell2 (W0 := W0) ?_ _ _ ?_ ?_, cell2 (W0 := W0) ?_ _ _ ?_ ?_⟩ <;> first | assumption | omega | exact Nat.le_refl _)
      | ((try go_split_ands); refine ⟨keepZ (W0 := W0) ?_ ?_ _, cellZ (W0 := W0) ?_ _ ?_ ?_, cellZ (W0 := W0) ?_ _ ?_ ?_⟩ <;> first | assumption | omega | exact Nat.le_refl _ | exact ⟨_, by assumption⟩))
    (first | (go_at_call 63; refine (HA.out _).mono ?_; rintro e w1 ⟨rfl, hb1⟩; (try go_split_ands); have hge : W0.heap.size ≤ w1.heap.size := (by first | (refine (keepS (W0 := W0) ?_ hb1).size; assumption) | exact (hb1.size : W0.heap.size ≤ w1.heap.size)); (try have hrow := row_call hb1 hrow); (try have hrow := row_new hb1); (try have hrow := row_newd hb1); have hl1 := lt_below hb1; obtain ⟨hc1, hf1⟩ := bcell hb1; (try (have hrc := row_cellA hrow; clear hc1 hf1)); (try have hrf := row_frozA hrow)) | (go_at_call 62; refine (HD.out _).mono ?_; rintro e w1 ⟨rfl, hb1⟩; (try go_split_ands); have hge : W0.heap.size ≤ w1.heap.size := (by first | (refine (keepS (W0 := W0) ?_ hb1).size; assumption) | exact (hb1.size : W0.heap.size ≤ w1.heap.size)); (try have hrow := row_call hb1 hrow); (try have hrow := row_new hb1); (try have hrow := row_newd hb1); have hl1 := lt_below hb1; obtain ⟨hc1, hf1⟩ := bcell hb1; (try (have hrc := row_cellA hrow; clear hc1 hf1)); (try have hrf := row_frozA hrow)))
    all_goals (try go_split_ands)
    all_goals (go_wp2_with fail; go_meet; refine ⟨_, rfl, rfl, rfl, ?_, ?_⟩)
    all_goals first | assumption | exact heap_alloc_new _ _ | exact row_set (by assumption) _ _
  case rest =>
    obtain ⟨g, rfl, rfl, rfl, hg, hB⟩ := hcut
    have hr1 : (r : Int) = 0 := by have := hr.out; omega
    obtain ⟨V2, rfl⟩ : ∃ V, V = wc := ⟨_, rfl⟩
    have Q1 := Lib.hid hg
    clear hg
    clear A1_0 A1_1 zA1 Z1_0 Z1_1 Z1_f0 Z1_f1 zZ1 X1_0 X1_1 X1_f0 X1_f1 zX1
    replace A1 := Lib.hid (row_call hB A1.out)
    replace Z1 := Lib.hid (row_call hB Z1.out)
    replace X1 := Lib.hid (row_call hB X1.out)
    have B2 := Lib.hid (HB0.out.trans (hB.mono HB0.out.size))
    clear hB
    have A1_0 : V2.cell? ⟨w.heap.size, 0, none⟩ = some (.int .u64 (zh x)) := cell_of_row _ _ _ _ _ _ A1.out
    have A1_1 : V2.cell? ⟨w.heap.size, 1, none⟩ = some (.int .u64 (zl x)) := cell_of_row _ _ _ _ _ _ A1.out
    have zA1 := lt_of_heap A1.out
    have Z1_0 : V2.cell? ⟨w.heap.size + 1, 0, none⟩ = some (.int .u64 0) := cell_of_row _ _ _ _ _ _ Z1.out
    have Z1_1 : V2.cell? ⟨w.heap.size + 1, 1, none⟩ = some (.int .u64 0) := cell_of_row _ _ _ _ _ _ Z1.out
    have Z1_f0 : V2.frozen? ⟨w.heap.size + 1, 0, none⟩ = false := (by simp [World.frozen?, Z1.out])
    have Z1_f1 : V2.frozen? ⟨w.heap.size + 1, 1, none⟩ = false := (by simp [World.frozen?, Z1.out])
    have zZ1 := lt_of_heap Z1.out
    have X1_0 : V2.cell? ⟨w.heap.size + 1 + 1, 0, none⟩ = some (.int .u64 (zh x)) := cell_of_row _ _ _ _ _ _ X1.out
    have X1_1 : V2.cell? ⟨w.heap.size + 1 + 1, 1, none⟩ = some (.int .u64 (zl x)) := cell_of_row _ _ _ _ _ _ X1.out
    have X1_f0 : V2.frozen? ⟨w.heap.size + 1 + 1, 0, none⟩ = false := (by simp [World.frozen?, X1.out])
    have X1_f1 : V2.frozen? ⟨w.heap.size + 1 + 1, 1, none⟩ = false := (by simp [World.frozen?, X1.out])
    have zX1 := lt_of_heap X1.out
    have Q1_0 : V2.cell? ⟨g, 0, none⟩ = some (.int .u64 (zh q)) := cell_of_row _ _ _ _ _ _ Q1.out
    have Q1_1 : V2.cell? ⟨g, 1, none⟩ = some (.int .u64 (zl q)) := cell_of_row _ _ _ _ _ _ Q1.out
    have zQ1 := lt_of_heap Q1.out
    go_wp2_with fail
    refine (HB.out _).mono ?_
    rintro e V3 ⟨rfl, hb3⟩
    clear A1_0 A1_1 zA1 Z1_0 Z1_1 Z1_f0 Z1_f1 zZ1 X1_0 X1_1 X1_f0 X1_f1 zX1 Q1_0 Q1_1 zQ1
    have B3 : Hid (Below w.heap.size w V3) := by first | exact Lib.hid ((B2.out).trans (hb3.mono (by have := B2.out.size; first | assumption | (simp <;> omega) | (simp; done)))) | exact Lib.hid (((B2.out).alloc (B2.out.size) _).trans (hb3.mono (by have := B2.out.size; first | assumption | (simp <;> omega) | (simp; done)))) | exact Lib.hid ((((B2.out).alloc (B2.out.size) _).alloc (by have := B2.out.size; simp <;> omega) _).trans (hb3.mono (by have := B2.out.size; first | assumption | (simp <;> omega) | (simp; done)))) | exact Lib.hid (((((B2.out).alloc (B2.out.size) _).alloc (by have := B2.out.size; simp <;> omega) _).alloc (by have := B2.out.size; simp <;> omega) _).trans (hb3.mono (by have := B2.out.size; first | assumption | (simp <;> omega) | (simp; done))))
    first | replace A1 := Lib.hid (row_call hb3 A1.out) | replace A1 := Lib.hid (row_call hb3 (row_alloc A1.out _)) | replace A1 := Lib.hid (row_call hb3 (row_alloc (row_alloc A1.out _) _)) | replace A1 := Lib.hid (row_call hb3 (row_alloc (row_alloc (row_alloc A1.out _) _) _))
    first | replace Z1 := Lib.hid (row_call hb3 Z1.out) | replace Z1 := Lib.hid (row_call hb3 (row_alloc Z1.out _)) | replace Z1 := Lib.hid (row_call hb3 (row_alloc (row_alloc Z1.out _) _)) | replace Z1 := Lib.hid (row_call hb3 (row_alloc (row_alloc (row_alloc Z1.out _) _) _))
    first | replace X1 := Lib.hid (row_call hb3 X1.out) | replace X1 := Lib.hid (row_call hb3 (row_alloc X1.out _)) | replace X1 := Lib.hid (row_call hb3 (row_alloc (row_alloc X1.out _) _)) | replace X1 := Lib.hid (row_call hb3 (row_alloc (row_alloc (row_alloc X1.out _) _) _))
    first | replace Q1 := Lib.hid (row_call hb3 Q1.out) | replace Q1 := Lib.hid (row_call hb3 (row_alloc Q1.out _)) | replace Q1 := Lib.hid (row_call hb3 (row_alloc (row_alloc Q1.out _) _)) | replace Q1 := Lib.hid (row_call hb3 (row_alloc (row_alloc (row_alloc Q1.out _) _) _))
    clear hb3
    have A1_0 : V3.cell? ⟨w.heap.size, 0, none⟩ = some (.int .u64 (zh x)) := cell_of_row _ _ _ _ _ _ A1.out
    have A1_1 : V3.cell? ⟨w.heap.size, 1, none⟩ = some (.int .u64 (zl x)) := cell_of_row _ _ _ _ _ _ A1.out
    have Z1_0 : V3.cell? ⟨w.heap.size + 1, 0, none⟩ = some (.int .u64 0) := cell_of_row _ _ _ _ _ _ Z1.out
    have Z1_1 : V3.cell? ⟨w.heap.size + 1, 1, none⟩ = some (.int .u64 0) := cell_of_row _ _ _ _ _ _ Z1.out
    have Z1_f0 : V3.frozen? ⟨w.heap.size + 1, 0, none⟩ = false := by simp [World.frozen?, Z1.out]
    have Z1_f1 : V3.frozen? ⟨w.heap.size + 1, 1, none⟩ = false := by simp [World.frozen?, Z1.out]
    have X1_0 : V3.cell? ⟨w.heap.size + 1 + 1, 0, none⟩ = some (.int .u64 (zh x)) := cell_of_row _ _ _ _ _ _ X1.out
    have X1_1 : V3.cell? ⟨w.heap.size + 1 + 1, 1, none⟩ = some (.int .u64 (zl x)) := cell_of_row _ _ _ _ _ _ X1.out
    have X1_f0 : V3.frozen? ⟨w.heap.size + 1 + 1, 0, none⟩ = false := by simp [World.frozen?, X1.out]
    have X1_f1 : V3.frozen? ⟨w.heap.size + 1 + 1, 1, none⟩ = false := by simp [World.frozen?, X1.out]
    have Q1_0 : V3.cell? ⟨g, 0, none⟩ = some (.int .u64 (zh q)) := cell_of_row _ _ _ _ _ _ Q1.out
    have Q1_1 : V3.cell? ⟨g, 1, none⟩ = some (.int .u64 (zl q)) := cell_of_row _ _ _ _ _ _ Q1.out
    have zA1 := lt_of_heap A1.out
    have zZ1 := lt_of_heap Z1.out
    have zX1 := lt_of_heap X1.out
    have zQ1 := lt_of_heap Q1.out
    go_simp
    go_wp2_with fail
    refine (HQ.out _).mono ?_
    rintro e V4 ⟨rfl, hb4⟩
    clear A1_0 A1_1 zA1 Z1_0 Z1_1 Z1_f0 Z1_f1 zZ1 X1_0 X1_1 X1_f0 X1_f1 zX1 Q1_0 Q1_1 zQ1
    have B4 : Hid (Below w.heap.size w V4) := by first | exact Lib.hid ((B3.out).trans (hb4.mono (by have := B3.out.size; first | assumption | (simp <;> omega) | (simp; done)))) | exact Lib.hid (((B3.out).alloc (B3.out.size) _).trans (hb4.mono (by have := B3.out.size; first | assumption | (simp <;> omega) | (simp; done)))) | exact Lib.hid ((((B3.out).alloc (B3.out.size) _).alloc (by have := B3.out.size; simp <;> omega) _).trans (hb4.mono (by have := B3.out.size; first | assumption | (simp <;> omega) | (simp; done)))) | exact Lib.hid (((((B3.out).alloc (B3.out.size) _).alloc (by have := B3.out.size; simp <;> omega) _).alloc (by have := B3.out.size; simp <;> omega) _).trans (hb4.mono (by have := B3.out.size; first | assumption | (simp <;> omega) | (simp; done))))
    first | replace A1 := Lib.hid (row_call hb4 A1.out) | replace A1 := Lib.hid (row_call hb4 (row_alloc A1.out _)) | replace A1 := Lib.hid (row_call hb4 (row_alloc (row_alloc A1.out _) _)) | replace A1 := Lib.hid (row_call hb4 (row_alloc (row_alloc (row_alloc A1.out _) _) _))
    first | replace Z1 := Lib.hid (row_call hb4 Z1.out) | replace Z1 := Lib.hid (row_call hb4 (row_alloc Z1.out _)) | replace Z1 := Lib.hid (row_call hb4 (row_alloc (row_alloc Z1.out _) _)) | replace Z1 := Lib.hid (row_call hb4 (row_alloc (row_alloc (row_alloc Z1.out _) _) _))
    first | replace X1 := Lib.hid (row_call hb4 X1.out) | replace X1 := Lib.hid (row_call hb4 (row_alloc X1.out _)) | replace X1 := Lib.hid (row_call hb4 (row_alloc (row_alloc X1.out _) _)) | replace X1 := Lib.hid (row_call hb4 (row_alloc (row_alloc (row_alloc X1.out _) _) _))
    first | replace Q1 := Lib.hid (row_call hb4 Q1.out) | replace Q1 := Lib.hid (row_call hb4 (row_alloc Q1.out _)) | replace Q1 := Lib.hid (row_call hb4 (row_alloc (row_alloc Q1.out _) _)) | replace Q1 := Lib.hid (row_call hb4 (row_alloc (row_alloc (row_alloc Q1.out _) _) _))
    clear hb4
    have A1_0 : V4.cell? ⟨w.heap.size, 0, none⟩ = some (.int .u64 (zh x)) := cell_of_row _ _ _ _ _ _ A1.out
    have A1_1 : V4.cell? ⟨w.heap.size, 1, none⟩ = some (.int .u64 (zl x)) := cell_of_row _ _ _ _ _ _ A1.out
    have Z1_0 : V4.cell? ⟨w.heap.size + 1, 0, none⟩ = some (.int .u64 0) := cell_of_row _ _ _ _ _ _ Z1.out
    have Z1_1 : V4.cell? ⟨w.heap.size + 1, 1, none⟩ = some (.int .u64 0) := cell_of_row _ _ _ _ _ _ Z1.out
    have Z1_f0 : V4.frozen? ⟨w.heap.size + 1, 0, none⟩ = false := by simp [World.frozen?, Z1.out]
    have Z1_f1 : V4.frozen? ⟨w.heap.size + 1, 1, none⟩ = false := by simp [World.frozen?, Z1.out]
    have X1_0 : V4.cell? ⟨w.heap.size + 1 + 1, 0, none⟩ = some (.int .u64 (zh x)) := cell_of_row _ _ _ _ _ _ X1.out
    have X1_1 : V4.cell? ⟨w.heap.size + 1 + 1, 1, none⟩ = some (.int .u64 (zl x)) := cell_of_row _ _ _ _ _ _ X1.out
    have X1_f0 : V4.frozen? ⟨w.heap.size + 1 + 1, 0, none⟩ = false := by simp [World.frozen?, X1.out]
    have X1_f1 : V4.frozen? ⟨w.heap.size + 1 + 1, 1, none⟩ = false := by simp [World.frozen?, X1.out]
    have Q1_0 : V4.cell? ⟨g, 0, none⟩ = some (.int .u64 (zh q)) := cell_of_row _ _ _ _ _ _ Q1.out
    have Q1_1 : V4.cell? ⟨g, 1, none⟩ = some (.int .u64 (zl q)) := cell_of_row _ _ _ _ _ _ Q1.out
    have zA1 := lt_of_heap A1.out
    have zZ1 := lt_of_heap Z1.out
    have zX1 := lt_of_heap X1.out
    have zQ1 := lt_of_heap Q1.out
    go_simp
    go_wp2
    refine shut_ret (v := .tuple #[.agg #[.int .u64 (zh Q), .int .u64 (zl Q)], .int .i64 0]) (by simp [results, Tryd.results47, go_sem, Z1_0, Z1_1, zZ1]) rfl ⟨by rw [kt.out], ?_⟩
    exact keep2 B4.out (Nat.le_succ _) _ _
set_option maxHeartbeats 3200000 in
set_option maxRecDepth 100000 in
theorem rfloor_down_false (x X Q q1 c : Int) (d q r s t2 : Nat) (o p z : Bool) (w : World)
    (HB : Hid (∀ w, Calls Tryd.prog 60 #[.agg #[.int .u64 (zh x), .int .u64 (zl x)]] w fun e w' => e = .returned (.bool p) ∧ Below w.heap.size w w'))
    (HA : Hid (∀ w, Calls Tryd.prog 63 #[.int .i64 c] w fun e w' => e = .returned (.int .u64 d) ∧ Below w.heap.size w w'))
    (HD : Hid (∀ w, Calls Tryd.prog 62 #[.agg #[.int .u64 (zh x), .int .u64 (zl x)], .int .u64 d] w fun e w' => e = .returned (.tuple #[.agg #[.int .u64 (zh q), .int .u64 (zl q)], .int .u64 r, .int .i64 0]) ∧ Below w.heap.size w w'))
    (HO : Hid (∀ w, Calls Tryd.prog 44 #[.agg #[.int .u64 (zh q), .int .u64 (zl q)], .agg #[.int .u64 0, .int .u64 1]] w fun e w' => e = .returned (.tuple #[.agg #[.int .u64 (zh q1), .int .u64 (zl q1)], .bool o]) ∧ Below w.heap.size w w'))
    (HQ : Hid (∀ w, Calls Tryd.prog 61 #[.agg #[.int .u64 (zh q1), .int .u64 (zl q1)]] w fun e w' => e = .returned (.agg #[.int .u64 (zh Q), .int .u64 (zl Q)]) ∧ Below w.heap.size w w'))
    (hp : p = false) (dc : decide (c < 0) = z) (hz : z = true) (hr : ¬ r = 0) (fs : IntKind.u64.wrap ((d : Int) - (r : Int)) = (s : Int)) (ft : IntKind.u64.wrap (-(s : Int)) = (t2 : Int)) (kt : Hid (wrap64 (t2 : Int) = sg c s)) :
    Calls Tryd.prog 47 #[.agg #[.int .u64 (zh x), .int .u64 (zl x)], .int .i64 c] w fun e w' => e = .returned (.tuple #[.agg #[.int .u64 (zh Q), .int .u64 (zl Q)], .int .i64 (sg c s)]) ∧ Below w.heap.size w w' := by
  subst hp
  go_enter Tryd.func47, Tryd.ntmps47
  refine wp_shut ?_
  go_wp2_with fail
  
  refine (HB.out _).mono ?_
  rintro e V1 ⟨rfl, hb1⟩
  have B1 := Lib.hid (((((Below.refl w.heap.size w).alloc (Nat.le_refl _) _).alloc (by simp <;> omega) _).alloc (by simp <;> omega) _).trans (hb1.mono (by first | assumption | (simp <;> omega) | (simp; done))))
  have A1 := Lib.hid (row_call hb1 (row_alloc (row_alloc (heap_alloc_new _ _) _) _))
  have Z1 := Lib.hid (row_at (k' := w.heap.size + 1) (by simp) (row_call hb1 (row_alloc (heap_alloc_new _ _) _)))
  have X1 := Lib.hid (row_at (k' := w.heap.size + 1 + 1) (by simp) (row_call hb1 (heap_alloc_new _ _)))
  clear hb1
  have A1_0 : V1.cell? ⟨w.heap.size, 0, none⟩ = some (.int .u64 (zh x)) := cell_of_row _ _ _ _ _ _ A1.out
  have A1_1 : V1.cell? ⟨w.heap.size, 1, none⟩ = some (.int .u64 (zl x)) := cell_of_row _ _ _ _ _ _ A1.out
  have Z1_0 : V1.cell? ⟨w.heap.size + 1, 0, none⟩ = some (.int .u64 0) := cell_of_row _ _ _ _ _ _ Z1.out
  have Z1_1 : V1.cell? ⟨w.heap.size + 1, 1, none⟩ = some (.int .u64 0) := cell_of_row _ _ _ _ _ _ Z1.out
  have Z1_f0 : V1.frozen? ⟨w.heap.size + 1, 0, none⟩ = false := by simp [World.frozen?, Z1.out]
  have Z1_f1 : V1.frozen? ⟨w.heap.size + 1, 1, none⟩ = false := by simp [World.frozen?, Z1.out]
  have X1_0 : V1.cell? ⟨w.heap.size + 1 + 1, 0, none⟩ = some (.int .u64 (zh x)) := cell_of_row _ _ _ _ _ _ X1.out
  have X1_1 : V1.cell? ⟨w.heap.size + 1 + 1, 1, none⟩ = some (.int .u64 (zl x)) := cell_of_row _ _ _ _ _ _ X1.out
  have X1_f0 : V1.frozen? ⟨w.heap.size + 1 + 1, 0, none⟩ = false := by simp [World.frozen?, X1.out]
  have X1_f1 : V1.frozen? ⟨w.heap.size + 1 + 1, 1, none⟩ = false := by simp [World.frozen?, X1.out]
  have zA1 := lt_of_heap A1.out
  have zZ1 := lt_of_heap Z1.out
  have zX1 := lt_of_heap X1.out
  go_simp
  clear A1_0 A1_1 zA1 Z1_0 Z1_1 Z1_f0 Z1_f1 zZ1 X1_0 X1_1 X1_f0 X1_f1 zX1
  obtain ⟨W0, hW0⟩ : ∃ W0, W0 = V1 := ⟨_, rfl⟩
  replace A1 := Lib.hid (row_by hW0 A1.out)
  replace Z1 := Lib.hid (row_by hW0 Z1.out)
  replace X1 := Lib.hid (row_by hW0 X1.out)
  have HB0 := Lib.hid (below_by hW0 (B1.out))
  have HW0 := Lib.hid hW0
  clear hW0
  have A1_0 : W0.cell? ⟨w.heap.size, 0, none⟩ = some (.int .u64 (zh x)) := cell_of_row _ _ _ _ _ _ A1.out
  have A1_1 : W0.cell? ⟨w.heap.size, 1, none⟩ = some (.int .u64 (zl x)) := cell_of_row _ _ _ _ _ _ A1.out
  have zA1 := lt_of_heap A1.out
  have Z1_0 : W0.cell? ⟨w.heap.size + 1, 0, none⟩ = some (.int .u64 0) := cell_of_row _ _ _ _ _ _ Z1.out
  have Z1_1 : W0.cell? ⟨w.heap.size + 1, 1, none⟩ = some (.int .u64 0) := cell_of_row _ _ _ _ _ _ Z1.out
  have Z1_f0 : W0.frozen? ⟨w.heap.size + 1, 0, none⟩ = false := (by simp [World.frozen?, Z1.out])
  have Z1_f1 : W0.frozen? ⟨w.heap.size + 1, 1, none⟩ = false := (by simp [World.frozen?, Z1.out])
  have zZ1 := lt_of_heap Z1.out
  have X1_0 : W0.cell? ⟨w.heap.size + 1 + 1, 0, none⟩ = some (.int .u64 (zh x)) := cell_of_row _ _ _ _ _ _ X1.out
  have X1_1 : W0.cell? ⟨w.heap.size + 1 + 1, 1, none⟩ = some (.int .u64 (zl x)) := cell_of_row _ _ _ _ _ _ X1.out
  have X1_f0 : W0.frozen? ⟨w.heap.size + 1 + 1, 0, none⟩ = false := (by simp [World.frozen?, X1.out])
  have X1_f1 : W0.frozen? ⟨w.heap.size + 1 + 1, 1, none⟩ = false := (by simp [World.frozen?, X1.out])
  have zX1 := lt_of_heap X1.out
  go_upto_region 4 with fail
  try rw [← HW0.out]
  go_cut [7, 8, 9] (fun s7 s8 s9 wx => ∃ g : Nat, s7 = .pointer (some ⟨g, 0, none⟩) ∧ s8 = .int .u64 r ∧ s9 = .int .i64 0 ∧ wx.heap[g]? = some (.cells #[.int .u64 (zh q), .int .u64 (zl q)] 66 (0, 0)) ∧ Below W0.heap.size W0 wx)
  case first =>
    go_region_held3 (fun w' => Below W0.heap.size W0 w' ∧ w'.cell? ⟨w.heap.size + 1 + 1, 0, none⟩ = some (.int .u64 (zh x)) ∧ w'.cell? ⟨w.heap.size + 1 + 1, 1, none⟩ = some (.int .u64 (zl x)))
    (first
      | ((try go_split_ands); refine ⟨(Below.refl _ _).drew, ?_, ?_⟩ <;> first | assumption | (rw [World.cell?_drew]; assumption))
      | ((try go_split_ands); refine ⟨keepS (W0 := W0) ?_ hb1, cellS (W0 := W0) ?_ hb1 ?_ ?_, cellS (W0 := W0) ?_ hb1 ?_ ?_⟩ <;> first | assumption | omega)
      | ((try go_split_ands); refine ⟨keepA (W0 := W0) ?_ _, cellA (W0 := W0) ?_ _ ?_ ?_, cellA (W0 := W0) ?_ _ ?_ ?_⟩ <;> first | assumption | omega)
      | ((try go_split_ands); refine ⟨keepAd (W0 := W0) ?_ _, cellAd (W0 := W0) ?_ _ ?_ ?_, cellAd (W0 := W0) ?_ _ ?_ ?_⟩ <;> first | assumption | omega | exact Below.refl _ _)
      | ((try go_split_ands); (with_reducible refine ⟨keep3 (W0 := W0) ?_ ?_ _ _ _, cell3 (W0 := W0) ?_ _ _ _ ?_ ?_, cell3 (W0 := W0) ?_ _ _ _ ?_ ?_⟩) <;> first | assumption | omega | exact Nat.le_refl _)
      | ((try go_split_ands); refine ⟨keep2 (W0 := W0) ?_ ?_ _ _, cell2 (W0 := W0) ?_ _ _ ?_ ?_, cell2 (W0 := W0) ?_ _ _ ?_ ?_⟩ <;> first | assumption | omega | exact Nat.le_refl _)
      | ((try go_split_ands); refine ⟨keepZ (W0 := W0) ?_ ?_ _, cellZ (W0 := W0) ?_ _ ?_ ?_, cellZ (W0 := W0) ?_ _ ?_ ?_⟩ <;> first | assumption | omega | exact Nat.le_refl _ | exact ⟨_, by assumption⟩))
    (first | (go_at_call 63; refine (HA.out _).mono ?_; rintro e w1 ⟨rfl, hb1⟩; (try go_split_ands); have hge : W0.heap.size ≤ w1.heap.size := (by first | (refine (keepS (W0 := W0) ?_ hb1).size; assumption) | exact (hb1.size : W0.heap.size ≤ w1.heap.size)); (try have hrow := row_call hb1 hrow); (try have hrow := row_new hb1); (try have hrow := row_newd hb1); have hl1 := lt_below hb1; obtain ⟨hc1, hf1⟩ := bcell hb1; (try (have hrc := row_cellA hrow; clear hc1 hf1)); (try have hrf := row_frozA hrow)) | (go_at_call 62; refine (HD.out _).mono ?_; rintro e w1 ⟨rfl, hb1⟩; (try go_split_ands); have hge : W0.heap.size ≤ w1.heap.size := (by first | (refine (keepS (W0 := W0) ?_ hb1).size; assumption) | exact (hb1.size : W0.heap.size ≤ w1.heap.size)); (try have hrow := row_call hb1 hrow); (try have hrow := row_new hb1); (try have hrow := row_newd hb1); have hl1 := lt_below hb1; obtain ⟨hc1, hf1⟩ := bcell hb1; (try (have hrc := row_cellA hrow; clear hc1 hf1)); (try have hrf := row_frozA hrow)))
    all_goals (try go_split_ands)
    all_goals (go_wp2_with fail; go_meet; refine ⟨_, rfl, rfl, rfl, ?_, ?_⟩)
    all_goals first | assumption | exact heap_alloc_new _ _ | exact row_set (by assumption) _ _
  case rest =>
    obtain ⟨g, rfl, rfl, rfl, hg, hB⟩ := hcut
    have hr1 : ¬ ((r : Int) = 0) := by omega
    obtain ⟨V2, rfl⟩ : ∃ V, V = wc := ⟨_, rfl⟩
    have Q1 := Lib.hid hg
    clear hg
    clear A1_0 A1_1 zA1 Z1_0 Z1_1 Z1_f0 Z1_f1 zZ1 X1_0 X1_1 X1_f0 X1_f1 zX1
    replace A1 := Lib.hid (row_call hB A1.out)
    replace Z1 := Lib.hid (row_call hB Z1.out)
    replace X1 := Lib.hid (row_call hB X1.out)
    have B2 := Lib.hid (HB0.out.trans (hB.mono HB0.out.size))
    clear hB
    have A1_0 : V2.cell? ⟨w.heap.size, 0, none⟩ = some (.int .u64 (zh x)) := cell_of_row _ _ _ _ _ _ A1.out
    have A1_1 : V2.cell? ⟨w.heap.size, 1, none⟩ = some (.int .u64 (zl x)) := cell_of_row _ _ _ _ _ _ A1.out
    have zA1 := lt_of_heap A1.out
    have Z1_0 : V2.cell? ⟨w.heap.size + 1, 0, none⟩ = some (.int .u64 0) := cell_of_row _ _ _ _ _ _ Z1.out
    have Z1_1 : V2.cell? ⟨w.heap.size + 1, 1, none⟩ = some (.int .u64 0) := cell_of_row _ _ _ _ _ _ Z1.out
    have Z1_f0 : V2.frozen? ⟨w.heap.size + 1, 0, none⟩ = false := (by simp [World.frozen?, Z1.out])
    have Z1_f1 : V2.frozen? ⟨w.heap.size + 1, 1, none⟩ = false := (by simp [World.frozen?, Z1.out])
    have zZ1 := lt_of_heap Z1.out
    have X1_0 : V2.cell? ⟨w.heap.size + 1 + 1, 0, none⟩ = some (.int .u64 (zh x)) := cell_of_row _ _ _ _ _ _ X1.out
    have X1_1 : V2.cell? ⟨w.heap.size + 1 + 1, 1, none⟩ = some (.int .u64 (zl x)) := cell_of_row _ _ _ _ _ _ X1.out
    have X1_f0 : V2.frozen? ⟨w.heap.size + 1 + 1, 0, none⟩ = false := (by simp [World.frozen?, X1.out])
    have X1_f1 : V2.frozen? ⟨w.heap.size + 1 + 1, 1, none⟩ = false := (by simp [World.frozen?, X1.out])
    have zX1 := lt_of_heap X1.out
    have Q1_0 : V2.cell? ⟨g, 0, none⟩ = some (.int .u64 (zh q)) := cell_of_row _ _ _ _ _ _ Q1.out
    have Q1_1 : V2.cell? ⟨g, 1, none⟩ = some (.int .u64 (zl q)) := cell_of_row _ _ _ _ _ _ Q1.out
    have zQ1 := lt_of_heap Q1.out
    go_wp2_with fail
    refine (HB.out _).mono ?_
    rintro e V3 ⟨rfl, hb3⟩
    clear A1_0 A1_1 zA1 Z1_0 Z1_1 Z1_f0 Z1_f1 zZ1 X1_0 X1_1 X1_f0 X1_f1 zX1 Q1_0 Q1_1 zQ1
    have B3 : Hid (Below w.heap.size w V3) := by first | exact Lib.hid ((B2.out).trans (hb3.mono (by have := B2.out.size; first | assumption | (simp <;> omega) | (simp; done)))) | exact Lib.hid (((B2.out).alloc (B2.out.size) _).trans (hb3.mono (by have := B2.out.size; first | assumption | (simp <;> omega) | (simp; done)))) | exact Lib.hid ((((B2.out).alloc (B2.out.size) _).alloc (by have := B2.out.size; simp <;> omega) _).trans (hb3.mono (by have := B2.out.size; first | assumption | (simp <;> omega) | (simp; done)))) | exact Lib.hid (((((B2.out).alloc (B2.out.size) _).alloc (by have := B2.out.size; simp <;> omega) _).alloc (by have := B2.out.size; simp <;> omega) _).trans (hb3.mono (by have := B2.out.size; first | assumption | (simp <;> omega) | (simp; done))))
    first | replace A1 := Lib.hid (row_call hb3 A1.out) | replace A1 := Lib.hid (row_call hb3 (row_alloc A1.out _)) | replace A1 := Lib.hid (row_call hb3 (row_alloc (row_alloc A1.out _) _)) | replace A1 := Lib.hid (row_call hb3 (row_alloc (row_alloc (row_alloc A1.out _) _) _))
    first | replace Z1 := Lib.hid (row_call hb3 Z1.out) | replace Z1 := Lib.hid (row_call hb3 (row_alloc Z1.out _)) | replace Z1 := Lib.hid (row_call hb3 (row_alloc (row_alloc Z1.out _) _)) | replace Z1 := Lib.hid (row_call hb3 (row_alloc (row_alloc (row_alloc Z1.out _) _) _))
    first | replace X1 := Lib.hid (row_call hb3 X1.out) | replace X1 := Lib.hid (row_call hb3 (row_alloc X1.out _)) | replace X1 := Lib.hid (row_call hb3 (row_alloc (row_alloc X1.out _) _)) | replace X1 := Lib.hid (row_call hb3 (row_alloc (row_alloc (row_alloc X1.out _) _) _))
    first | replace Q1 := Lib.hid (row_call hb3 Q1.out) | replace Q1 := Lib.hid (row_call hb3 (row_alloc Q1.out _)) | replace Q1 := Lib.hid (row_call hb3 (row_alloc (row_alloc Q1.out _) _)) | replace Q1 := Lib.hid (row_call hb3 (row_alloc (row_alloc (row_alloc Q1.out _) _) _))
    clear hb3
    have A1_0 : V3.cell? ⟨w.heap.size, 0, none⟩ = some (.int .u64 (zh x)) := cell_of_row _ _ _ _ _ _ A1.out
    have A1_1 : V3.cell? ⟨w.heap.size, 1, none⟩ = some (.int .u64 (zl x)) := cell_of_row _ _ _ _ _ _ A1.out
    have Z1_0 : V3.cell? ⟨w.heap.size + 1, 0, none⟩ = some (.int .u64 0) := cell_of_row _ _ _ _ _ _ Z1.out
    have Z1_1 : V3.cell? ⟨w.heap.size + 1, 1, none⟩ = some (.int .u64 0) := cell_of_row _ _ _ _ _ _ Z1.out
    have Z1_f0 : V3.frozen? ⟨w.heap.size + 1, 0, none⟩ = false := by simp [World.frozen?, Z1.out]
    have Z1_f1 : V3.frozen? ⟨w.heap.size + 1, 1, none⟩ = false := by simp [World.frozen?, Z1.out]
    have X1_0 : V3.cell? ⟨w.heap.size + 1 + 1, 0, none⟩ = some (.int .u64 (zh x)) := cell_of_row _ _ _ _ _ _ X1.out
    have X1_1 : V3.cell? ⟨w.heap.size + 1 + 1, 1, none⟩ = some (.int .u64 (zl x)) := cell_of_row _ _ _ _ _ _ X1.out
    have X1_f0 : V3.frozen? ⟨w.heap.size + 1 + 1, 0, none⟩ = false := by simp [World.frozen?, X1.out]
    have X1_f1 : V3.frozen? ⟨w.heap.size + 1 + 1, 1, none⟩ = false := by simp [World.frozen?, X1.out]
    have Q1_0 : V3.cell? ⟨g, 0, none⟩ = some (.int .u64 (zh q)) := cell_of_row _ _ _ _ _ _ Q1.out
    have Q1_1 : V3.cell? ⟨g, 1, none⟩ = some (.int .u64 (zl q)) := cell_of_row _ _ _ _ _ _ Q1.out
    have zA1 := lt_of_heap A1.out
    have zZ1 := lt_of_heap Z1.out
    have zX1 := lt_of_heap X1.out
    have zQ1 := lt_of_heap Q1.out
    go_simp
    go_wp2_with fail
    refine (HO.out _).mono ?_
    rintro e V4 ⟨rfl, hb4⟩
    clear A1_0 A1_1 zA1 Z1_0 Z1_1 Z1_f0 Z1_f1 zZ1 X1_0 X1_1 X1_f0 X1_f1 zX1 Q1_0 Q1_1 zQ1
    have B4 : Hid (Below w.heap.size w V4) := by first | exact Lib.hid ((B3.out).trans (hb4.mono (by have := B3.out.size; first | assumption | (simp <;> omega) | (simp; done)))) | exact Lib.hid (((B3.out).alloc (B3.out.size) _).trans (hb4.mono (by have := B3.out.size; first | assumption | (simp <;> omega) | (simp; done)))) | exact Lib.hid ((((B3.out).alloc (B3.out.size) _).alloc (by have := B3.out.size; simp <;> omega) _).trans (hb4.mono (by have := B3.out.size; first | assumption | (simp <;> omega) | (simp; done)))) | exact Lib.hid (((((B3.out).alloc (B3.out.size) _).alloc (by have := B3.out.size; simp <;> omega) _).alloc (by have := B3.out.size; simp <;> omega) _).trans (hb4.mono (by have := B3.out.size; first | assumption | (simp <;> omega) | (simp; done))))
    first | replace A1 := Lib.hid (row_call hb4 A1.out) | replace A1 := Lib.hid (row_call hb4 (row_alloc A1.out _)) | replace A1 := Lib.hid (row_call hb4 (row_alloc (row_alloc A1.out _) _)) | replace A1 := Lib.hid (row_call hb4 (row_alloc (row_alloc (row_alloc A1.out _) _) _))
    first | replace Z1 := Lib.hid (row_call hb4 Z1.out) | replace Z1 := Lib.hid (row_call hb4 (row_alloc Z1.out _)) | replace Z1 := Lib.hid (row_call hb4 (row_alloc (row_alloc Z1.out _) _)) | replace Z1 := Lib.hid (row_call hb4 (row_alloc (row_alloc (row_alloc Z1.out _) _) _))
    first | replace X1 := Lib.hid (row_call hb4 X1.out) | replace X1 := Lib.hid (row_call hb4 (row_alloc X1.out _)) | replace X1 := Lib.hid (row_call hb4 (row_alloc (row_alloc X1.out _) _)) | replace X1 := Lib.hid (row_call hb4 (row_alloc (row_alloc (row_alloc X1.out _) _) _))
    first | replace Q1 := Lib.hid (row_call hb4 Q1.out) | replace Q1 := Lib.hid (row_call hb4 (row_alloc Q1.out _)) | replace Q1 := Lib.hid (row_call hb4 (row_alloc (row_alloc Q1.out _) _)) | replace Q1 := Lib.hid (row_call hb4 (row_alloc (row_alloc (row_alloc Q1.out _) _) _))
    clear hb4
    have A1_0 : V4.cell? ⟨w.heap.size, 0, none⟩ = some (.int .u64 (zh x)) := cell_of_row _ _ _ _ _ _ A1.out
    have A1_1 : V4.cell? ⟨w.heap.size, 1, none⟩ = some (.int .u64 (zl x)) := cell_of_row _ _ _ _ _ _ A1.out
    have Z1_0 : V4.cell? ⟨w.heap.size + 1, 0, none⟩ = some (.int .u64 0) := cell_of_row _ _ _ _ _ _ Z1.out
    have Z1_1 : V4.cell? ⟨w.heap.size + 1, 1, none⟩ = some (.int .u64 0) := cell_of_row _ _ _ _ _ _ Z1.out
    have Z1_f0 : V4.frozen? ⟨w.heap.size + 1, 0, none⟩ = false := by simp [World.frozen?, Z1.out]
    have Z1_f1 : V4.frozen? ⟨w.heap.size + 1, 1, none⟩ = false := by simp [World.frozen?, Z1.out]
    have X1_0 : V4.cell? ⟨w.heap.size + 1 + 1, 0, none⟩ = some (.int .u64 (zh x)) := cell_of_row _ _ _ _ _ _ X1.out
    have X1_1 : V4.cell? ⟨w.heap.size + 1 + 1, 1, none⟩ = some (.int .u64 (zl x)) := cell_of_row _ _ _ _ _ _ X1.out
    have X1_f0 : V4.frozen? ⟨w.heap.size + 1 + 1, 0, none⟩ = false := by simp [World.frozen?, X1.out]
    have X1_f1 : V4.frozen? ⟨w.heap.size + 1 + 1, 1, none⟩ = false := by simp [World.frozen?, X1.out]
    have Q1_0 : V4.cell? ⟨g, 0, none⟩ = some (.int .u64 (zh q)) := cell_of_row _ _ _ _ _ _ Q1.out
    have Q1_1 : V4.cell? ⟨g, 1, none⟩ = some (.int .u64 (zl q)) := cell_of_row _ _ _ _ _ _ Q1.out
    have zA1 := lt_of_heap A1.out
    have zZ1 := lt_of_heap Z1.out
    have zX1 := lt_of_heap X1.out
    have zQ1 := lt_of_heap Q1.out
    go_simp
    go_wp2_with fail
    refine (HQ.out _).mono ?_
    rintro e V5 ⟨rfl, hb5⟩
    clear A1_0 A1_1 zA1 Z1_0 Z1_1 Z1_f0 Z1_f1 zZ1 X1_0 X1_1 X1_f0 X1_f1 zX1 Q1_0 Q1_1 zQ1
    have nA1O1 := Lib.hid (lt_of_heap A1.out)
    have nZ1O1 := Lib.hid (lt_of_heap Z1.out)
    have nX1O1 := Lib.hid (lt_of_heap X1.out)
    have nQ1O1 := Lib.hid (lt_of_heap Q1.out)
    have B5 := Lib.hid (((B4.out).alloc (B4.out.size) _).trans (hb5.mono (by have := B4.out.size; first | assumption | (simp <;> omega) | (simp; done))))
    replace A1 := Lib.hid (row_call hb5 (row_alloc A1.out _))
    replace Z1 := Lib.hid (row_call hb5 (row_alloc Z1.out _))
    replace X1 := Lib.hid (row_call hb5 (row_alloc X1.out _))
    replace Q1 := Lib.hid (row_call hb5 (row_alloc Q1.out _))
    have O1 := Lib.hid (row_call hb5 (heap_alloc_new _ _))
    clear hb5
    have A1_0 : V5.cell? ⟨w.heap.size, 0, none⟩ = some (.int .u64 (zh x)) := cell_of_row _ _ _ _ _ _ A1.out
    have A1_1 : V5.cell? ⟨w.heap.size, 1, none⟩ = some (.int .u64 (zl x)) := cell_of_row _ _ _ _ _ _ A1.out
    have Z1_0 : V5.cell? ⟨w.heap.size + 1, 0, none⟩ = some (.int .u64 0) := cell_of_row _ _ _ _ _ _ Z1.out
    have Z1_1 : V5.cell? ⟨w.heap.size + 1, 1, none⟩ = some (.int .u64 0) := cell_of_row _ _ _ _ _ _ Z1.out
    have Z1_f0 : V5.frozen? ⟨w.heap.size + 1, 0, none⟩ = false := by simp [World.frozen?, Z1.out]
    have Z1_f1 : V5.frozen? ⟨w.heap.size + 1, 1, none⟩ = false := by simp [World.frozen?, Z1.out]
    have X1_0 : V5.cell? ⟨w.heap.size + 1 + 1, 0, none⟩ = some (.int .u64 (zh x)) := cell_of_row _ _ _ _ _ _ X1.out
    have X1_1 : V5.cell? ⟨w.heap.size + 1 + 1, 1, none⟩ = some (.int .u64 (zl x)) := cell_of_row _ _ _ _ _ _ X1.out
    have X1_f0 : V5.frozen? ⟨w.heap.size + 1 + 1, 0, none⟩ = false := by simp [World.frozen?, X1.out]
    have X1_f1 : V5.frozen? ⟨w.heap.size + 1 + 1, 1, none⟩ = false := by simp [World.frozen?, X1.out]
    have Q1_0 : V5.cell? ⟨g, 0, none⟩ = some (.int .u64 (zh q)) := cell_of_row _ _ _ _ _ _ Q1.out
    have Q1_1 : V5.cell? ⟨g, 1, none⟩ = some (.int .u64 (zl q)) := cell_of_row _ _ _ _ _ _ Q1.out
    have O1_0 : V5.cell? ⟨V4.heap.size, 0, none⟩ = some (.int .u64 (zh q1)) := cell_of_row _ _ _ _ _ _ O1.out
    have O1_1 : V5.cell? ⟨V4.heap.size, 1, none⟩ = some (.int .u64 (zl q1)) := cell_of_row _ _ _ _ _ _ O1.out
    have zA1 := lt_of_heap A1.out
    have zZ1 := lt_of_heap Z1.out
    have zX1 := lt_of_heap X1.out
    have zQ1 := lt_of_heap Q1.out
    have zO1 := lt_of_heap O1.out
    go_simp
    go_wp2_with fail
    refine (HA.out _).mono ?_
    rintro e V6 ⟨rfl, hb6⟩
    clear A1_0 A1_1 zA1 Z1_0 Z1_1 Z1_f0 Z1_f1 zZ1 X1_0 X1_1 X1_f0 X1_f1 zX1 Q1_0 Q1_1 zQ1 O1_0 O1_1 zO1
    have B6 : Hid (Below w.heap.size w V6) := by first | exact Lib.hid ((B5.out).trans (hb6.mono (by have := B5.out.size; first | assumption | (simp <;> omega) | (simp; done)))) | exact Lib.hid (((B5.out).alloc (B5.out.size) _).trans (hb6.mono (by have := B5.out.size; first | assumption | (simp <;> omega) | (simp; done)))) | exact Lib.hid ((((B5.out).alloc (B5.out.size) _).alloc (by have := B5.out.size; simp <;> omega) _).trans (hb6.mono (by have := B5.out.size; first | assumption | (simp <;> omega) | (simp; done)))) | exact Lib.hid (((((B5.out).alloc (B5.out.size) _).alloc (by have := B5.out.size; simp <;> omega) _).alloc (by have := B5.out.size; simp <;> omega) _).trans (hb6.mono (by have := B5.out.size; first | assumption | (simp <;> omega) | (simp; done))))
    first | replace A1 := Lib.hid (row_call hb6 A1.out) | replace A1 := Lib.hid (row_call hb6 (row_alloc A1.out _)) | replace A1 := Lib.hid (row_call hb6 (row_alloc (row_alloc A1.out _) _)) | replace A1 := Lib.hid (row_call hb6 (row_alloc (row_alloc (row_alloc A1.out _) _) _))
    first | replace Z1 := Lib.hid (row_call hb6 Z1.out) | replace Z1 := Lib.hid (row_call hb6 (row_alloc Z1.out _)) | replace Z1 := Lib.hid (row_call hb6 (row_alloc (row_alloc Z1.out _) _)) | replace Z1 := Lib.hid (row_call hb6 (row_alloc (row_alloc (row_alloc Z1.out _) _) _))
    first | replace X1 := Lib.hid (row_call hb6 X1.out) | replace X1 := Lib.hid (row_call hb6 (row_alloc X1.out _)) | replace X1 := Lib.hid (row_call hb6 (row_alloc (row_alloc X1.out _) _)) | replace X1 := Lib.hid (row_call hb6 (row_alloc (row_alloc (row_alloc X1.out _) _) _))
    first | replace Q1 := Lib.hid (row_call hb6 Q1.out) | replace Q1 := Lib.hid (row_call hb6 (row_alloc Q1.out _)) | replace Q1 := Lib.hid (row_call hb6 (row_alloc (row_alloc Q1.out _) _)) | replace Q1 := Lib.hid (row_call hb6 (row_alloc (row_alloc (row_alloc Q1.out _) _) _))
    first | replace O1 := Lib.hid (row_call hb6 O1.out) | replace O1 := Lib.hid (row_call hb6 (row_alloc O1.out _)) | replace O1 := Lib.hid (row_call hb6 (row_alloc (row_alloc O1.out _) _)) | replace O1 := Lib.hid (row_call hb6 (row_alloc (row_alloc (row_alloc O1.out _) _) _))
    clear hb6
    have A1_0 : V6.cell? ⟨w.heap.size, 0, none⟩ = some (.int .u64 (zh x)) := cell_of_row _ _ _ _ _ _ A1.out
    have A1_1 : V6.cell? ⟨w.heap.size, 1, none⟩ = some (.int .u64 (zl x)) := cell_of_row _ _ _ _ _ _ A1.out
    have Z1_0 : V6.cell? ⟨w.heap.size + 1, 0, none⟩ = some (.int .u64 0) := cell_of_row _ _ _ _ _ _ Z1.out
    have Z1_1 : V6.cell? ⟨w.heap.size + 1, 1, none⟩ = some (.int .u64 0) := cell_of_row _ _ _ _ _ _ Z1.out
    have Z1_f0 : V6.frozen? ⟨w.heap.size + 1, 0, none⟩ = false := by simp [World.frozen?, Z1.out]
    have Z1_f1 : V6.frozen? ⟨w.heap.size + 1, 1, none⟩ = false := by simp [World.frozen?, Z1.out]
    have X1_0 : V6.cell? ⟨w.heap.size + 1 + 1, 0, none⟩ = some (.int .u64 (zh x)) := cell_of_row _ _ _ _ _ _ X1.out
    have X1_1 : V6.cell? ⟨w.heap.size + 1 + 1, 1, none⟩ = some (.int .u64 (zl x)) := cell_of_row _ _ _ _ _ _ X1.out
    have X1_f0 : V6.frozen? ⟨w.heap.size + 1 + 1, 0, none⟩ = false := by simp [World.frozen?, X1.out]
    have X1_f1 : V6.frozen? ⟨w.heap.size + 1 + 1, 1, none⟩ = false := by simp [World.frozen?, X1.out]
    have Q1_0 : V6.cell? ⟨g, 0, none⟩ = some (.int .u64 (zh q)) := cell_of_row _ _ _ _ _ _ Q1.out
    have Q1_1 : V6.cell? ⟨g, 1, none⟩ = some (.int .u64 (zl q)) := cell_of_row _ _ _ _ _ _ Q1.out
    have O1_0 : V6.cell? ⟨V4.heap.size, 0, none⟩ = some (.int .u64 (zh q1)) := cell_of_row _ _ _ _ _ _ O1.out
    have O1_1 : V6.cell? ⟨V4.heap.size, 1, none⟩ = some (.int .u64 (zl q1)) := cell_of_row _ _ _ _ _ _ O1.out
    have zA1 := lt_of_heap A1.out
    have zZ1 := lt_of_heap Z1.out
    have zX1 := lt_of_heap X1.out
    have zQ1 := lt_of_heap Q1.out
    have zO1 := lt_of_heap O1.out
    go_simp
    go_wp2
    refine shut_ret (v := .tuple #[.agg #[.int .u64 (zh Q), .int .u64 (zl Q)], .int .i64 (wrap64 (t2 : Int))]) (by simp [results, Tryd.results47, go_sem, Z1_0, Z1_1, zZ1]) rfl ⟨by rw [kt.out], ?_⟩
    exact keep2 B6.out (Nat.le_succ _) _ _
end Go.Proofs.YtoopbgpoelpjfaaDoor
