/- The plain answers of layer 7: a week's day as a date. -/
import Derived.Test.YtoghogpcgdcboaaDoorWkB
namespace Go.Proofs.YtoghogpcgdcboaaDoor
set_option linter.unusedVariables false
set_option linter.unusedSimpArgs false
open Go.ChangeShapes Go.WideShapes Go.ChangeAt Go.RowKit

/-- no such week, or no such day of it. -/
def wkNo (y k j : Int) : Prop := k < 1 ∨ wksI y < k ∨ j < 1 ∨ 7 < j
set_option maxHeartbeats 3200000 in
set_option maxRecDepth 100000 in
theorem rWDate_no (y k j : Int) (h : wkNo y k j) (w : World) : Calls Tryd.prog 12 #[.int .i64 y, .int .i64 k, .int .i64 j] w fun e w' => e = .returned (.tuple #[.agg #[.int .i64 0, .int .i64 0, .int .i64 0], .int .i64 7]) ∧ Below w.heap.size w w' := by
  have H1 := Lib.hid (rWeeks_any y)
  by_cases h1 : k < 1
  · clear H1 h
    go_enter Tryd.func12, Tryd.ntmps12
    refine wp_shut ?_
    go_wp2
    refine shut_ret (v := .tuple #[.agg #[.int .i64 0, .int .i64 0, .int .i64 0], .int .i64 7]) (by simp [results, Tryd.results12, go_sem]) rfl ⟨rfl, ?_⟩
    go_grown
  · have d1 : decide (k < 1) = false := decide_eq_false h1
    by_cases h2 : wksI y < k
    · clear h
      generalize wksI y = W at *
      go_enter Tryd.func12, Tryd.ntmps12
      refine wp_shut ?_
      go_wp2_with fail
      
      refine (H1.out _).mono ?_
      rintro e V1 ⟨rfl, hb1⟩
      have B1 := Lib.hid (((Below.refl w.heap.size w).alloc (Nat.le_refl _) _).trans (hb1.mono (by first | assumption | (simp <;> omega) | (simp; done))))
      have Z1 := Lib.hid (row_call hb1 (heap_alloc_new _ _))
      clear hb1
      have Z1_0 : V1.cell? ⟨w.heap.size, 0, none⟩ = some (.int .i64 0) := cell_of_row _ _ _ _ _ _ Z1.out
      have Z1_1 : V1.cell? ⟨w.heap.size, 1, none⟩ = some (.int .i64 0) := cell_of_row _ _ _ _ _ _ Z1.out
      have Z1_2 : V1.cell? ⟨w.heap.size, 2, none⟩ = some (.int .i64 0) := cell_of_row _ _ _ _ _ _ Z1.out
      have Z1_f0 : V1.frozen? ⟨w.heap.size, 0, none⟩ = false := by simp [World.frozen?, Z1.out]
      have Z1_f1 : V1.frozen? ⟨w.heap.size, 1, none⟩ = false := by simp [World.frozen?, Z1.out]
      have Z1_f2 : V1.frozen? ⟨w.heap.size, 2, none⟩ = false := by simp [World.frozen?, Z1.out]
      have zZ1 := lt_of_heap Z1.out
      go_simp
      go_wp2
      refine shut_ret (v := .tuple #[.agg #[.int .i64 0, .int .i64 0, .int .i64 0], .int .i64 7]) (by simp [results, Tryd.results12, go_sem, zZ1, Z1_0, Z1_1, Z1_2]) rfl ⟨rfl, ?_⟩
      exact keep3 B1.out (Nat.le_refl _) _ _ _
    · have d2 : decide (wksI y < k) = false := decide_eq_false h2
      by_cases h3 : j < 1
      · clear h
        generalize wksI y = W at *
        go_enter Tryd.func12, Tryd.ntmps12
        refine wp_shut ?_
        go_wp2_with fail
        
        refine (H1.out _).mono ?_
        rintro e V1 ⟨rfl, hb1⟩
        have B1 := Lib.hid (((Below.refl w.heap.size w).alloc (Nat.le_refl _) _).trans (hb1.mono (by first | assumption | (simp <;> omega) | (simp; done))))
        have Z1 := Lib.hid (row_call hb1 (heap_alloc_new _ _))
        clear hb1
        have Z1_0 : V1.cell? ⟨w.heap.size, 0, none⟩ = some (.int .i64 0) := cell_of_row _ _ _ _ _ _ Z1.out
        have Z1_1 : V1.cell? ⟨w.heap.size, 1, none⟩ = some (.int .i64 0) := cell_of_row _ _ _ _ _ _ Z1.out
        have Z1_2 : V1.cell? ⟨w.heap.size, 2, none⟩ = some (.int .i64 0) := cell_of_row _ _ _ _ _ _ Z1.out
        have Z1_f0 : V1.frozen? ⟨w.heap.size, 0, none⟩ = false := by simp [World.frozen?, Z1.out]
        have Z1_f1 : V1.frozen? ⟨w.heap.size, 1, none⟩ = false := by simp [World.frozen?, Z1.out]
        have Z1_f2 : V1.frozen? ⟨w.heap.size, 2, none⟩ = false := by simp [World.frozen?, Z1.out]
        have zZ1 := lt_of_heap Z1.out
        go_simp
        go_wp2
        refine shut_ret (v := .tuple #[.agg #[.int .i64 0, .int .i64 0, .int .i64 0], .int .i64 7]) (by simp [results, Tryd.results12, go_sem, zZ1, Z1_0, Z1_1, Z1_2]) rfl ⟨rfl, ?_⟩
        exact keep3 B1.out (Nat.le_refl _) _ _ _
      · have d3 : decide (j < 1) = false := decide_eq_false h3
        have h4 : 7 < j := by unfold wkNo at h; omega
        clear h
        generalize wksI y = W at *
        go_enter Tryd.func12, Tryd.ntmps12
        refine wp_shut ?_
        go_wp2_with fail
        
        refine (H1.out _).mono ?_
        rintro e V1 ⟨rfl, hb1⟩
        have B1 := Lib.hid (((Below.refl w.heap.size w).alloc (Nat.le_refl _) _).trans (hb1.mono (by first | assumption | (simp <;> omega) | (simp; done))))
        have Z1 := Lib.hid (row_call hb1 (heap_alloc_new _ _))
        clear hb1
        have Z1_0 : V1.cell? ⟨w.heap.size, 0, none⟩ = some (.int .i64 0) := cell_of_row _ _ _ _ _ _ Z1.out
        have Z1_1 : V1.cell? ⟨w.heap.size, 1, none⟩ = some (.int .i64 0) := cell_of_row _ _ _ _ _ _ Z1.out
        have Z1_2 : V1.cell? ⟨w.heap.size, 2, none⟩ = some (.int .i64 0) := cell_of_row _ _ _ _ _ _ Z1.out
        have Z1_f0 : V1.frozen? ⟨w.heap.size, 0, none⟩ = false := by simp [World.frozen?, Z1.out]
        have Z1_f1 : V1.frozen? ⟨w.heap.size, 1, none⟩ = false := by simp [World.frozen?, Z1.out]
        have Z1_f2 : V1.frozen? ⟨w.heap.size, 2, none⟩ = false := by simp [World.frozen?, Z1.out]
        have zZ1 := lt_of_heap Z1.out
        go_simp
        go_wp2
        refine shut_ret (v := .tuple #[.agg #[.int .i64 0, .int .i64 0, .int .i64 0], .int .i64 7]) (by simp [results, Tryd.results12, go_sem, zZ1, Z1_0, Z1_1, Z1_2]) rfl ⟨rfl, ?_⟩
        exact keep3 B1.out (Nat.le_refl _) _ _ _
set_option maxHeartbeats 3200000 in
set_option maxRecDepth 100000 in
theorem rWDate_out (y k j : Int) (h : ¬ wkNo y k j) (hy : y < -10000 ∨ 10000 < y) (w : World) : Calls Tryd.prog 12 #[.int .i64 y, .int .i64 k, .int .i64 j] w fun e w' => e = .returned (.tuple #[.agg #[.int .i64 0, .int .i64 0, .int .i64 0], .int .i64 8]) ∧ Below w.heap.size w w' := by
  have H1 := Lib.hid (rWeeks_any y)
  unfold wkNo at h
  have d1 : decide (k < 1) = false := decide_eq_false (by omega)
  have d2 : decide (wksI y < k) = false := decide_eq_false (by omega)
  have d3 : decide (j < 1) = false := decide_eq_false (by omega)
  have d4 : decide (7 < j) = false := decide_eq_false (by omega)
  clear h
  generalize wksI y = W at *
  by_cases hy1 : y < -10000
  · go_enter Tryd.func12, Tryd.ntmps12
    refine wp_shut ?_
    go_wp2_with fail
    
    refine (H1.out _).mono ?_
    rintro e V1 ⟨rfl, hb1⟩
    have B1 := Lib.hid (((Below.refl w.heap.size w).alloc (Nat.le_refl _) _).trans (hb1.mono (by first | assumption | (simp <;> omega) | (simp; done))))
    have Z1 := Lib.hid (row_call hb1 (heap_alloc_new _ _))
    clear hb1
    have Z1_0 : V1.cell? ⟨w.heap.size, 0, none⟩ = some (.int .i64 0) := cell_of_row _ _ _ _ _ _ Z1.out
    have Z1_1 : V1.cell? ⟨w.heap.size, 1, none⟩ = some (.int .i64 0) := cell_of_row _ _ _ _ _ _ Z1.out
    have Z1_2 : V1.cell? ⟨w.heap.size, 2, none⟩ = some (.int .i64 0) := cell_of_row _ _ _ _ _ _ Z1.out
    have Z1_f0 : V1.frozen? ⟨w.heap.size, 0, none⟩ = false := by simp [World.frozen?, Z1.out]
    have Z1_f1 : V1.frozen? ⟨w.heap.size, 1, none⟩ = false := by simp [World.frozen?, Z1.out]
    have Z1_f2 : V1.frozen? ⟨w.heap.size, 2, none⟩ = false := by simp [World.frozen?, Z1.out]
    have zZ1 := lt_of_heap Z1.out
    go_simp
    go_wp2
    refine shut_ret (v := .tuple #[.agg #[.int .i64 0, .int .i64 0, .int .i64 0], .int .i64 8]) (by simp [results, Tryd.results12, go_sem, zZ1, Z1_0, Z1_1, Z1_2]) rfl ⟨rfl, ?_⟩
    exact keep3 B1.out (Nat.le_refl _) _ _ _
  · have d5 : decide (y < -10000) = false := decide_eq_false hy1
    have d6 : 10000 < y := by omega
    clear hy
    go_enter Tryd.func12, Tryd.ntmps12
    refine wp_shut ?_
    go_wp2_with fail
    
    refine (H1.out _).mono ?_
    rintro e V1 ⟨rfl, hb1⟩
    have B1 := Lib.hid (((Below.refl w.heap.size w).alloc (Nat.le_refl _) _).trans (hb1.mono (by first | assumption | (simp <;> omega) | (simp; done))))
    have Z1 := Lib.hid (row_call hb1 (heap_alloc_new _ _))
    clear hb1
    have Z1_0 : V1.cell? ⟨w.heap.size, 0, none⟩ = some (.int .i64 0) := cell_of_row _ _ _ _ _ _ Z1.out
    have Z1_1 : V1.cell? ⟨w.heap.size, 1, none⟩ = some (.int .i64 0) := cell_of_row _ _ _ _ _ _ Z1.out
    have Z1_2 : V1.cell? ⟨w.heap.size, 2, none⟩ = some (.int .i64 0) := cell_of_row _ _ _ _ _ _ Z1.out
    have Z1_f0 : V1.frozen? ⟨w.heap.size, 0, none⟩ = false := by simp [World.frozen?, Z1.out]
    have Z1_f1 : V1.frozen? ⟨w.heap.size, 1, none⟩ = false := by simp [World.frozen?, Z1.out]
    have Z1_f2 : V1.frozen? ⟨w.heap.size, 2, none⟩ = false := by simp [World.frozen?, Z1.out]
    have zZ1 := lt_of_heap Z1.out
    go_simp
    go_wp2
    refine shut_ret (v := .tuple #[.agg #[.int .i64 0, .int .i64 0, .int .i64 0], .int .i64 8]) (by simp [results, Tryd.results12, go_sem, zZ1, Z1_0, Z1_1, Z1_2]) rfl ⟨rfl, ?_⟩
    exact keep3 B1.out (Nat.le_refl _) _ _ _
set_option maxHeartbeats 6400000 in
set_option maxRecDepth 100000 in
theorem rWDate_any (y k j : Int) (h : ¬ wkNo y k j) (y1 : -10000 ≤ y) (y2 : y ≤ 10000) {Y M D E : Int} (hd : IsDate (oneI y + 7 * (k - 1) + j - 1) Y M D E) (w : World) :
    Calls Tryd.prog 12 #[.int .i64 y, .int .i64 k, .int .i64 j] w fun e w' => e = .returned (.tuple #[.agg #[.int .i64 Y, .int .i64 M, .int .i64 D], .int .i64 E]) ∧ Below w.heap.size w w' := by
  have H1 := Lib.hid (rWeeks_any y)
  have HL := Lib.hid (fun w => grow_of (rLike_p y w))
  have X3 := rDateOf_is hd
  obtain ⟨c, hc, ht⟩ := like_eq y
  have l1 := (like_bd y).1
  have l2 := (like_bd y).2
  have H2 := Lib.hid (rOne_any (likeI y) (by omega) (by omega))
  obtain ⟨b1, b2⟩ := one_bd (likeI y) (by omega)
  have e1 := one_cycle (likeI y) c
  rw [← hc] at e1
  unfold wkNo at h
  have n1 := (one_next y).2
  have d1 : decide (k < 1) = false := decide_eq_false (by omega)
  have d2 : decide (wksI y < k) = false := decide_eq_false (by omega)
  have d3 : decide (j < 1) = false := decide_eq_false (by omega)
  have d4 : decide (7 < j) = false := decide_eq_false (by omega)
  have d5 : decide (y < -10000) = false := decide_eq_false (by omega)
  have d6 : decide (10000 < y) = false := decide_eq_false (by omega)
  have q1 : 1 ≤ k := by omega
  have q2 : k ≤ 53 := by omega
  have q3 : 1 ≤ j := by omega
  have q4 : j ≤ 7 := by omega
  have q5 : -40 ≤ c := by omega
  have q6 : c ≤ 40 := by omega
  rw [show oneI y + 7 * (k - 1) + j - 1 = oneI (likeI y) + 7 * (k - 1) + j - 1 + c * 146097 by rw [e1]; omega] at X3
  have H3 := Lib.hid X3
  clear h hd X3 hc e1 n1
  generalize wksI y = W at *
  generalize oneI (likeI y) = A at *
  generalize likeI y = L at *
  go_enter Tryd.func12, Tryd.ntmps12
  refine wp_shut ?_
  go_wp2_with fail
  
  refine (H1.out _).mono ?_
  rintro e V1 ⟨rfl, hb1⟩
  have B1 := Lib.hid (((Below.refl w.heap.size w).alloc (Nat.le_refl _) _).trans (hb1.mono (by first | assumption | (simp <;> omega) | (simp; done))))
  have Z1 := Lib.hid (row_call hb1 (heap_alloc_new _ _))
  clear hb1
  have Z1_0 : V1.cell? ⟨w.heap.size, 0, none⟩ = some (.int .i64 0) := cell_of_row _ _ _ _ _ _ Z1.out
  have Z1_1 : V1.cell? ⟨w.heap.size, 1, none⟩ = some (.int .i64 0) := cell_of_row _ _ _ _ _ _ Z1.out
  have Z1_2 : V1.cell? ⟨w.heap.size, 2, none⟩ = some (.int .i64 0) := cell_of_row _ _ _ _ _ _ Z1.out
  have Z1_f0 : V1.frozen? ⟨w.heap.size, 0, none⟩ = false := by simp [World.frozen?, Z1.out]
  have Z1_f1 : V1.frozen? ⟨w.heap.size, 1, none⟩ = false := by simp [World.frozen?, Z1.out]
  have Z1_f2 : V1.frozen? ⟨w.heap.size, 2, none⟩ = false := by simp [World.frozen?, Z1.out]
  have zZ1 := lt_of_heap Z1.out
  go_simp
  go_wp2_with fail
  refine (HL.out _).mono ?_
  rintro e V2 ⟨rfl, hb2⟩
  clear Z1_0 Z1_1 Z1_2 Z1_f0 Z1_f1 Z1_f2 zZ1
  have B2 : Hid (Below w.heap.size w V2) := by first | exact Lib.hid ((B1.out).trans (hb2.mono (by have := B1.out.size; first | assumption | (simp <;> omega) | (simp; done)))) | exact Lib.hid (((B1.out).alloc (B1.out.size) _).trans (hb2.mono (by have := B1.out.size; first | assumption | (simp <;> omega) | (simp; done)))) | exact Lib.hid ((((B1.out).alloc (B1.out.size) _).alloc (by have := B1.out.size; simp <;> omega) _).trans (hb2.mono (by have := B1.out.size; first | assumption | (simp <;> omega) | (simp; done)))) | exact Lib.hid (((((B1.out).alloc (B1.out.size) _).alloc (by have := B1.out.size; simp <;> omega) _).alloc (by have := B1.out.size; simp <;> omega) _).trans (hb2.mono (by have := B1.out.size; first | assumption | (simp <;> omega) | (simp; done))))
  first | replace Z1 := Lib.hid (row_call hb2 Z1.out) | replace Z1 := Lib.hid (row_call hb2 (row_alloc Z1.out _)) | replace Z1 := Lib.hid (row_call hb2 (row_alloc (row_alloc Z1.out _) _)) | replace Z1 := Lib.hid (row_call hb2 (row_alloc (row_alloc (row_alloc Z1.out _) _) _))
  clear hb2
  have Z1_0 : V2.cell? ⟨w.heap.size, 0, none⟩ = some (.int .i64 0) := cell_of_row _ _ _ _ _ _ Z1.out
  have Z1_1 : V2.cell? ⟨w.heap.size, 1, none⟩ = some (.int .i64 0) := cell_of_row _ _ _ _ _ _ Z1.out
  have Z1_2 : V2.cell? ⟨w.heap.size, 2, none⟩ = some (.int .i64 0) := cell_of_row _ _ _ _ _ _ Z1.out
  have Z1_f0 : V2.frozen? ⟨w.heap.size, 0, none⟩ = false := by simp [World.frozen?, Z1.out]
  have Z1_f1 : V2.frozen? ⟨w.heap.size, 1, none⟩ = false := by simp [World.frozen?, Z1.out]
  have Z1_f2 : V2.frozen? ⟨w.heap.size, 2, none⟩ = false := by simp [World.frozen?, Z1.out]
  have zZ1 := lt_of_heap Z1.out
  go_simp
  go_wp2_with fail
  refine (H2.out _).mono ?_
  rintro e V3 ⟨rfl, hb3⟩
  clear Z1_0 Z1_1 Z1_2 Z1_f0 Z1_f1 Z1_f2 zZ1
  have B3 : Hid (Below w.heap.size w V3) := by first | exact Lib.hid ((B2.out).trans (hb3.mono (by have := B2.out.size; first | assumption | (simp <;> omega) | (simp; done)))) | exact Lib.hid (((B2.out).alloc (B2.out.size) _).trans (hb3.mono (by have := B2.out.size; first | assumption | (simp <;> omega) | (simp; done)))) | exact Lib.hid ((((B2.out).alloc (B2.out.size) _).alloc (by have := B2.out.size; simp <;> omega) _).trans (hb3.mono (by have := B2.out.size; first | assumption | (simp <;> omega) | (simp; done)))) | exact Lib.hid (((((B2.out).alloc (B2.out.size) _).alloc (by have := B2.out.size; simp <;> omega) _).alloc (by have := B2.out.size; simp <;> omega) _).trans (hb3.mono (by have := B2.out.size; first | assumption | (simp <;> omega) | (simp; done))))
  first | replace Z1 := Lib.hid (row_call hb3 Z1.out) | replace Z1 := Lib.hid (row_call hb3 (row_alloc Z1.out _)) | replace Z1 := Lib.hid (row_call hb3 (row_alloc (row_alloc Z1.out _) _)) | replace Z1 := Lib.hid (row_call hb3 (row_alloc (row_alloc (row_alloc Z1.out _) _) _))
  clear hb3
  have Z1_0 : V3.cell? ⟨w.heap.size, 0, none⟩ = some (.int .i64 0) := cell_of_row _ _ _ _ _ _ Z1.out
  have Z1_1 : V3.cell? ⟨w.heap.size, 1, none⟩ = some (.int .i64 0) := cell_of_row _ _ _ _ _ _ Z1.out
  have Z1_2 : V3.cell? ⟨w.heap.size, 2, none⟩ = some (.int .i64 0) := cell_of_row _ _ _ _ _ _ Z1.out
  have Z1_f0 : V3.frozen? ⟨w.heap.size, 0, none⟩ = false := by simp [World.frozen?, Z1.out]
  have Z1_f1 : V3.frozen? ⟨w.heap.size, 1, none⟩ = false := by simp [World.frozen?, Z1.out]
  have Z1_f2 : V3.frozen? ⟨w.heap.size, 2, none⟩ = false := by simp [World.frozen?, Z1.out]
  have zZ1 := lt_of_heap Z1.out
  go_simp
  go_wp2_with fail
  refine (HL.out _).mono ?_
  rintro e V4 ⟨rfl, hb4⟩
  clear Z1_0 Z1_1 Z1_2 Z1_f0 Z1_f1 Z1_f2 zZ1
  have B4 : Hid (Below w.heap.size w V4) := by first | exact Lib.hid ((B3.out).trans (hb4.mono (by have := B3.out.size; first | assumption | (simp <;> omega) | (simp; done)))) | exact Lib.hid (((B3.out).alloc (B3.out.size) _).trans (hb4.mono (by have := B3.out.size; first | assumption | (simp <;> omega) | (simp; done)))) | exact Lib.hid ((((B3.out).alloc (B3.out.size) _).alloc (by have := B3.out.size; simp <;> omega) _).trans (hb4.mono (by have := B3.out.size; first | assumption | (simp <;> omega) | (simp; done)))) | exact Lib.hid (((((B3.out).alloc (B3.out.size) _).alloc (by have := B3.out.size; simp <;> omega) _).alloc (by have := B3.out.size; simp <;> omega) _).trans (hb4.mono (by have := B3.out.size; first | assumption | (simp <;> omega) | (simp; done))))
  first | replace Z1 := Lib.hid (row_call hb4 Z1.out) | replace Z1 := Lib.hid (row_call hb4 (row_alloc Z1.out _)) | replace Z1 := Lib.hid (row_call hb4 (row_alloc (row_alloc Z1.out _) _)) | replace Z1 := Lib.hid (row_call hb4 (row_alloc (row_alloc (row_alloc Z1.out _) _) _))
  clear hb4
  have Z1_0 : V4.cell? ⟨w.heap.size, 0, none⟩ = some (.int .i64 0) := cell_of_row _ _ _ _ _ _ Z1.out
  have Z1_1 : V4.cell? ⟨w.heap.size, 1, none⟩ = some (.int .i64 0) := cell_of_row _ _ _ _ _ _ Z1.out
  have Z1_2 : V4.cell? ⟨w.heap.size, 2, none⟩ = some (.int .i64 0) := cell_of_row _ _ _ _ _ _ Z1.out
  have Z1_f0 : V4.frozen? ⟨w.heap.size, 0, none⟩ = false := by simp [World.frozen?, Z1.out]
  have Z1_f1 : V4.frozen? ⟨w.heap.size, 1, none⟩ = false := by simp [World.frozen?, Z1.out]
  have Z1_f2 : V4.frozen? ⟨w.heap.size, 2, none⟩ = false := by simp [World.frozen?, Z1.out]
  have zZ1 := lt_of_heap Z1.out
  go_simp
  go_wp2_with fail
  refine (H3.out _).mono ?_
  rintro e V5 ⟨rfl, hb5⟩
  clear Z1_0 Z1_1 Z1_2 Z1_f0 Z1_f1 Z1_f2 zZ1
  have B5 : Hid (Below w.heap.size w V5) := by first | exact Lib.hid ((B4.out).trans (hb5.mono (by have := B4.out.size; first | assumption | (simp <;> omega) | (simp; done)))) | exact Lib.hid (((B4.out).alloc (B4.out.size) _).trans (hb5.mono (by have := B4.out.size; first | assumption | (simp <;> omega) | (simp; done)))) | exact Lib.hid ((((B4.out).alloc (B4.out.size) _).alloc (by have := B4.out.size; simp <;> omega) _).trans (hb5.mono (by have := B4.out.size; first | assumption | (simp <;> omega) | (simp; done)))) | exact Lib.hid (((((B4.out).alloc (B4.out.size) _).alloc (by have := B4.out.size; simp <;> omega) _).alloc (by have := B4.out.size; simp <;> omega) _).trans (hb5.mono (by have := B4.out.size; first | assumption | (simp <;> omega) | (simp; done))))
  first | replace Z1 := Lib.hid (row_call hb5 Z1.out) | replace Z1 := Lib.hid (row_call hb5 (row_alloc Z1.out _)) | replace Z1 := Lib.hid (row_call hb5 (row_alloc (row_alloc Z1.out _) _)) | replace Z1 := Lib.hid (row_call hb5 (row_alloc (row_alloc (row_alloc Z1.out _) _) _))
  clear hb5
  have Z1_0 : V5.cell? ⟨w.heap.size, 0, none⟩ = some (.int .i64 0) := cell_of_row _ _ _ _ _ _ Z1.out
  have Z1_1 : V5.cell? ⟨w.heap.size, 1, none⟩ = some (.int .i64 0) := cell_of_row _ _ _ _ _ _ Z1.out
  have Z1_2 : V5.cell? ⟨w.heap.size, 2, none⟩ = some (.int .i64 0) := cell_of_row _ _ _ _ _ _ Z1.out
  have Z1_f0 : V5.frozen? ⟨w.heap.size, 0, none⟩ = false := by simp [World.frozen?, Z1.out]
  have Z1_f1 : V5.frozen? ⟨w.heap.size, 1, none⟩ = false := by simp [World.frozen?, Z1.out]
  have Z1_f2 : V5.frozen? ⟨w.heap.size, 2, none⟩ = false := by simp [World.frozen?, Z1.out]
  have zZ1 := lt_of_heap Z1.out
  go_simp
  go_wp2
  refine shut_ret (v := .tuple #[.agg #[.int .i64 Y, .int .i64 M, .int .i64 D], .int .i64 E]) (by simp [results, Tryd.results12, go_sem, zZ1, Z1_0, Z1_1, Z1_2]) rfl ⟨rfl, ?_⟩
  exact keep3 B5.out (Nat.le_refl _) _ _ _
end Go.Proofs.YtoghogpcgdcboaaDoor
