/- The plain answers of layer 8: times of day. -/
import Derived.Test.YtpkbcnofieinaaaDoorInstE
import Derived.Test.YtpkbcnofieinaaaDoorRowS
namespace Go.Proofs.YtpkbcnofieinaaaDoor
set_option linter.unusedVariables false
set_option linter.unusedSimpArgs false
open Go.ChangeShapes Go.WideShapes Go.ChangeAt Go.RowKit

theorem keep4 {W0 W : World} {k : Nat} (h : Below W0.heap.size W0 W) (hk : W0.heap.size ≤ k) (a b c d : Value) : Below W0.heap.size W0 ((((W.setCell ⟨k, 0, none⟩ a).setCell ⟨k, 1, none⟩ b).setCell ⟨k, 2, none⟩ c).setCell ⟨k, 3, none⟩ d) :=
  (((h.setCell (by exact hk) _).setCell (by exact hk) _).setCell (by exact hk) _).setCell (by exact hk) _
/-- a time that may be. -/
def okK (h m s n : Int) : Prop := 0 ≤ h ∧ h ≤ 23 ∧ 0 ≤ m ∧ m ≤ 59 ∧ 0 ≤ s ∧ s ≤ 59 ∧ 0 ≤ n ∧ n < 1000000000
instance (h m s n : Int) : Decidable (okK h m s n) := by unfold okK; infer_instance
@[irreducible] def ckK (h m s n : Int) : Int := if okK h m s n then 0 else 5
theorem ckK_ok {h m s n : Int} (k : okK h m s n) : ckK h m s n = 0 := by unfold ckK; exact if_pos k
theorem ckK_no {h m s n : Int} (k : ¬ okK h m s n) : ckK h m s n = 5 := by unfold ckK; exact if_neg k
theorem of_ckK {h m s n : Int} (k : ckK h m s n = 0) : okK h m s n := by
  by_cases k2 : okK h m s n
  · exact k2
  · rw [ckK_no k2] at k; omega
theorem ckK_two (h m s n : Int) : ckK h m s n = 0 ∨ ckK h m s n = 5 := by
  by_cases k : okK h m s n
  · exact Or.inl (ckK_ok k)
  · exact Or.inr (ckK_no k)
set_option maxHeartbeats 3200000 in
set_option maxRecDepth 100000 in
theorem rkCheck_any (h m s n : Int) (w : World) : Calls Tryd.prog 15 #[.agg #[.int .i64 h, .int .i64 m, .int .i64 s, .int .i64 n]] w fun e w' => e = .returned (.int .i64 (ckK h m s n)) ∧ Below w.heap.size w w' := by
  by_cases k : okK h m s n
  · have E := Lib.hid (ckK_ok k)
    unfold okK at k
    have f1 : decide (h < 0) = false := decide_eq_false (by omega)
    have f2 : decide (23 < h) = false := decide_eq_false (by omega)
    have f3 : decide (m < 0) = false := decide_eq_false (by omega)
    have f4 : decide (59 < m) = false := decide_eq_false (by omega)
    have f5 : decide (s < 0) = false := decide_eq_false (by omega)
    have f6 : decide (59 < s) = false := decide_eq_false (by omega)
    have f7 : decide (n < 0) = false := decide_eq_false (by omega)
    have f8 : decide (1000000000 ≤ n) = false := decide_eq_false (by omega)
    clear k
    go_enter Tryd.func15, Tryd.ntmps15
    go_wp2
    go_ret
    exact ⟨by rw [E.out]; try rfl, (Below.refl _ _).alloc (Nat.le_refl _) _⟩
  · have E := Lib.hid (ckK_no k)
    have K : Hid (¬ okK h m s n) := Lib.hid k
    clear k
    go_enter Tryd.func15, Tryd.ntmps15
    go_wp2
    all_goals
      first
      | (exfalso; exact K.out (by unfold okK; omega))
      | (go_ret; exact ⟨by rw [E.out]; try rfl, (Below.refl _ _).alloc (Nat.le_refl _) _⟩)
def scK (h m s : Int) : Int := 3600 * h + 60 * m + s
theorem scK_bd {h m s n : Int} (k : okK h m s n) : 0 ≤ scK h m s ∧ scK h m s < 86400 := by unfold okK at k; unfold scK; omega
set_option maxHeartbeats 1600000 in
set_option maxRecDepth 100000 in
theorem rkSecs_any (h m s n : Int) (k : okK h m s n) (w : World) : Calls Tryd.prog 21 #[.agg #[.int .i64 h, .int .i64 m, .int .i64 s, .int .i64 n]] w fun e w' => e = .returned (.int .i64 (scK h m s)) ∧ Below w.heap.size w w' := by
  unfold okK at k
  obtain ⟨k1, k2, k3, k4, k5, k6, k7, k8⟩ := k
  have E : Hid (scK h m s = 3600 * h + 60 * m + s) := Lib.hid rfl
  go_enter Tryd.func21, Tryd.ntmps21
  go_wp2
  go_ret
  exact ⟨by rw [E.out]; try rfl, (Below.refl _ _).alloc (Nat.le_refl _) _⟩
set_option maxHeartbeats 1600000 in
set_option maxRecDepth 100000 in
theorem rkOfSecs_any (S n : Int) (h1 : 0 ≤ S) (h2 : S < 1000000) (w : World) : Calls Tryd.prog 24 #[.int .i64 S, .int .i64 n] w fun e w' => e = .returned (.agg #[.int .i64 (S / 3600), .int .i64 (S / 60 % 60), .int .i64 (S % 60), .int .i64 n]) ∧ Below w.heap.size w w' := by
  have g1 : 0 ≤ S / 60 := by omega
  go_enter Tryd.func24, Tryd.ntmps24
  refine wp_shut ?_
  go_wp2
  refine shut_ret (v := .agg #[.int .i64 (S / 3600), .int .i64 (S / 60 % 60), .int .i64 (S % 60), .int .i64 n]) (by simp [results, Tryd.results24, go_sem]) rfl ⟨rfl, ?_⟩
  go_grown
def nnK (h m s n : Int) : Int := if ckK h m s n = 0 then scK h m s * 1000000000 + n else 0
theorem nnK_ok {h m s n : Int} (k : ckK h m s n = 0) : nnK h m s n = scK h m s * 1000000000 + n := if_pos k
theorem nnK_no {h m s n : Int} (k : ckK h m s n ≠ 0) : nnK h m s n = 0 := if_neg k
set_option maxHeartbeats 3200000 in
set_option maxRecDepth 100000 in
theorem rkNanos_any (h m s n : Int) (w : World) : Calls Tryd.prog 9 #[.agg #[.int .i64 h, .int .i64 m, .int .i64 s, .int .i64 n]] w fun e w' => e = .returned (.tuple #[.int .i64 (nnK h m s n), .int .i64 (ckK h m s n)]) ∧ Below w.heap.size w w' := by
  have X1 := rkCheck_any h m s n
  by_cases hc : ckK h m s n = 0
  · have k := of_ckK hc
    have H2 := Lib.hid (rkSecs_any h m s n k)
    have b := scK_bd k
    rw [nnK_ok hc, hc]
    rw [hc] at X1
    have H1 := Lib.hid X1
    unfold okK at k
    obtain ⟨b1, b2⟩ := b
    have g1 : IntKind.i64.wrap (scK h m s * 1000000000) = scK h m s * 1000000000 := by rw [IntKind.wrap_i64]; omega
    have g2 : IntKind.i64.wrap (scK h m s * 1000000000 + n) = scK h m s * 1000000000 + n := by rw [IntKind.wrap_i64]; omega
    clear X1 hc k
    generalize scK h m s = S at *
    go_enter Tryd.func9, Tryd.ntmps9
    go_wp2_with fail
    
    refine (H1.out _).mono ?_
    rintro e V1 ⟨rfl, hb1⟩
    have B1 := Lib.hid (((Below.refl w.heap.size w).alloc (Nat.le_refl _) _).trans (hb1.mono (by first | assumption | (simp <;> omega) | (simp; done))))
    have A1 := Lib.hid (row_call hb1 (heap_alloc_new _ _))
    clear hb1
    have A1_0 : V1.cell? ⟨w.heap.size, 0, none⟩ = some (.int .i64 h) := cell_of_row _ _ _ _ _ _ A1.out
    have A1_1 : V1.cell? ⟨w.heap.size, 1, none⟩ = some (.int .i64 m) := cell_of_row _ _ _ _ _ _ A1.out
    have A1_2 : V1.cell? ⟨w.heap.size, 2, none⟩ = some (.int .i64 s) := cell_of_row _ _ _ _ _ _ A1.out
    have A1_3 : V1.cell? ⟨w.heap.size, 3, none⟩ = some (.int .i64 n) := cell_of_row _ _ _ _ _ _ A1.out
    have zA1 := lt_of_heap A1.out
    go_simp
    go_wp2_with fail
    clear A1_0 A1_1 A1_2 A1_3 zA1
    obtain ⟨W0, hW0⟩ : ∃ W0, W0 = V1 := ⟨_, rfl⟩
    replace A1 := Lib.hid (row_by hW0 A1.out)
    have HB0 := Lib.hid (below_by hW0 (B1.out))
    have HW0 := Lib.hid hW0
    clear hW0
    have A1_0 : W0.cell? ⟨w.heap.size, 0, none⟩ = some (.int .i64 h) := cell_of_row _ _ _ _ _ _ A1.out
    have A1_1 : W0.cell? ⟨w.heap.size, 1, none⟩ = some (.int .i64 m) := cell_of_row _ _ _ _ _ _ A1.out
    have A1_2 : W0.cell? ⟨w.heap.size, 2, none⟩ = some (.int .i64 s) := cell_of_row _ _ _ _ _ _ A1.out
    have A1_3 : W0.cell? ⟨w.heap.size, 3, none⟩ = some (.int .i64 n) := cell_of_row _ _ _ _ _ _ A1.out
    have zA1 := lt_of_heap A1.out
    try rw [← HW0.out]
    go_cut [2, 3] (fun s2 s3 wx => s2 = .int .i64 (S * 1000000000 + n) ∧ s3 = .int .i64 0 ∧ Below W0.heap.size W0 wx)
    case first =>
      go_region_held3 (fun w' => Below W0.heap.size W0 w' ∧ w'.cell? ⟨w.heap.size, 0, none⟩ = some (.int .i64 h) ∧ w'.cell? ⟨w.heap.size, 1, none⟩ = some (.int .i64 m) ∧ w'.cell? ⟨w.heap.size, 2, none⟩ = some (.int .i64 s) ∧ w'.cell? ⟨w.heap.size, 3, none⟩ = some (.int .i64 n))
    (first
      | ((try go_split_ands); refine ⟨(Below.refl _ _).drew, ?_, ?_, ?_, ?_⟩ <;> first | assumption | (rw [World.cell?_drew]; assumption))
      | ((try go_split_ands); refine ⟨keepS (W0 := W0) ?_ hb1, cellS (W0 := W0) ?_ hb1 ?_ ?_, cellS (W0 := W0) ?_ hb1 ?_ ?_, cellS (W0 := W0) ?_ hb1 ?_ ?_, cellS (W0 := W0) ?_ hb1 ?_ ?_⟩ <;> first | assumption | omega)
      | ((try go_split_ands); refine ⟨keepA (W0 := W0) ?_ _, cellA (W0 := W0) ?_ _ ?_ ?_, cellA (W0 := W0) ?_ _ ?_ ?_, cellA (W0 := W0) ?_ _ ?_ ?_, cellA (W0 := W0) ?_ _ ?_ ?_⟩ <;> first | assumption | omega)
      | ((try go_split_ands); refine ⟨keepAd (W0 := W0) ?_ _, cellAd (W0 := W0) ?_ _ ?_ ?_, cellAd (W0 := W0) ?_ _ ?_ ?_, cellAd (W0 := W0) ?_ _ ?_ ?_, cellAd (W0 := W0) ?_ _ ?_ ?_⟩ <;> first | assumption | omega | exact Below.refl _ _)
      | ((try go_split_ands); (with_reducible refine ⟨keep3 (W0 := W0) ?_ ?_ _ _ _, cell3 (W0 := W0) ?_ _ _ _ ?_ ?_, cell3 (W0 := W0) ?_ _ _ _ ?_ ?_, cell3 (W0 := W0) ?_ _ _ _ ?_ ?_, cell3 (W0 := W0) ?_ _ _ _ ?_ ?_⟩) <;> first | assumption | omega | exact Nat.le_refl _)
      | ((try go_split_ands); refine ⟨keep2 (W0 := W0) ?_ ?_ _ _, cell2 (W0 := W0) ?_ _ _ ?_ ?_, cell2 (W0 := W0) ?_ _ _ ?_ ?_, cell2 (W0 := W0) ?_ _ _ ?_ ?_, cell2 (W0 := W0) ?_ _ _ ?_ ?_⟩ <;> first | assumption | omega | exact Nat.le_refl _)
      | ((try go_split_ands); refine ⟨keepZ (W0 := W0) ?_ ?_ _, cellZ (W0 := W0) ?_ _ ?_ ?_, cellZ (W0 := W0) ?_ _ ?_ ?_, cellZ (W0 := W0) ?_ _ ?_ ?_, cellZ (W0 := W0) ?_ _ ?_ ?_⟩ <;> first | assumption | omega | exact Nat.le_refl _ | exact ⟨_, by assumption⟩))
    (first | (go_at_call 21; (with_reducible refine (H2.out _).mono ?_); rintro e w1 ⟨rfl, hb1⟩; (try go_split_ands); have hge : W0.heap.size ≤ w1.heap.size := (by first | (refine (keepS (W0 := W0) ?_ hb1).size; assumption) | exact (hb1.size : W0.heap.size ≤ w1.heap.size)); (try have hrow := row_call hb1 hrow); (try have hrow := row_new hb1); (try have hrow := row_newd hb1); have hl1 := lt_below hb1; obtain ⟨hc1, hf1⟩ := bcell hb1; (try (have hrc := row_cellA hrow; clear hc1 hf1)); (try have hrf := row_frozA hrow)))
      all_goals (try go_split_ands)
      all_goals (go_wp2_with fail; go_meet; refine ⟨rfl, rfl, ?_⟩)
      all_goals first | (with_reducible assumption) | (with_reducible exact heap_alloc_new _ _) | (with_reducible exact row_set3 (by assumption) _ _ _) | assumption | exact heap_alloc_new _ _ | exact row_set (by assumption) _ _
    case rest =>
      obtain ⟨rfl, rfl, hB⟩ := hcut
      obtain ⟨V2, rfl⟩ : ∃ V, V = wc := ⟨_, rfl⟩
      clear A1_0 A1_1 A1_2 A1_3 zA1
      replace A1 := Lib.hid (row_call hB A1.out)
      have B2 := Lib.hid (HB0.out.trans (hB.mono HB0.out.size))
      clear hB
      have A1_0 : V2.cell? ⟨w.heap.size, 0, none⟩ = some (.int .i64 h) := cell_of_row _ _ _ _ _ _ A1.out
      have A1_1 : V2.cell? ⟨w.heap.size, 1, none⟩ = some (.int .i64 m) := cell_of_row _ _ _ _ _ _ A1.out
      have A1_2 : V2.cell? ⟨w.heap.size, 2, none⟩ = some (.int .i64 s) := cell_of_row _ _ _ _ _ _ A1.out
      have A1_3 : V2.cell? ⟨w.heap.size, 3, none⟩ = some (.int .i64 n) := cell_of_row _ _ _ _ _ _ A1.out
      have zA1 := lt_of_heap A1.out
      go_wp2
      go_ret2
      exact ⟨rfl, B2.out⟩
  · rw [nnK_no hc]
    have H1 := Lib.hid X1
    clear X1
    generalize ckK h m s n = E at *
    have f1 : (E != 0) = true := by rw [bne_iff_ne]; exact hc
    go_enter Tryd.func9, Tryd.ntmps9
    go_wp2_with fail
    
    refine (H1.out _).mono ?_
    rintro e V1 ⟨rfl, hb1⟩
    have B1 := Lib.hid (((Below.refl w.heap.size w).alloc (Nat.le_refl _) _).trans (hb1.mono (by first | assumption | (simp <;> omega) | (simp; done))))
    have A1 := Lib.hid (row_call hb1 (heap_alloc_new _ _))
    clear hb1
    have A1_0 : V1.cell? ⟨w.heap.size, 0, none⟩ = some (.int .i64 h) := cell_of_row _ _ _ _ _ _ A1.out
    have A1_1 : V1.cell? ⟨w.heap.size, 1, none⟩ = some (.int .i64 m) := cell_of_row _ _ _ _ _ _ A1.out
    have A1_2 : V1.cell? ⟨w.heap.size, 2, none⟩ = some (.int .i64 s) := cell_of_row _ _ _ _ _ _ A1.out
    have A1_3 : V1.cell? ⟨w.heap.size, 3, none⟩ = some (.int .i64 n) := cell_of_row _ _ _ _ _ _ A1.out
    have zA1 := lt_of_heap A1.out
    go_simp
    go_wp2
    go_ret2
    exact ⟨rfl, B1.out⟩
set_option maxHeartbeats 1600000 in
set_option maxRecDepth 100000 in
theorem rkOf_no (n : Int) (h : n < 0 ∨ 86400000000000 ≤ n) (w : World) : Calls Tryd.prog 11 #[.int .i64 n] w fun e w' => e = .returned (.tuple #[.agg #[.int .i64 0, .int .i64 0, .int .i64 0, .int .i64 0], .int .i64 8]) ∧ Below w.heap.size w w' := by
  by_cases h1 : n < 0
  · go_enter Tryd.func11, Tryd.ntmps11
    refine wp_shut ?_
    go_wp2
    refine shut_ret (v := .tuple #[.agg #[.int .i64 0, .int .i64 0, .int .i64 0, .int .i64 0], .int .i64 8]) (by simp [results, Tryd.results11, go_sem]) rfl ⟨rfl, ?_⟩
    go_grown
  · have h2 : 86400000000000 ≤ n := by omega
    clear h
    go_enter Tryd.func11, Tryd.ntmps11
    refine wp_shut ?_
    go_wp2
    refine shut_ret (v := .tuple #[.agg #[.int .i64 0, .int .i64 0, .int .i64 0, .int .i64 0], .int .i64 8]) (by simp [results, Tryd.results11, go_sem]) rfl ⟨rfl, ?_⟩
    go_grown
/-- the time of so many nanoseconds. -/
def kH (n : Int) : Int := n / 1000000000 / 3600
def kM (n : Int) : Int := n / 1000000000 / 60 % 60
def kS (n : Int) : Int := n / 1000000000 % 60
def kN (n : Int) : Int := n % 1000000000
set_option maxHeartbeats 1600000 in
set_option maxRecDepth 100000 in
theorem rkOf_any (n : Int) (h1 : 0 ≤ n) (h2 : n < 86400000000000) (w : World) : Calls Tryd.prog 11 #[.int .i64 n] w fun e w' => e = .returned (.tuple #[.agg #[.int .i64 (kH n), .int .i64 (kM n), .int .i64 (kS n), .int .i64 (kN n)], .int .i64 0]) ∧ Below w.heap.size w w' := by
  have H1 : Hid (∀ w, Calls Tryd.prog 24 #[.int .i64 (n / 1000000000), .int .i64 (n % 1000000000)] w fun e w' => e = .returned (.agg #[.int .i64 (kH n), .int .i64 (kM n), .int .i64 (kS n), .int .i64 (kN n)]) ∧ Below w.heap.size w w') := Lib.hid (rkOfSecs_any (n / 1000000000) (n % 1000000000) (by omega) (by omega))
  have d1 : decide (n < 0) = false := decide_eq_false (by omega)
  have d2 : decide (86400000000000 ≤ n) = false := decide_eq_false (by omega)
  generalize kH n = a at *
  generalize kM n = b at *
  generalize kS n = c at *
  generalize kN n = d at *
  go_enter Tryd.func11, Tryd.ntmps11
  refine wp_shut ?_
  go_wp2_with fail
  
  refine (H1.out _).mono ?_
  rintro e V1 ⟨rfl, hb1⟩
  have B1 := Lib.hid (((Below.refl w.heap.size w).alloc (Nat.le_refl _) _).trans (hb1.mono (by first | assumption | (simp <;> omega) | (simp; done))))
  have Z1 := Lib.hid (row_call hb1 (heap_alloc_new _ _))
  clear hb1
  have Z1_0 : V1.cell? ⟨w.heap.size, 0, none⟩ = some (.int .i64 0) := cell_of_row _ _ _ _ _ _ Z1.out
  have Z1_1 : V1.cell? ⟨w.heap.size, 1, none⟩ = some (.int .i64 0) := cell_of_row _ _ _ _ _ _ Z1.out
  have Z1_2 : V1.cell? ⟨w.heap.size, 2, none⟩ = some (.int .i64 0) := cell_of_row _ _ _ _ _ _ Z1.out
  have Z1_3 : V1.cell? ⟨w.heap.size, 3, none⟩ = some (.int .i64 0) := cell_of_row _ _ _ _ _ _ Z1.out
  have Z1_f0 : V1.frozen? ⟨w.heap.size, 0, none⟩ = false := by simp [World.frozen?, Z1.out]
  have Z1_f1 : V1.frozen? ⟨w.heap.size, 1, none⟩ = false := by simp [World.frozen?, Z1.out]
  have Z1_f2 : V1.frozen? ⟨w.heap.size, 2, none⟩ = false := by simp [World.frozen?, Z1.out]
  have Z1_f3 : V1.frozen? ⟨w.heap.size, 3, none⟩ = false := by simp [World.frozen?, Z1.out]
  have zZ1 := lt_of_heap Z1.out
  go_simp
  go_wp2
  refine shut_ret (v := .tuple #[.agg #[.int .i64 a, .int .i64 b, .int .i64 c, .int .i64 d], .int .i64 0]) (by simp [results, Tryd.results11, go_sem, zZ1, Z1_0, Z1_1, Z1_2, Z1_3]) rfl ⟨rfl, ?_⟩
  exact keep4 B1.out (Nat.le_refl _) _ _ _ _
/-- an hour on a clock of 12. -/
def hfK (h : Int) : Int := if h % 12 = 0 then 12 else h % 12
set_option maxHeartbeats 1600000 in
set_option maxRecDepth 100000 in
theorem rkHalf_no (h m s n : Int) (hc : ckK h m s n ≠ 0) (w : World) : Calls Tryd.prog 13 #[.agg #[.int .i64 h, .int .i64 m, .int .i64 s, .int .i64 n]] w fun e w' => e = .returned (.tuple #[.int .i64 0, .bool false, .int .i64 (ckK h m s n)]) ∧ Below w.heap.size w w' := by
  have H1 := Lib.hid (rkCheck_any h m s n)
  generalize ckK h m s n = E at *
  have f1 : (E != 0) = true := by rw [bne_iff_ne]; exact hc
  go_enter Tryd.func13, Tryd.ntmps13
  refine wp_shut ?_
  go_wp2_with fail
  
  refine (H1.out _).mono ?_
  rintro e V1 ⟨rfl, hb1⟩
  have B1 := Lib.hid (((Below.refl w.heap.size w).alloc (Nat.le_refl _) _).trans (hb1.mono (by first | assumption | (simp <;> omega) | (simp; done))))
  have A1 := Lib.hid (row_call hb1 (heap_alloc_new _ _))
  clear hb1
  have A1_0 : V1.cell? ⟨w.heap.size, 0, none⟩ = some (.int .i64 h) := cell_of_row _ _ _ _ _ _ A1.out
  have A1_1 : V1.cell? ⟨w.heap.size, 1, none⟩ = some (.int .i64 m) := cell_of_row _ _ _ _ _ _ A1.out
  have A1_2 : V1.cell? ⟨w.heap.size, 2, none⟩ = some (.int .i64 s) := cell_of_row _ _ _ _ _ _ A1.out
  have A1_3 : V1.cell? ⟨w.heap.size, 3, none⟩ = some (.int .i64 n) := cell_of_row _ _ _ _ _ _ A1.out
  have zA1 := lt_of_heap A1.out
  go_simp
  go_wp2
  refine shut_ret (v := .tuple #[.int .i64 0, .bool false, .int .i64 E]) (by simp [results, Tryd.results13, go_sem]) rfl ⟨rfl, ?_⟩
  exact B1.out
set_option maxHeartbeats 1600000 in
set_option maxRecDepth 100000 in
theorem rkHalf_any (h m s n : Int) (hc : ckK h m s n = 0) (w : World) : Calls Tryd.prog 13 #[.agg #[.int .i64 h, .int .i64 m, .int .i64 s, .int .i64 n]] w fun e w' => e = .returned (.tuple #[.int .i64 (hfK h), .bool (decide (12 ≤ h)), .int .i64 0]) ∧ Below w.heap.size w w' := by
  have X1 := rkCheck_any h m s n
  have k := of_ckK hc
  unfold okK at k
  rw [hc] at X1
  have H1 := Lib.hid X1
  have k1 : 0 ≤ h := k.1
  clear X1 hc k
  by_cases h0 : h % 12 = 0
  · have E : Hid (hfK h = 12) := Lib.hid (if_pos h0)
    go_enter Tryd.func13, Tryd.ntmps13
    refine wp_shut ?_
    go_wp2_with fail
    
    refine (H1.out _).mono ?_
    rintro e V1 ⟨rfl, hb1⟩
    have B1 := Lib.hid (((Below.refl w.heap.size w).alloc (Nat.le_refl _) _).trans (hb1.mono (by first | assumption | (simp <;> omega) | (simp; done))))
    have A1 := Lib.hid (row_call hb1 (heap_alloc_new _ _))
    clear hb1
    have A1_0 : V1.cell? ⟨w.heap.size, 0, none⟩ = some (.int .i64 h) := cell_of_row _ _ _ _ _ _ A1.out
    have A1_1 : V1.cell? ⟨w.heap.size, 1, none⟩ = some (.int .i64 m) := cell_of_row _ _ _ _ _ _ A1.out
    have A1_2 : V1.cell? ⟨w.heap.size, 2, none⟩ = some (.int .i64 s) := cell_of_row _ _ _ _ _ _ A1.out
    have A1_3 : V1.cell? ⟨w.heap.size, 3, none⟩ = some (.int .i64 n) := cell_of_row _ _ _ _ _ _ A1.out
    have zA1 := lt_of_heap A1.out
    go_simp
    go_wp2
    go_region
    go_wp2
    refine shut_ret (v := .tuple #[.int .i64 12, .bool (decide (12 ≤ h)), .int .i64 0]) (by simp [results, Tryd.results13, go_sem]) rfl ⟨by rw [E.out], ?_⟩
    exact B1.out.drew
  · have E : Hid (hfK h = h % 12) := Lib.hid (if_neg h0)
    have f0 : (h % 12 == 0) = false := by rw [beq_eq_false_iff_ne]; exact h0
    go_enter Tryd.func13, Tryd.ntmps13
    refine wp_shut ?_
    go_wp2_with fail
    
    refine (H1.out _).mono ?_
    rintro e V1 ⟨rfl, hb1⟩
    have B1 := Lib.hid (((Below.refl w.heap.size w).alloc (Nat.le_refl _) _).trans (hb1.mono (by first | assumption | (simp <;> omega) | (simp; done))))
    have A1 := Lib.hid (row_call hb1 (heap_alloc_new _ _))
    clear hb1
    have A1_0 : V1.cell? ⟨w.heap.size, 0, none⟩ = some (.int .i64 h) := cell_of_row _ _ _ _ _ _ A1.out
    have A1_1 : V1.cell? ⟨w.heap.size, 1, none⟩ = some (.int .i64 m) := cell_of_row _ _ _ _ _ _ A1.out
    have A1_2 : V1.cell? ⟨w.heap.size, 2, none⟩ = some (.int .i64 s) := cell_of_row _ _ _ _ _ _ A1.out
    have A1_3 : V1.cell? ⟨w.heap.size, 3, none⟩ = some (.int .i64 n) := cell_of_row _ _ _ _ _ _ A1.out
    have zA1 := lt_of_heap A1.out
    go_simp
    go_wp2
    go_region
    go_wp2
    refine shut_ret (v := .tuple #[.int .i64 (h % 12), .bool (decide (12 ≤ h)), .int .i64 0]) (by simp [results, Tryd.results13, go_sem]) rfl ⟨by rw [E.out], ?_⟩
    exact B1.out.drew
end Go.Proofs.YtpkbcnofieinaaaDoor
