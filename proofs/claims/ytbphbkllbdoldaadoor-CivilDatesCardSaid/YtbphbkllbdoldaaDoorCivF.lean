/- The order of dates: the plain answer's walk, cmp.Or of three, package civil's. -/
import Derived.Test.YtbphbkllbdoldaaDoorCivE
import Derived.Test.YtbphbkllbdoldaaDoorInstF
import Derived.Test.YtbphbkllbdoldaaDoorRowS
namespace Go.Proofs.YtbphbkllbdoldaaDoor
set_option linter.unusedVariables false
set_option linter.unusedSimpArgs false
open Go.ChangeShapes Go.WideShapes Go.ChangeAt Go.RowKit

def or3 (x y z : Int) : Int := if x = 0 then (if y = 0 then z else y) else x
theorem or3_any (x y z : Int) (b : Nat) (w : World) (c0 : w.cell? ⟨b, 0, none⟩ = some (.int .i64 x)) (c1 : w.cell? ⟨b, 1, none⟩ = some (.int .i64 y)) (c2 : w.cell? ⟨b, 2, none⟩ = some (.int .i64 z)) :
    Calls Tryd.prog 33 #[.slice (some ⟨b, 0, none⟩) 3 3] w fun e w' => e = .returned (.int .i64 (or3 x y z)) ∧ Below w.heap.size w w' := by
  by_cases h1 : x = 0
  · subst h1
    by_cases h2 : y = 0
    · subst h2
      have E := Lib.hid (show or3 0 0 z = z from rfl)
      by_cases h3 : z = 0
      · subst h3
        go_enter Tryd.func33, Tryd.ntmps33
        go_wp2
        refine wp_loop_rounds 4 ?_
        rw [rounds_succ]
        go_wp2
        rw [rounds_succ]
        go_wp2
        rw [rounds_succ]
        go_wp2
        rw [rounds_succ]
        go_wp2
        go_ret
        exact ⟨by rw [E.out]; try rfl, Below.refl _ _⟩
      · have f3 : (z != 0) = true := by rw [bne_iff_ne]; exact h3
        clear h3
        go_enter Tryd.func33, Tryd.ntmps33
        go_wp2
        refine wp_loop_rounds 4 ?_
        rw [rounds_succ]
        go_wp2
        rw [rounds_succ]
        go_wp2
        rw [rounds_succ]
        go_wp2
        go_ret
        exact ⟨by rw [E.out]; try rfl, Below.refl _ _⟩
    · have E := Lib.hid (show or3 0 y z = y from by unfold or3; rw [if_pos rfl, if_neg h2])
      have f3 : (y != 0) = true := by rw [bne_iff_ne]; exact h2
      clear h2
      go_enter Tryd.func33, Tryd.ntmps33
      go_wp2
      refine wp_loop_rounds 4 ?_
      rw [rounds_succ]
      go_wp2
      rw [rounds_succ]
      go_wp2
      go_ret
      exact ⟨by rw [E.out]; try rfl, Below.refl _ _⟩
  · have E := Lib.hid (show or3 x y z = x from by unfold or3; exact if_neg h1)
    have f3 : (x != 0) = true := by rw [bne_iff_ne]; exact h1
    clear h1
    go_enter Tryd.func33, Tryd.ntmps33
    go_wp2
    refine wp_loop_rounds 4 ?_
    rw [rounds_succ]
    go_wp2
    go_ret
    exact ⟨by rw [E.out]; try rfl, Below.refl _ _⟩
theorem ordI_self (a : Int) : ordI a a = 0 := by unfold ordI; rw [if_neg (by omega), if_neg (by omega)]
theorem ordI_cases (a b : Int) : (a < b ∧ ordI a b = -1) ∨ (a = b ∧ ordI a b = 0) ∨ (b < a ∧ ordI a b = 1) := by
  unfold ordI; repeat' split
  all_goals omega
theorem ord_or3 (y m d y' m' d' : Int) : or3 (ordI y y') (ordI m m') (ordI d d') = ord3 y m d y' m' d' := by
  unfold or3 ord3
  rcases ordI_cases y y' with ⟨h, e⟩ | ⟨h, e⟩ | ⟨h, e⟩ <;> rcases ordI_cases m m' with ⟨h2, e2⟩ | ⟨h2, e2⟩ | ⟨h2, e2⟩ <;> rcases ordI_cases d d' with ⟨h3, e3⟩ | ⟨h3, e3⟩ | ⟨h3, e3⟩ <;> rw [e, e2, e3] <;> (repeat' split) <;> omega
set_option maxHeartbeats 3200000 in
set_option maxRecDepth 100000 in
theorem pCmp_any (y m d y' m' d' : Int) (w : World) :
    Calls Tryd.prog 25 #[.agg #[.int .i64 y, .int .i64 m, .int .i64 d], .agg #[.int .i64 y', .int .i64 m', .int .i64 d']] w fun e w' => e = .returned (.int .i64 (ord3 y m d y' m' d')) ∧ Below w.heap.size w w' := by
  have H1 := Lib.hid (ccmp_any y y')
  have H2 := Lib.hid (ccmp_any m m')
  have H3 := Lib.hid (ccmp_any d d')
  have X4 := or3_any (ordI y y') (ordI m m') (ordI d d')
  rw [ord_or3] at X4
  have H4 := Lib.hid X4
  clear X4
  generalize ord3 y m d y' m' d' = E at *
  generalize ordI y y' = c1 at *
  generalize ordI m m' = c2 at *
  generalize ordI d d' = c3 at *
  go_enter Tryd.func25, Tryd.ntmps25
  go_wp2_with fail
  
  obtain ⟨W0, hW0⟩ : ∃ W0, W0 = ((w.alloc (Obj.cells #[Value.int .i64 y, Value.int .i64 m, Value.int .i64 d] 27)).alloc (Obj.cells #[Value.int .i64 y', Value.int .i64 m', Value.int .i64 d'] 27)) := ⟨_, rfl⟩
  have A1 := Lib.hid (row_at (k' := w.heap.size) (by simp) (row_by hW0 (row_alloc (heap_alloc_new _ _) _)))
  have D1 := Lib.hid (row_at (k' := w.heap.size + 1) (by simp) (row_by hW0 (heap_alloc_new _ _)))
  have HB0 := Lib.hid (below_by hW0 (((Below.refl w.heap.size w).alloc (by simp <;> omega) _).alloc (by simp <;> omega) _))
  have HW0 := Lib.hid hW0
  clear hW0
  have A1_0 : W0.cell? ⟨w.heap.size, 0, none⟩ = some (.int .i64 y) := cell_of_row _ _ _ _ _ _ A1.out
  have A1_1 : W0.cell? ⟨w.heap.size, 1, none⟩ = some (.int .i64 m) := cell_of_row _ _ _ _ _ _ A1.out
  have A1_2 : W0.cell? ⟨w.heap.size, 2, none⟩ = some (.int .i64 d) := cell_of_row _ _ _ _ _ _ A1.out
  have zA1 := lt_of_heap A1.out
  have D1_0 : W0.cell? ⟨w.heap.size + 1, 0, none⟩ = some (.int .i64 y') := cell_of_row _ _ _ _ _ _ D1.out
  have D1_1 : W0.cell? ⟨w.heap.size + 1, 1, none⟩ = some (.int .i64 m') := cell_of_row _ _ _ _ _ _ D1.out
  have D1_2 : W0.cell? ⟨w.heap.size + 1, 2, none⟩ = some (.int .i64 d') := cell_of_row _ _ _ _ _ _ D1.out
  have zD1 := lt_of_heap D1.out
  try rw [← HW0.out]
  go_cut [4] (fun s4 wx => s4 = .int .i64 E ∧ Below W0.heap.size W0 wx)
  case first =>
    go_region_held3 (fun w' => Below W0.heap.size W0 w' ∧ w'.cell? ⟨w.heap.size, 0, none⟩ = some (.int .i64 y) ∧ w'.cell? ⟨w.heap.size, 1, none⟩ = some (.int .i64 m) ∧ w'.cell? ⟨w.heap.size, 2, none⟩ = some (.int .i64 d) ∧ w'.cell? ⟨w.heap.size + 1, 0, none⟩ = some (.int .i64 y') ∧ w'.cell? ⟨w.heap.size + 1, 1, none⟩ = some (.int .i64 m') ∧ w'.cell? ⟨w.heap.size + 1, 2, none⟩ = some (.int .i64 d'))
    (first
      | ((try go_split_ands); refine ⟨(Below.refl _ _).drew, ?_, ?_, ?_, ?_, ?_, ?_⟩ <;> first | assumption | (rw [World.cell?_drew]; assumption))
      | ((try go_split_ands); refine ⟨keepS (W0 := W0) ?_ hb1, cellS (W0 := W0) ?_ hb1 ?_ ?_, cellS (W0 := W0) ?_ hb1 ?_ ?_, cellS (W0 := W0) ?_ hb1 ?_ ?_, cellS (W0 := W0) ?_ hb1 ?_ ?_, cellS (W0 := W0) ?_ hb1 ?_ ?_, cellS (W0 := W0) ?_ hb1 ?_ ?_⟩ <;> first | assumption | omega)
      | ((try go_split_ands); refine ⟨keepA (W0 := W0) ?_ _, cellA (W0 := W0) ?_ _ ?_ ?_, cellA (W0 := W0) ?_ _ ?_ ?_, cellA (W0 := W0) ?_ _ ?_ ?_, cellA (W0 := W0) ?_ _ ?_ ?_, cellA (W0 := W0) ?_ _ ?_ ?_, cellA (W0 := W0) ?_ _ ?_ ?_⟩ <;> first | assumption | omega)
      | ((try go_split_ands); refine ⟨keepAd (W0 := W0) ?_ _, cellAd (W0 := W0) ?_ _ ?_ ?_, cellAd (W0 := W0) ?_ _ ?_ ?_, cellAd (W0 := W0) ?_ _ ?_ ?_, cellAd (W0 := W0) ?_ _ ?_ ?_, cellAd (W0 := W0) ?_ _ ?_ ?_, cellAd (W0 := W0) ?_ _ ?_ ?_⟩ <;> first | assumption | omega | exact Below.refl _ _)
      | ((try go_split_ands); refine ⟨keep2 (W0 := W0) ?_ ?_ _ _, cell2 (W0 := W0) ?_ _ _ ?_ ?_, cell2 (W0 := W0) ?_ _ _ ?_ ?_, cell2 (W0 := W0) ?_ _ _ ?_ ?_, cell2 (W0 := W0) ?_ _ _ ?_ ?_, cell2 (W0 := W0) ?_ _ _ ?_ ?_, cell2 (W0 := W0) ?_ _ _ ?_ ?_⟩ <;> first | assumption | omega | exact Nat.le_refl _)
      | ((try go_split_ands); refine ⟨keepZ (W0 := W0) ?_ ?_ _, cellZ (W0 := W0) ?_ _ ?_ ?_, cellZ (W0 := W0) ?_ _ ?_ ?_, cellZ (W0 := W0) ?_ _ ?_ ?_, cellZ (W0 := W0) ?_ _ ?_ ?_, cellZ (W0 := W0) ?_ _ ?_ ?_, cellZ (W0 := W0) ?_ _ ?_ ?_⟩ <;> first | assumption | omega | exact Nat.le_refl _ | exact ⟨_, by assumption⟩))
    (first | (go_at_call 34; (with_reducible refine (H1.out _).mono ?_); rintro e w1 ⟨rfl, hb1⟩; (try go_split_ands); have hge : W0.heap.size ≤ w1.heap.size := (by first | (refine (keepS (W0 := W0) ?_ hb1).size; assumption) | exact (hb1.size : W0.heap.size ≤ w1.heap.size)); (try have hrow := row_call hb1 hrow); (try have hrow := row_new hb1); (try have hrow := row_newd hb1); have hl1 := lt_below hb1; obtain ⟨hc1, hf1⟩ := bcell hb1; (try (have hrc := row_cellA hrow; clear hc1 hf1)); (try have hrf := row_frozA hrow)) | (go_at_call 34; (with_reducible refine (H2.out _).mono ?_); rintro e w1 ⟨rfl, hb1⟩; (try go_split_ands); have hge : W0.heap.size ≤ w1.heap.size := (by first | (refine (keepS (W0 := W0) ?_ hb1).size; assumption) | exact (hb1.size : W0.heap.size ≤ w1.heap.size)); (try have hrow := row_call hb1 hrow); (try have hrow := row_new hb1); (try have hrow := row_newd hb1); have hl1 := lt_below hb1; obtain ⟨hc1, hf1⟩ := bcell hb1; (try (have hrc := row_cellA hrow; clear hc1 hf1)); (try have hrf := row_frozA hrow)) | (go_at_call 34; (with_reducible refine (H3.out _).mono ?_); rintro e w1 ⟨rfl, hb1⟩; (try go_split_ands); have hge : W0.heap.size ≤ w1.heap.size := (by first | (refine (keepS (W0 := W0) ?_ hb1).size; assumption) | exact (hb1.size : W0.heap.size ≤ w1.heap.size)); (try have hrow := row_call hb1 hrow); (try have hrow := row_new hb1); (try have hrow := row_newd hb1); have hl1 := lt_below hb1; obtain ⟨hc1, hf1⟩ := bcell hb1; (try (have hrc := row_cellA hrow; clear hc1 hf1)); (try have hrf := row_frozA hrow)) | (go_at_call 33; refine (H4.out _ _ (by simp [go_sem]) (by simp [go_sem]) (by simp [go_sem])).mono ?_; rintro e w1 ⟨rfl, hb1⟩; (try go_split_ands); have hge : W0.heap.size ≤ w1.heap.size := (by first | (refine (keepS (W0 := W0) ?_ hb1).size; assumption) | exact (hb1.size : W0.heap.size ≤ w1.heap.size)); (try have hrow := row_call hb1 hrow); (try have hrow := row_new hb1); (try have hrow := row_newd hb1); have hl1 := lt_below hb1; obtain ⟨hc1, hf1⟩ := bcell hb1; (try (have hrc := row_cellA hrow; clear hc1 hf1)); (try have hrf := row_frozA hrow)))
    all_goals (try go_split_ands)
    all_goals (go_wp2_with fail; go_meet; refine ⟨rfl, ?_⟩)
    all_goals first | assumption | exact heap_alloc_new _ _ | exact row_set (by assumption) _ _
  case rest =>
    obtain ⟨rfl, hB⟩ := hcut
    obtain ⟨V1, rfl⟩ : ∃ V, V = wc := ⟨_, rfl⟩
    clear A1_0 A1_1 A1_2 zA1 D1_0 D1_1 D1_2 zD1
    replace A1 := Lib.hid (row_call hB A1.out)
    replace D1 := Lib.hid (row_call hB D1.out)
    have B1 := Lib.hid (HB0.out.trans (hB.mono HB0.out.size))
    clear hB
    have A1_0 : V1.cell? ⟨w.heap.size, 0, none⟩ = some (.int .i64 y) := cell_of_row _ _ _ _ _ _ A1.out
    have A1_1 : V1.cell? ⟨w.heap.size, 1, none⟩ = some (.int .i64 m) := cell_of_row _ _ _ _ _ _ A1.out
    have A1_2 : V1.cell? ⟨w.heap.size, 2, none⟩ = some (.int .i64 d) := cell_of_row _ _ _ _ _ _ A1.out
    have zA1 := lt_of_heap A1.out
    have D1_0 : V1.cell? ⟨w.heap.size + 1, 0, none⟩ = some (.int .i64 y') := cell_of_row _ _ _ _ _ _ D1.out
    have D1_1 : V1.cell? ⟨w.heap.size + 1, 1, none⟩ = some (.int .i64 m') := cell_of_row _ _ _ _ _ _ D1.out
    have D1_2 : V1.cell? ⟨w.heap.size + 1, 2, none⟩ = some (.int .i64 d') := cell_of_row _ _ _ _ _ _ D1.out
    have zD1 := lt_of_heap D1.out
    go_wp2
    go_ret
    exact ⟨rfl, B1.out⟩
theorem cells33 {W0 w' : World} {b k : Nat} {v0 v1 v2 u0 u1 u2 : Value} (K : Below W0.heap.size W0 w') (hb : b < W0.heap.size) (hk : k < W0.heap.size)
    (c0 : W0.cell? ⟨b, 0, none⟩ = some v0) (c1 : W0.cell? ⟨b, 1, none⟩ = some v1) (c2 : W0.cell? ⟨b, 2, none⟩ = some v2) (d0 : W0.cell? ⟨k, 0, none⟩ = some u0) (d1 : W0.cell? ⟨k, 1, none⟩ = some u1) (d2 : W0.cell? ⟨k, 2, none⟩ = some u2) :
    Below W0.heap.size W0 w' ∧ w'.cell? ⟨b, 0, none⟩ = some v0 ∧ w'.cell? ⟨b, 1, none⟩ = some v1 ∧ w'.cell? ⟨b, 2, none⟩ = some v2 ∧ w'.cell? ⟨k, 0, none⟩ = some u0 ∧ w'.cell? ⟨k, 1, none⟩ = some u1 ∧ w'.cell? ⟨k, 2, none⟩ = some u2 :=
  ⟨K, (K.cell (p := ⟨b, 0, none⟩) hb).trans c0, (K.cell (p := ⟨b, 1, none⟩) hb).trans c1, (K.cell (p := ⟨b, 2, none⟩) hb).trans c2, (K.cell (p := ⟨k, 0, none⟩) hk).trans d0, (K.cell (p := ⟨k, 1, none⟩) hk).trans d1, (K.cell (p := ⟨k, 2, none⟩) hk).trans d2⟩
set_option maxHeartbeats 3200000 in
set_option maxRecDepth 100000 in
theorem rCmp6_any (y m d y' m' d' : Int) (w : World) :
    Calls Tryd.prog 26 #[.agg #[.int .i64 y, .int .i64 m, .int .i64 d], .agg #[.int .i64 y', .int .i64 m', .int .i64 d']] w fun e w' => e = .returned (.int .i64 (ord3 y m d y' m' d')) ∧ Below w.heap.size w w' := by
  go_enter Tryd.func26, Tryd.ntmps26
  go_wp2_with fail
  
  obtain ⟨W0, hW0⟩ : ∃ W0, W0 = ((w.alloc (Obj.cells #[Value.int .i64 y, Value.int .i64 m, Value.int .i64 d] 27)).alloc (Obj.cells #[Value.int .i64 y', Value.int .i64 m', Value.int .i64 d'] 27)) := ⟨_, rfl⟩
  have A1 := Lib.hid (row_at (k' := w.heap.size) (by simp) (row_by hW0 (row_alloc (heap_alloc_new _ _) _)))
  have D1 := Lib.hid (row_at (k' := w.heap.size + 1) (by simp) (row_by hW0 (heap_alloc_new _ _)))
  have HB0 := Lib.hid (below_by hW0 (((Below.refl w.heap.size w).alloc (by simp <;> omega) _).alloc (by simp <;> omega) _))
  have HW0 := Lib.hid hW0
  clear hW0
  have A1_0 : W0.cell? ⟨w.heap.size, 0, none⟩ = some (.int .i64 y) := cell_of_row _ _ _ _ _ _ A1.out
  have A1_1 : W0.cell? ⟨w.heap.size, 1, none⟩ = some (.int .i64 m) := cell_of_row _ _ _ _ _ _ A1.out
  have A1_2 : W0.cell? ⟨w.heap.size, 2, none⟩ = some (.int .i64 d) := cell_of_row _ _ _ _ _ _ A1.out
  have zA1 := lt_of_heap A1.out
  have D1_0 : W0.cell? ⟨w.heap.size + 1, 0, none⟩ = some (.int .i64 y') := cell_of_row _ _ _ _ _ _ D1.out
  have D1_1 : W0.cell? ⟨w.heap.size + 1, 1, none⟩ = some (.int .i64 m') := cell_of_row _ _ _ _ _ _ D1.out
  have D1_2 : W0.cell? ⟨w.heap.size + 1, 2, none⟩ = some (.int .i64 d') := cell_of_row _ _ _ _ _ _ D1.out
  have zD1 := lt_of_heap D1.out
  try rw [← HW0.out]
  go_cut [5, 6] (fun p q wx => ∃ b1 b2 : Nat, p = .pointer (some ⟨b1, 0, none⟩) ∧ q = .pointer (some ⟨b2, 0, none⟩) ∧ wx.heap[b1]? = some (.cells #[.int .i64 y, .int .i64 m, .int .i64 d] 48 (0, 0)) ∧ wx.heap[b2]? = some (.cells #[.int .i64 y', .int .i64 m', .int .i64 d'] 48 (0, 0)) ∧ Below W0.heap.size W0 wx)
  case first =>
    go_region_held3 (fun w' => Below W0.heap.size W0 w' ∧ w'.cell? ⟨w.heap.size, 0, none⟩ = some (.int .i64 y) ∧ w'.cell? ⟨w.heap.size, 1, none⟩ = some (.int .i64 m) ∧ w'.cell? ⟨w.heap.size, 2, none⟩ = some (.int .i64 d) ∧ w'.cell? ⟨w.heap.size + 1, 0, none⟩ = some (.int .i64 y') ∧ w'.cell? ⟨w.heap.size + 1, 1, none⟩ = some (.int .i64 m') ∧ w'.cell? ⟨w.heap.size + 1, 2, none⟩ = some (.int .i64 d'))
      (first
      | exact cells33 (Below.refl _ _).drew zA1 zD1 A1_0 A1_1 A1_2 D1_0 D1_1 D1_2
      | exact cells33 (keepA (Below.refl _ _) _).drew zA1 zD1 A1_0 A1_1 A1_2 D1_0 D1_1 D1_2
      | exact cells33 (keepA (keepA (Below.refl _ _) _) _).drew zA1 zD1 A1_0 A1_1 A1_2 D1_0 D1_1 D1_2)
      (fail)
    all_goals (go_wp2_with fail; go_meet; refine ⟨_, _, rfl, rfl, ?_, ?_, ?_⟩)
    all_goals first | exact row_alloc (heap_alloc_new _ _) _ | exact heap_alloc_new _ _ | exact row_at (by simp) (heap_alloc_new _ _) | exact (keepA (keepA (Below.refl _ _) _) _).drew
  case rest =>
    obtain ⟨b1, b2, rfl, rfl, hX, hY, hB⟩ := hcut
    have BW := Lib.hid (HB0.out.trans (hB.mono HB0.out.size))
    have x0 : wc.cell? ⟨b1, 0, none⟩ = some (.int .i64 y) := cell_of_row _ _ _ _ _ _ hX
    have x1 : wc.cell? ⟨b1, 1, none⟩ = some (.int .i64 m) := cell_of_row _ _ _ _ _ _ hX
    have x2 : wc.cell? ⟨b1, 2, none⟩ = some (.int .i64 d) := cell_of_row _ _ _ _ _ _ hX
    have y0 : wc.cell? ⟨b2, 0, none⟩ = some (.int .i64 y') := cell_of_row _ _ _ _ _ _ hY
    have y1 : wc.cell? ⟨b2, 1, none⟩ = some (.int .i64 m') := cell_of_row _ _ _ _ _ _ hY
    have y2 : wc.cell? ⟨b2, 2, none⟩ = some (.int .i64 d') := cell_of_row _ _ _ _ _ _ hY
    have K : (y < y' ∧ ord3 y m d y' m' d' = -1) ∨ (y' < y ∧ ord3 y m d y' m' d' = 1) ∨ (y = y' ∧ ((m < m' ∧ ord3 y m d y' m' d' = -1) ∨ (m' < m ∧ ord3 y m d y' m' d' = 1) ∨ (m = m' ∧ ((d < d' ∧ ord3 y m d y' m' d' = -1) ∨ (d' < d ∧ ord3 y m d y' m' d' = 1) ∨ (d = d' ∧ ord3 y m d y' m' d' = 0))))) := by
      unfold ord3; repeat' split
      all_goals omega
    clear hX hY hB HB0 HW0 A1 D1 A1_0 A1_1 A1_2 D1_0 D1_1 D1_2 zA1 zD1
    rcases K with ⟨h, E⟩ | ⟨h, E⟩ | ⟨rfl, K⟩
    · replace E := Lib.hid E
      go_wp2
      refine wp_loop_rounds 4 ?_
      rw [rounds_succ]
      go_wp2
      go_region
      go_wp2
      go_ret
      exact ⟨by rw [E.out]; try rfl, by repeat (first | exact BW.out | refine Below.drew ?_)⟩
    · replace E := Lib.hid E
      have h2 : ¬ y < y' := by omega
      go_wp2
      refine wp_loop_rounds 4 ?_
      rw [rounds_succ]
      go_wp2
      go_region
      go_wp2
      go_region
      go_wp2
      go_ret
      exact ⟨by rw [E.out]; try rfl, by repeat (first | exact BW.out | refine Below.drew ?_)⟩
    · rcases K with ⟨h, E⟩ | ⟨h, E⟩ | ⟨rfl, K⟩
      · replace E := Lib.hid E
        go_wp2
        refine wp_loop_rounds 4 ?_
        rw [rounds_succ]
        go_wp2
        go_region
        go_wp2
        go_region
        go_wp2
        rw [rounds_succ]
        go_wp2
        go_region
        go_wp2
        go_ret
        exact ⟨by rw [E.out]; try rfl, by repeat (first | exact BW.out | refine Below.drew ?_)⟩
      · replace E := Lib.hid E
        have h2 : ¬ m < m' := by omega
        go_wp2
        refine wp_loop_rounds 4 ?_
        rw [rounds_succ]
        go_wp2
        go_region
        go_wp2
        go_region
        go_wp2
        rw [rounds_succ]
        go_wp2
        go_region
        go_wp2
        go_region
        go_wp2
        go_ret
        exact ⟨by rw [E.out]; try rfl, by repeat (first | exact BW.out | refine Below.drew ?_)⟩
      · rcases K with ⟨h, E⟩ | ⟨h, E⟩ | ⟨rfl, E⟩
        · replace E := Lib.hid E
          go_wp2
          refine wp_loop_rounds 4 ?_
          rw [rounds_succ]
          go_wp2
          go_region
          go_wp2
          go_region
          go_wp2
          rw [rounds_succ]
          go_wp2
          go_region
          go_wp2
          go_region
          go_wp2
          rw [rounds_succ]
          go_wp2
          go_region
          go_wp2
          go_ret
          exact ⟨by rw [E.out]; try rfl, by repeat (first | exact BW.out | refine Below.drew ?_)⟩
        · replace E := Lib.hid E
          have h2 : ¬ d < d' := by omega
          go_wp2
          refine wp_loop_rounds 4 ?_
          rw [rounds_succ]
          go_wp2
          go_region
          go_wp2
          go_region
          go_wp2
          rw [rounds_succ]
          go_wp2
          go_region
          go_wp2
          go_region
          go_wp2
          rw [rounds_succ]
          go_wp2
          go_region
          go_wp2
          go_region
          go_wp2
          go_ret
          exact ⟨by rw [E.out]; try rfl, by repeat (first | exact BW.out | refine Below.drew ?_)⟩
        · replace E := Lib.hid E
          go_wp2
          refine wp_loop_rounds 4 ?_
          rw [rounds_succ]
          go_wp2
          go_region
          go_wp2
          go_region
          go_wp2
          rw [rounds_succ]
          go_wp2
          go_region
          go_wp2
          go_region
          go_wp2
          rw [rounds_succ]
          go_wp2
          go_region
          go_wp2
          go_region
          go_wp2
          rw [rounds_succ]
          go_wp2
          go_ret
          exact ⟨by rw [E.out]; try rfl, by repeat (first | exact BW.out | refine Below.drew ?_)⟩
end Go.Proofs.YtbphbkllbdoldaaDoor
