/- Several texts in one: CivI, CivJ, CivN, CivM. -/
import Derived.Test.YtaoljjhhbmblhaaDoorZCiv1
import Derived.Test.YtaoljjhhbmblhaaDoorZWk1
import Derived.Test.YtaoljjhhbmblhaaDoorRows
import Derived.Lib.LaidTab
import Derived.LaidMore
import Derived.MakeChecks
import Derived.Stop.Joined
namespace Go.Proofs.YtaoljjhhbmblhaaDoor
set_option linter.unusedVariables false
set_option linter.unusedSimpArgs false
open Go.ChangeShapes Go.WideShapes Go.ChangeAt Go.RowKit
structure Stops (y n : Int) (K : Nat) : Prop where
  top : K ≤ 11
  on : ∀ j : Nat, j < K → mdI y ((j : Int) + 1) < n - cmN y j
  off : K = 11 ∨ n - cmN y K ≤ mdI y ((K : Int) + 1)
structure OoR (w : World) (a b c : Int) (wr : World) : Prop where
  fz : wr.heap[w.heap.size]? = some (.cells #[.int .i64 0, .int .i64 0, .int .i64 0] 23)
  fd : wr.heap[w.heap.size + 1]? = some (.cells #[.int .i64 a, .int .i64 b, .int .i64 c] 23)
  fb : Below w.heap.size w wr
def ooM (b : Nat) (wr : World) : Nat := (12 - intOf ((wr.cell? ⟨b, 1, none⟩).getD undef)).toNat
theorem ooM_eq {b : Nat} {wr : World} {a x c : Int} (h : wr.heap[b]? = some (.cells #[.int .i64 a, .int .i64 x, .int .i64 c] 23)) : ooM b wr = (12 - x).toNat := by
  unfold ooM
  have e : wr.cell? ⟨b, 1, none⟩ = some (.int .i64 x) := cell_of_row _ _ _ _ _ _ h
  rw [e]; rfl
set_option maxHeartbeats 6400000 in
set_option maxRecDepth 100000 in
theorem pOo_ok (y n : Int) (K : Nat) (hs : Stops y n K) (b1 : -9223372036854775808 ≤ n) (b2 : n < 9223372036854775808) (hc : ckC y ((K : Int) + 1) (n - cmN y K) = 0) (w : World) (hM : MD w) :
    Calls Tryd.prog 77 #[.int .i64 y, .int .i64 n] w fun e w' => e = .returned (.tuple #[.agg #[.int .i64 y, .int .i64 ((K : Int) + 1), .int .i64 (n - cmN y K)], .int .i64 0]) ∧ Below w.heap.size w w' := by
  replace hM := Lib.hid hM
  have X9 := pCheck_any y ((K : Int) + 1) (n - cmN y K)
  have HMD := Lib.hid (fun t w h => grow_of (pMonthDays_p y t w h))
  rw [hc] at X9
  have H9 := Lib.hid X9
  clear X9 hc
  have t11 := hs.top
  go_enter Tryd.func77, Tryd.ntmps77
  refine wp_shut ?_
  go_wp2_with fail
  
  obtain ⟨W0, hW0⟩ : ∃ W0, W0 = ((w.alloc (Obj.cells #[Value.int .i64 0, Value.int .i64 0, Value.int .i64 0] 23)).alloc (Obj.cells #[Value.int .i64 y, Value.int .i64 1, Value.int .i64 n] 23)) := ⟨_, rfl⟩
  have Z1 := Lib.hid (row_at (k' := w.heap.size) (by simp) (row_by hW0 (row_alloc (heap_alloc_new _ _) _)))
  have D1 := Lib.hid (row_at (k' := w.heap.size + 1) (by simp) (row_by hW0 (heap_alloc_new _ _)))
  have HB0 := Lib.hid (below_by hW0 (((Below.refl w.heap.size w).alloc (by simp <;> omega) _).alloc (by simp <;> omega) _))
  have HW0 := Lib.hid hW0
  clear hW0
  have Z1_0 : W0.cell? ⟨w.heap.size, 0, none⟩ = some (.int .i64 0) := cell_of_row _ _ _ _ _ _ Z1.out
  have Z1_1 : W0.cell? ⟨w.heap.size, 1, none⟩ = some (.int .i64 0) := cell_of_row _ _ _ _ _ _ Z1.out
  have Z1_2 : W0.cell? ⟨w.heap.size, 2, none⟩ = some (.int .i64 0) := cell_of_row _ _ _ _ _ _ Z1.out
  have Z1_f0 : W0.frozen? ⟨w.heap.size, 0, none⟩ = false := (by simp [World.frozen?, Z1.out])
  have Z1_f1 : W0.frozen? ⟨w.heap.size, 1, none⟩ = false := (by simp [World.frozen?, Z1.out])
  have Z1_f2 : W0.frozen? ⟨w.heap.size, 2, none⟩ = false := (by simp [World.frozen?, Z1.out])
  have zZ1 := lt_of_heap Z1.out
  have D1_0 : W0.cell? ⟨w.heap.size + 1, 0, none⟩ = some (.int .i64 y) := cell_of_row _ _ _ _ _ _ D1.out
  have D1_1 : W0.cell? ⟨w.heap.size + 1, 1, none⟩ = some (.int .i64 1) := cell_of_row _ _ _ _ _ _ D1.out
  have D1_2 : W0.cell? ⟨w.heap.size + 1, 2, none⟩ = some (.int .i64 n) := cell_of_row _ _ _ _ _ _ D1.out
  have D1_f0 : W0.frozen? ⟨w.heap.size + 1, 0, none⟩ = false := (by simp [World.frozen?, D1.out])
  have D1_f1 : W0.frozen? ⟨w.heap.size + 1, 1, none⟩ = false := (by simp [World.frozen?, D1.out])
  have D1_f2 : W0.frozen? ⟨w.heap.size + 1, 2, none⟩ = false := (by simp [World.frozen?, D1.out])
  have zD1 := lt_of_heap D1.out
  try rw [← HW0.out]
  have HR : Hid (OoR w y 1 n W0) := Lib.hid ⟨Z1.out, D1.out, HB0.out⟩
  clear HW0 Z1_0 Z1_1 Z1_2 zZ1 D1_0 D1_1 D1_2 D1_f0 D1_f1 D1_f2 zD1 Z1 D1 HB0
  go_loopw [] (fun wr => ∃ k : Nat, k ≤ K ∧ OoR w y ((k : Int) + 1) (n - cmN y k) wr) (fun wr => ooM (w.heap.size + 1) wr)
  case atStart => exact ⟨0, Nat.zero_le _, by rw [show n - cmN y 0 = n from Int.sub_zero n]; exact HR.out⟩
  case round =>
    obtain ⟨k, hk, hX⟩ := hrel
    clear HR
    obtain ⟨V20, rfl⟩ : ∃ V, V = wr := ⟨_, rfl⟩
    have Z1 := Lib.hid hX.fz
    have D1 := Lib.hid hX.fd
    have B20 := Lib.hid hX.fb
    have hm0 := Lib.hid (ooM_eq hX.fd)
    clear hX
    have c1 := cmN_bd y k
    have c2 := mdI_le y ((k : Int) + 1)
    have c3 : Hid (cmN y (k + 1) = cmN y k + mdI y ((k : Int) + 1)) := Lib.hid rfl
    have H1 := Lib.hid (HMD.out ((k : Int) + 1))
    have neZD : ¬ (w.heap.size = w.heap.size + 1) := by omega
    have neDZ : ¬ (w.heap.size + 1 = w.heap.size) := by omega
    have hk12 : (k : Int) ≤ 12 := by omega
    clear HMD
    by_cases hlt : k < K
    · have on := hs.on k hlt
      have k11 : (k : Int) + 1 < 12 := by omega
      have d28 := mdI_ge y ((k : Int) + 1) ⟨by omega, by omega⟩
      have hD1 : Hid (n - cmN y (k + 1) = n - cmN y k - mdI y ((k : Int) + 1)) := Lib.hid (by rw [c3.out]; omega)
      have bD : n - cmN y k < 9223372036854775808 := by omega
      clear c3 hs H9 c1
      generalize mdI y ((k : Int) + 1) = M at *
      generalize n - cmN y k = D at *
      clear b1 b2
      
      have Z1_f0 : V20.frozen? ⟨w.heap.size, 0, none⟩ = false := by simp [World.frozen?, Z1.out]
      have Z1_f1 : V20.frozen? ⟨w.heap.size, 1, none⟩ = false := by simp [World.frozen?, Z1.out]
      have Z1_f2 : V20.frozen? ⟨w.heap.size, 2, none⟩ = false := by simp [World.frozen?, Z1.out]
      have Z1_0 : V20.cell? ⟨w.heap.size, 0, none⟩ = some (.int .i64 0) := cell_of_row _ _ _ _ _ _ Z1.out
      have Z1_1 : V20.cell? ⟨w.heap.size, 1, none⟩ = some (.int .i64 0) := cell_of_row _ _ _ _ _ _ Z1.out
      have Z1_2 : V20.cell? ⟨w.heap.size, 2, none⟩ = some (.int .i64 0) := cell_of_row _ _ _ _ _ _ Z1.out
      have zZ1 := lt_of_heap Z1.out
      have D1_f0 : V20.frozen? ⟨w.heap.size + 1, 0, none⟩ = false := by simp [World.frozen?, D1.out]
      have D1_f1 : V20.frozen? ⟨w.heap.size + 1, 1, none⟩ = false := by simp [World.frozen?, D1.out]
      have D1_f2 : V20.frozen? ⟨w.heap.size + 1, 2, none⟩ = false := by simp [World.frozen?, D1.out]
      have D1_0 : V20.cell? ⟨w.heap.size + 1, 0, none⟩ = some (.int .i64 y) := cell_of_row _ _ _ _ _ _ D1.out
      have D1_1 : V20.cell? ⟨w.heap.size + 1, 1, none⟩ = some (.int .i64 ((k : Int) + 1)) := cell_of_row _ _ _ _ _ _ D1.out
      have D1_2 : V20.cell? ⟨w.heap.size + 1, 2, none⟩ = some (.int .i64 D) := cell_of_row _ _ _ _ _ _ D1.out
      have zD1 := lt_of_heap D1.out
      go_wp2_with fail
      clear Z1_f0 Z1_f1 Z1_f2 Z1_0 Z1_1 Z1_2 zZ1 D1_f0 D1_f1 D1_f2 D1_0 D1_1 D1_2 zD1
      obtain ⟨W0, hW0⟩ : ∃ W0, W0 = V20 := ⟨_, rfl⟩
      replace Z1 := Lib.hid (row_by hW0 Z1.out)
      replace D1 := Lib.hid (row_by hW0 D1.out)
      have HB0 := Lib.hid (below_by hW0 (B20.out))
      have HW0 := Lib.hid hW0
      clear hW0
      have Z1_0 : W0.cell? ⟨w.heap.size, 0, none⟩ = some (.int .i64 0) := cell_of_row _ _ _ _ _ _ Z1.out
      have Z1_1 : W0.cell? ⟨w.heap.size, 1, none⟩ = some (.int .i64 0) := cell_of_row _ _ _ _ _ _ Z1.out
      have Z1_2 : W0.cell? ⟨w.heap.size, 2, none⟩ = some (.int .i64 0) := cell_of_row _ _ _ _ _ _ Z1.out
      have Z1_f0 : W0.frozen? ⟨w.heap.size, 0, none⟩ = false := (by simp [World.frozen?, Z1.out])
      have Z1_f1 : W0.frozen? ⟨w.heap.size, 1, none⟩ = false := (by simp [World.frozen?, Z1.out])
      have Z1_f2 : W0.frozen? ⟨w.heap.size, 2, none⟩ = false := (by simp [World.frozen?, Z1.out])
      have zZ1 := lt_of_heap Z1.out
      have D1_0 : W0.cell? ⟨w.heap.size + 1, 0, none⟩ = some (.int .i64 y) := cell_of_row _ _ _ _ _ _ D1.out
      have D1_1 : W0.cell? ⟨w.heap.size + 1, 1, none⟩ = some (.int .i64 ((k : Int) + 1)) := cell_of_row _ _ _ _ _ _ D1.out
      have D1_2 : W0.cell? ⟨w.heap.size + 1, 2, none⟩ = some (.int .i64 D) := cell_of_row _ _ _ _ _ _ D1.out
      have D1_f0 : W0.frozen? ⟨w.heap.size + 1, 0, none⟩ = false := (by simp [World.frozen?, D1.out])
      have D1_f1 : W0.frozen? ⟨w.heap.size + 1, 1, none⟩ = false := (by simp [World.frozen?, D1.out])
      have D1_f2 : W0.frozen? ⟨w.heap.size + 1, 2, none⟩ = false := (by simp [World.frozen?, D1.out])
      have zD1 := lt_of_heap D1.out
      try rw [← HW0.out]
      go_cut [22] from 11 to 34 (fun s22 wx => s22 = .bool true ∧ Below W0.heap.size W0 wx)
      case first =>
        go_region_held3 (fun w' => Below W0.heap.size W0 w' ∧ w'.cell? ⟨w.heap.size + 1, 0, none⟩ = some (.int .i64 y) ∧ w'.cell? ⟨w.heap.size + 1, 1, none⟩ = some (.int .i64 ((k : Int) + 1)) ∧ w'.cell? ⟨w.heap.size + 1, 2, none⟩ = some (.int .i64 D))
    (first
      | ((try go_split_ands); refine ⟨(Below.refl _ _).drew, ?_, ?_, ?_⟩ <;> first | assumption | (rw [World.cell?_drew]; assumption))
      | ((try go_split_ands); refine ⟨keepS (W0 := W0) ?_ hb1, cellS (W0 := W0) ?_ hb1 ?_ ?_, cellS (W0 := W0) ?_ hb1 ?_ ?_, cellS (W0 := W0) ?_ hb1 ?_ ?_⟩ <;> first | assumption | omega)
      | ((try go_split_ands); refine ⟨keepA (W0 := W0) ?_ _, cellA (W0 := W0) ?_ _ ?_ ?_, cellA (W0 := W0) ?_ _ ?_ ?_, cellA (W0 := W0) ?_ _ ?_ ?_⟩ <;> first | assumption | omega)
      | ((try go_split_ands); refine ⟨keepAd (W0 := W0) ?_ _, cellAd (W0 := W0) ?_ _ ?_ ?_, cellAd (W0 := W0) ?_ _ ?_ ?_, cellAd (W0 := W0) ?_ _ ?_ ?_⟩ <;> first | assumption | omega | exact Below.refl _ _)
      | ((try go_split_ands); (with_reducible refine ⟨keep3 (W0 := W0) ?_ ?_ _ _ _, cell3 (W0 := W0) ?_ _ _ _ ?_ ?_, cell3 (W0 := W0) ?_ _ _ _ ?_ ?_, cell3 (W0 := W0) ?_ _ _ _ ?_ ?_⟩) <;> first | assumption | omega | exact Nat.le_refl _)
      | ((try go_split_ands); refine ⟨keep2 (W0 := W0) ?_ ?_ _ _, cell2 (W0 := W0) ?_ _ _ ?_ ?_, cell2 (W0 := W0) ?_ _ _ ?_ ?_, cell2 (W0 := W0) ?_ _ _ ?_ ?_⟩ <;> first | assumption | omega | exact Nat.le_refl _)
      | ((try go_split_ands); refine ⟨keepZ (W0 := W0) ?_ ?_ _, cellZ (W0 := W0) ?_ _ ?_ ?_, cellZ (W0 := W0) ?_ _ ?_ ?_, cellZ (W0 := W0) ?_ _ ?_ ?_⟩ <;> first | assumption | omega | exact Nat.le_refl _ | exact ⟨_, by assumption⟩))
    (first | (go_at_call 55; refine (H1.out _ (by first | exact md_keep (Lib.hid (md_keep hM HB0.out)) (by assumption) | exact md_keep (Lib.hid (md_keep hM HB0.out)) (by (try go_split_ands); assumption) | exact md_keep (Lib.hid (md_keep hM HB0.out)) (Below.refl _ _).drew)).mono ?_; rintro e w1 ⟨rfl, hb1⟩; (try go_split_ands); have hge : W0.heap.size ≤ w1.heap.size := (by first | (refine (keepS (W0 := W0) ?_ hb1).size; assumption) | exact (hb1.size : W0.heap.size ≤ w1.heap.size)); (try have hrow := row_call hb1 hrow); (try have hrow := row_new hb1); (try have hrow := row_newd hb1); have hl1 := lt_below hb1; obtain ⟨hc1, hf1⟩ := bcell hb1; (try (have hrc := row_cellA hrow; clear hc1 hf1)); (try have hrf := row_frozA hrow)))
        all_goals (try go_split_ands)
        all_goals (go_wp2_with fail; go_meet; refine ⟨rfl, ?_⟩)
        all_goals first | (with_reducible assumption) | (with_reducible exact heap_alloc_new _ _) | (with_reducible exact row_set3 (by assumption) _ _ _) | assumption | exact heap_alloc_new _ _ | exact row_set (by assumption) _ _
      case rest =>
        obtain ⟨rfl, hB⟩ := hcut
        obtain ⟨V21, rfl⟩ : ∃ V, V = wc := ⟨_, rfl⟩
        clear Z1_0 Z1_1 Z1_2 Z1_f0 Z1_f1 Z1_f2 zZ1 D1_0 D1_1 D1_2 D1_f0 D1_f1 D1_f2 zD1
        replace Z1 := Lib.hid (row_call hB Z1.out)
        replace D1 := Lib.hid (row_call hB D1.out)
        have B21 := Lib.hid (HB0.out.trans (hB.mono HB0.out.size))
        clear hB
        have Z1_0 : V21.cell? ⟨w.heap.size, 0, none⟩ = some (.int .i64 0) := cell_of_row _ _ _ _ _ _ Z1.out
        have Z1_1 : V21.cell? ⟨w.heap.size, 1, none⟩ = some (.int .i64 0) := cell_of_row _ _ _ _ _ _ Z1.out
        have Z1_2 : V21.cell? ⟨w.heap.size, 2, none⟩ = some (.int .i64 0) := cell_of_row _ _ _ _ _ _ Z1.out
        have Z1_f0 : V21.frozen? ⟨w.heap.size, 0, none⟩ = false := (by simp [World.frozen?, Z1.out])
        have Z1_f1 : V21.frozen? ⟨w.heap.size, 1, none⟩ = false := (by simp [World.frozen?, Z1.out])
        have Z1_f2 : V21.frozen? ⟨w.heap.size, 2, none⟩ = false := (by simp [World.frozen?, Z1.out])
        have zZ1 := lt_of_heap Z1.out
        have D1_0 : V21.cell? ⟨w.heap.size + 1, 0, none⟩ = some (.int .i64 y) := cell_of_row _ _ _ _ _ _ D1.out
        have D1_1 : V21.cell? ⟨w.heap.size + 1, 1, none⟩ = some (.int .i64 ((k : Int) + 1)) := cell_of_row _ _ _ _ _ _ D1.out
        have D1_2 : V21.cell? ⟨w.heap.size + 1, 2, none⟩ = some (.int .i64 D) := cell_of_row _ _ _ _ _ _ D1.out
        have D1_f0 : V21.frozen? ⟨w.heap.size + 1, 0, none⟩ = false := (by simp [World.frozen?, D1.out])
        have D1_f1 : V21.frozen? ⟨w.heap.size + 1, 1, none⟩ = false := (by simp [World.frozen?, D1.out])
        have D1_f2 : V21.frozen? ⟨w.heap.size + 1, 2, none⟩ = false := (by simp [World.frozen?, D1.out])
        have zD1 := lt_of_heap D1.out
        go_wp2_with fail
        clear Z1_0 Z1_1 Z1_2 Z1_f0 Z1_f1 Z1_f2 zZ1 D1_0 D1_1 D1_2 D1_f0 D1_f1 D1_f2 zD1
        obtain ⟨W0, hW0⟩ : ∃ W0, W0 = V21 := ⟨_, rfl⟩
        replace Z1 := Lib.hid (row_by hW0 Z1.out)
        replace D1 := Lib.hid (row_by hW0 D1.out)
        have HB0 := Lib.hid (below_by hW0 (B21.out))
        have HW0 := Lib.hid hW0
        clear hW0
        have Z1_0 : W0.cell? ⟨w.heap.size, 0, none⟩ = some (.int .i64 0) := cell_of_row _ _ _ _ _ _ Z1.out
        have Z1_1 : W0.cell? ⟨w.heap.size, 1, none⟩ = some (.int .i64 0) := cell_of_row _ _ _ _ _ _ Z1.out
        have Z1_2 : W0.cell? ⟨w.heap.size, 2, none⟩ = some (.int .i64 0) := cell_of_row _ _ _ _ _ _ Z1.out
        have Z1_f0 : W0.frozen? ⟨w.heap.size, 0, none⟩ = false := (by simp [World.frozen?, Z1.out])
        have Z1_f1 : W0.frozen? ⟨w.heap.size, 1, none⟩ = false := (by simp [World.frozen?, Z1.out])
        have Z1_f2 : W0.frozen? ⟨w.heap.size, 2, none⟩ = false := (by simp [World.frozen?, Z1.out])
        have zZ1 := lt_of_heap Z1.out
        have D1_0 : W0.cell? ⟨w.heap.size + 1, 0, none⟩ = some (.int .i64 y) := cell_of_row _ _ _ _ _ _ D1.out
        have D1_1 : W0.cell? ⟨w.heap.size + 1, 1, none⟩ = some (.int .i64 ((k : Int) + 1)) := cell_of_row _ _ _ _ _ _ D1.out
        have D1_2 : W0.cell? ⟨w.heap.size + 1, 2, none⟩ = some (.int .i64 D) := cell_of_row _ _ _ _ _ _ D1.out
        have D1_f0 : W0.frozen? ⟨w.heap.size + 1, 0, none⟩ = false := (by simp [World.frozen?, D1.out])
        have D1_f1 : W0.frozen? ⟨w.heap.size + 1, 1, none⟩ = false := (by simp [World.frozen?, D1.out])
        have D1_f2 : W0.frozen? ⟨w.heap.size + 1, 2, none⟩ = false := (by simp [World.frozen?, D1.out])
        have zD1 := lt_of_heap D1.out
        try go_simp
        rw [← HW0.out]
        go_region_with (first | (go_at_call 55; refine (H1.out _ (by first | exact md_keep (Lib.hid (md_keep hM HB0.out)) (Below.refl _ _).drew | exact md_keep (Lib.hid (md_keep hM HB0.out)) (Below.refl _ _) | exact md_keep (Lib.hid (md_keep hM HB0.out)) (by assumption))).mono ?_; rintro e V22 ⟨rfl, hb22⟩; replace hb22 := (Below.refl W0.heap.size W0).drew.trans hb22; clear Z1_0 Z1_1 Z1_2 Z1_f0 Z1_f1 Z1_f2 zZ1 D1_0 D1_1 D1_2 D1_f0 D1_f1 D1_f2 zD1; have B22 := Lib.hid (HB0.out.trans (hb22.mono HB0.out.size)); replace Z1 := Lib.hid (row_call hb22 Z1.out); replace D1 := Lib.hid (row_call hb22 D1.out); clear hb22; have Z1_0 : V22.cell? ⟨w.heap.size, 0, none⟩ = some (.int .i64 0) := cell_of_row _ _ _ _ _ _ Z1.out; have Z1_1 : V22.cell? ⟨w.heap.size, 1, none⟩ = some (.int .i64 0) := cell_of_row _ _ _ _ _ _ Z1.out; have Z1_2 : V22.cell? ⟨w.heap.size, 2, none⟩ = some (.int .i64 0) := cell_of_row _ _ _ _ _ _ Z1.out; have Z1_f0 : V22.frozen? ⟨w.heap.size, 0, none⟩ = false := (by simp [World.frozen?, Z1.out]); have Z1_f1 : V22.frozen? ⟨w.heap.size, 1, none⟩ = false := (by simp [World.frozen?, Z1.out]); have Z1_f2 : V22.frozen? ⟨w.heap.size, 2, none⟩ = false := (by simp [World.frozen?, Z1.out]); have zZ1 := lt_of_heap Z1.out; have D1_0 : V22.cell? ⟨w.heap.size + 1, 0, none⟩ = some (.int .i64 y) := cell_of_row _ _ _ _ _ _ D1.out; have D1_1 : V22.cell? ⟨w.heap.size + 1, 1, none⟩ = some (.int .i64 ((k : Int) + 1)) := cell_of_row _ _ _ _ _ _ D1.out; have D1_2 : V22.cell? ⟨w.heap.size + 1, 2, none⟩ = some (.int .i64 D) := cell_of_row _ _ _ _ _ _ D1.out; have D1_f0 : V22.frozen? ⟨w.heap.size + 1, 0, none⟩ = false := (by simp [World.frozen?, D1.out]); have D1_f1 : V22.frozen? ⟨w.heap.size + 1, 1, none⟩ = false := (by simp [World.frozen?, D1.out]); have D1_f2 : V22.frozen? ⟨w.heap.size + 1, 2, none⟩ = false := (by simp [World.frozen?, D1.out]); have zD1 := lt_of_heap D1.out))
        all_goals
          go_wp2
          exact ⟨⟨k + 1, by omega, ⟨row_other1 neZD (row_other1 neZD Z1.out 2 _) 1 _, by rw [hD1.out, show ((k + 1 : Nat) : Int) + 1 = (k : Int) + 1 + 1 by omega]; exact row_set1 (row_set1 D1.out 2 _) 1 _, keep1 (keep1 B22.out (by omega) 2 _) (by omega) 1 _⟩⟩, by rw [hm0.out, ooM_eq (row_set1 (row_set1 D1.out 2 _) 1 _)]; omega⟩
    · obtain rfl : k = K := by omega
      have hoff := hs.off
      clear hs c3
      generalize hMM : mdI y ((k : Int) + 1) = M at *
      generalize hD : n - cmN y k = D at *
      have hD2 := Lib.hid hD
      clear hMM hD c1 b1 b2
      generalize hKM : (k : Int) + 1 = KM at *
      have hK2 := Lib.hid hKM
      
      have Z1_f0 : V20.frozen? ⟨w.heap.size, 0, none⟩ = false := by simp [World.frozen?, Z1.out]
      have Z1_f1 : V20.frozen? ⟨w.heap.size, 1, none⟩ = false := by simp [World.frozen?, Z1.out]
      have Z1_f2 : V20.frozen? ⟨w.heap.size, 2, none⟩ = false := by simp [World.frozen?, Z1.out]
      have Z1_0 : V20.cell? ⟨w.heap.size, 0, none⟩ = some (.int .i64 0) := cell_of_row _ _ _ _ _ _ Z1.out
      have Z1_1 : V20.cell? ⟨w.heap.size, 1, none⟩ = some (.int .i64 0) := cell_of_row _ _ _ _ _ _ Z1.out
      have Z1_2 : V20.cell? ⟨w.heap.size, 2, none⟩ = some (.int .i64 0) := cell_of_row _ _ _ _ _ _ Z1.out
      have zZ1 := lt_of_heap Z1.out
      have D1_f0 : V20.frozen? ⟨w.heap.size + 1, 0, none⟩ = false := by simp [World.frozen?, D1.out]
      have D1_f1 : V20.frozen? ⟨w.heap.size + 1, 1, none⟩ = false := by simp [World.frozen?, D1.out]
      have D1_f2 : V20.frozen? ⟨w.heap.size + 1, 2, none⟩ = false := by simp [World.frozen?, D1.out]
      have D1_0 : V20.cell? ⟨w.heap.size + 1, 0, none⟩ = some (.int .i64 y) := cell_of_row _ _ _ _ _ _ D1.out
      have D1_1 : V20.cell? ⟨w.heap.size + 1, 1, none⟩ = some (.int .i64 KM) := cell_of_row _ _ _ _ _ _ D1.out
      have D1_2 : V20.cell? ⟨w.heap.size + 1, 2, none⟩ = some (.int .i64 D) := cell_of_row _ _ _ _ _ _ D1.out
      have zD1 := lt_of_heap D1.out
      
      rcases hoff with h11 | hoff
      · have g1 : decide (KM < 12) = false := decide_eq_false (by omega)
        clear H1 hKM
        go_wp2_with fail
        obtain ⟨W0, hW0⟩ : ∃ W0, W0 = V20 := ⟨_, rfl⟩
        replace Z1 := Lib.hid (row_by hW0 Z1.out)
        replace D1 := Lib.hid (row_by hW0 D1.out)
        clear Z1_f0 Z1_f1 Z1_f2 Z1_0 Z1_1 Z1_2 zZ1 D1_f0 D1_f1 D1_f2 D1_0 D1_1 D1_2 zD1
        have Z1_0 : W0.cell? ⟨w.heap.size, 0, none⟩ = some (.int .i64 0) := cell_of_row _ _ _ _ _ _ Z1.out
        have Z1_1 : W0.cell? ⟨w.heap.size, 1, none⟩ = some (.int .i64 0) := cell_of_row _ _ _ _ _ _ Z1.out
        have Z1_2 : W0.cell? ⟨w.heap.size, 2, none⟩ = some (.int .i64 0) := cell_of_row _ _ _ _ _ _ Z1.out
        have zZ1 := lt_of_heap Z1.out
        have D1_0 : W0.cell? ⟨w.heap.size + 1, 0, none⟩ = some (.int .i64 y) := cell_of_row _ _ _ _ _ _ D1.out
        have D1_1 : W0.cell? ⟨w.heap.size + 1, 1, none⟩ = some (.int .i64 KM) := cell_of_row _ _ _ _ _ _ D1.out
        have D1_2 : W0.cell? ⟨w.heap.size + 1, 2, none⟩ = some (.int .i64 D) := cell_of_row _ _ _ _ _ _ D1.out
        have zD1 := lt_of_heap D1.out
        have HB0 := Lib.hid (below_by hW0 (B20.out))
        have zW0 := HB0.out.size
        have HW0 := Lib.hid hW0
        clear hW0
        try go_simp
        rw [← HW0.out]
        have hk0 : ∀ w2, Below W0.heap.size W0 w2 → w2.cell? ⟨w.heap.size, 0, none⟩ = some (.int .i64 0) := fun w2 hb => (by rw [hb.cell (p := ⟨w.heap.size, 0, none⟩) (by assumption)]; assumption)
        have hk1 : ∀ w2, Below W0.heap.size W0 w2 → w2.cell? ⟨w.heap.size, 1, none⟩ = some (.int .i64 0) := fun w2 hb => (by rw [hb.cell (p := ⟨w.heap.size, 1, none⟩) (by assumption)]; assumption)
        have hk2 : ∀ w2, Below W0.heap.size W0 w2 → w2.cell? ⟨w.heap.size, 2, none⟩ = some (.int .i64 0) := fun w2 hb => (by rw [hb.cell (p := ⟨w.heap.size, 2, none⟩) (by assumption)]; assumption)
        have hk3 : ∀ w2, Below W0.heap.size W0 w2 → w2.cell? ⟨w.heap.size + 1, 0, none⟩ = some (.int .i64 y) := fun w2 hb => (by rw [hb.cell (p := ⟨w.heap.size + 1, 0, none⟩) (by assumption)]; assumption)
        have hk4 : ∀ w2, Below W0.heap.size W0 w2 → w2.cell? ⟨w.heap.size + 1, 1, none⟩ = some (.int .i64 KM) := fun w2 hb => (by rw [hb.cell (p := ⟨w.heap.size + 1, 1, none⟩) (by assumption)]; assumption)
        have hk5 : ∀ w2, Below W0.heap.size W0 w2 → w2.cell? ⟨w.heap.size + 1, 2, none⟩ = some (.int .i64 D) := fun w2 hb => (by rw [hb.cell (p := ⟨w.heap.size + 1, 2, none⟩) (by assumption)]; assumption)
        clear Z1_0 Z1_1 Z1_2 D1_0 D1_1 D1_2
        refine region_plan (S := fun w2 => Below W0.heap.size W0 w2) [(0, true), (1, true), (2, true), (3, true), (4, true), (5, true), (6, true), (7, true), (8, true), (9, true), (10, true), (11, true)] (by as_aux_lemma => kernel_rfl) (by as_aux_lemma => kernel_rfl) (by as_aux_lemma => kernel_rfl) (by as_aux_lemma => kernel_rfl) (Below.refl W0.heap.size W0).drew ?_
        have Y0 := Lib.hid (Below.refl W0.heap.size W0).drew
        refine plan_yes (v := ?v1_3) (by simp only [List.getElem?_toArray, List.getElem?_cons_zero, List.getElem?_cons_succ]; exact rfl) (Or.inl ⟨by as_aux_lemma => rfl, ?hy1_3⟩) ?rest1_3
        case hy1_3 => (intro w2 hSw; (try dsimp only at hSw); go_simp; try with_reducible rfl)
        try simp only [Act.put, List.setIfInBounds_toArray, List.set_cons_zero, List.set_cons_succ]
        refine plan_yes (v := ?v2_3) (by simp only [List.getElem?_toArray, List.getElem?_cons_zero, List.getElem?_cons_succ]; exact rfl) (Or.inl ⟨by as_aux_lemma => rfl, ?hy2_3⟩) ?rest2_3
        case hy2_3 => (intro w2 hSw; (try dsimp only at hSw); go_simp; try with_reducible rfl)
        try simp only [Act.put, List.setIfInBounds_toArray, List.set_cons_zero, List.set_cons_succ]
        refine plan_yes (v := ?v3_3) (by simp only [List.getElem?_toArray, List.getElem?_cons_zero, List.getElem?_cons_succ]; exact rfl) (Or.inl ⟨by as_aux_lemma => rfl, ?hy3_3⟩) ?rest3_3
        case hy3_3 => (intro w2 hSw; (try dsimp only at hSw); go_simp; try with_reducible rfl)
        try simp only [Act.put, List.setIfInBounds_toArray, List.set_cons_zero, List.set_cons_succ]
        refine plan_yes (v := ?v4_3) (by simp only [List.getElem?_toArray, List.getElem?_cons_zero, List.getElem?_cons_succ]; exact rfl) (Or.inl ⟨by as_aux_lemma => rfl, ?hy4_3⟩) ?rest4_3
        case hy4_3 => (intro w2 hSw; (try dsimp only at hSw); go_simp; try with_reducible rfl)
        try simp only [Act.put, List.setIfInBounds_toArray, List.set_cons_zero, List.set_cons_succ]
        refine plan_yes (v := undef) (by simp only [List.getElem?_toArray, List.getElem?_cons_zero, List.getElem?_cons_succ]; exact rfl) (Or.inr ⟨by as_aux_lemma => rfl, rfl⟩) ?_
        try simp only [Act.put, List.setIfInBounds_toArray, List.set_cons_zero, List.set_cons_succ]
        refine plan_yes (v := undef) (by simp only [List.getElem?_toArray, List.getElem?_cons_zero, List.getElem?_cons_succ]; exact rfl) (Or.inr ⟨by as_aux_lemma => rfl, rfl⟩) ?_
        try simp only [Act.put, List.setIfInBounds_toArray, List.set_cons_zero, List.set_cons_succ]
        refine plan_yes (v := undef) (by simp only [List.getElem?_toArray, List.getElem?_cons_zero, List.getElem?_cons_succ]; exact rfl) (Or.inr ⟨by as_aux_lemma => rfl, rfl⟩) ?_
        try simp only [Act.put, List.setIfInBounds_toArray, List.set_cons_zero, List.set_cons_succ]
        refine plan_yes (v := undef) (by simp only [List.getElem?_toArray, List.getElem?_cons_zero, List.getElem?_cons_succ]; exact rfl) (Or.inr ⟨by as_aux_lemma => rfl, rfl⟩) ?_
        try simp only [Act.put, List.setIfInBounds_toArray, List.set_cons_zero, List.set_cons_succ]
        refine plan_yes (v := undef) (by simp only [List.getElem?_toArray, List.getElem?_cons_zero, List.getElem?_cons_succ]; exact rfl) (Or.inr ⟨by as_aux_lemma => rfl, rfl⟩) ?_
        try simp only [Act.put, List.setIfInBounds_toArray, List.set_cons_zero, List.set_cons_succ]
        refine plan_yes (v := undef) (by simp only [List.getElem?_toArray, List.getElem?_cons_zero, List.getElem?_cons_succ]; exact rfl) (Or.inr ⟨by as_aux_lemma => rfl, rfl⟩) ?_
        try simp only [Act.put, List.setIfInBounds_toArray, List.set_cons_zero, List.set_cons_succ]
        refine plan_yes (v := undef) (by simp only [List.getElem?_toArray, List.getElem?_cons_zero, List.getElem?_cons_succ]; exact rfl) (Or.inr ⟨by as_aux_lemma => rfl, rfl⟩) ?_
        try simp only [Act.put, List.setIfInBounds_toArray, List.set_cons_zero, List.set_cons_succ]
        refine plan_yes (v := ?v5_3) (by simp only [List.getElem?_toArray, List.getElem?_cons_zero, List.getElem?_cons_succ]; exact rfl) (Or.inl ⟨by as_aux_lemma => rfl, ?hy5_3⟩) ?rest5_3
        case hy5_3 => (intro w2 hSw; (try dsimp only at hSw); go_simp; try with_reducible rfl)
        try simp only [Act.put, List.setIfInBounds_toArray, List.set_cons_zero, List.set_cons_succ]
        refine plan_done (NoPanic.normal ?_)
        have B0 := Y0.out
        have BW := Lib.hid (HB0.out.trans (B0.mono zW0))
        replace Z1 := Lib.hid (row_call B0 Z1.out)
        replace D1 := Lib.hid (row_call B0 D1.out)
        have B21 := BW
        clear BW B0 hk0 hk1 hk2 hk3 hk4 hk5 zZ1 zD1 Y0
        generalize W0.drew = V21 at *
        have Z1_0 : V21.cell? ⟨w.heap.size, 0, none⟩ = some (.int .i64 0) := cell_of_row _ _ _ _ _ _ Z1.out
        have Z1_f0 : V21.frozen? ⟨w.heap.size, 0, none⟩ = false := (by simp [World.frozen?, Z1.out])
        have Z1_1 : V21.cell? ⟨w.heap.size, 1, none⟩ = some (.int .i64 0) := cell_of_row _ _ _ _ _ _ Z1.out
        have Z1_f1 : V21.frozen? ⟨w.heap.size, 1, none⟩ = false := (by simp [World.frozen?, Z1.out])
        have Z1_2 : V21.cell? ⟨w.heap.size, 2, none⟩ = some (.int .i64 0) := cell_of_row _ _ _ _ _ _ Z1.out
        have Z1_f2 : V21.frozen? ⟨w.heap.size, 2, none⟩ = false := (by simp [World.frozen?, Z1.out])
        have zZ1 := lt_of_heap Z1.out
        have D1_0 : V21.cell? ⟨w.heap.size + 1, 0, none⟩ = some (.int .i64 y) := cell_of_row _ _ _ _ _ _ D1.out
        have D1_f0 : V21.frozen? ⟨w.heap.size + 1, 0, none⟩ = false := (by simp [World.frozen?, D1.out])
        have D1_1 : V21.cell? ⟨w.heap.size + 1, 1, none⟩ = some (.int .i64 KM) := cell_of_row _ _ _ _ _ _ D1.out
        have D1_f1 : V21.frozen? ⟨w.heap.size + 1, 1, none⟩ = false := (by simp [World.frozen?, D1.out])
        have D1_2 : V21.cell? ⟨w.heap.size + 1, 2, none⟩ = some (.int .i64 D) := cell_of_row _ _ _ _ _ _ D1.out
        have D1_f2 : V21.frozen? ⟨w.heap.size + 1, 2, none⟩ = false := (by simp [World.frozen?, D1.out])
        have zD1 := lt_of_heap D1.out
        go_simp
        go_wp2_with fail
        refine (H9.out _ (by first | exact md_keep hM (B21.out) | exact md_keep hM ((B21.out).alloc (B21.out.size) _) | exact md_keep hM (((B21.out).alloc (B21.out.size) _).alloc (by have := B21.out.size; simp <;> omega) _) | exact md_keep hM ((((B21.out).alloc (B21.out.size) _).alloc (by have := B21.out.size; simp <;> omega) _).alloc (by have := B21.out.size; simp <;> omega) _))).mono ?_
        rintro e V22 ⟨rfl, hb22⟩
        clear Z1_0 Z1_f0 Z1_1 Z1_f1 Z1_2 Z1_f2 zZ1 D1_0 D1_f0 D1_1 D1_f1 D1_2 D1_f2 zD1
        have B22 : Hid (Below w.heap.size w V22) := by first | exact Lib.hid ((B21.out).trans (hb22.mono (by have := B21.out.size; first | assumption | (simp <;> omega) | (simp; done)))) | exact Lib.hid (((B21.out).alloc (B21.out.size) _).trans (hb22.mono (by have := B21.out.size; first | assumption | (simp <;> omega) | (simp; done)))) | exact Lib.hid ((((B21.out).alloc (B21.out.size) _).alloc (by have := B21.out.size; simp <;> omega) _).trans (hb22.mono (by have := B21.out.size; first | assumption | (simp <;> omega) | (simp; done)))) | exact Lib.hid (((((B21.out).alloc (B21.out.size) _).alloc (by have := B21.out.size; simp <;> omega) _).alloc (by have := B21.out.size; simp <;> omega) _).trans (hb22.mono (by have := B21.out.size; first | assumption | (simp <;> omega) | (simp; done))))
        first | replace Z1 := Lib.hid (row_call hb22 Z1.out) | replace Z1 := Lib.hid (row_call hb22 (row_alloc Z1.out _)) | replace Z1 := Lib.hid (row_call hb22 (row_alloc (row_alloc Z1.out _) _)) | replace Z1 := Lib.hid (row_call hb22 (row_alloc (row_alloc (row_alloc Z1.out _) _) _))
        first | replace D1 := Lib.hid (row_call hb22 D1.out) | replace D1 := Lib.hid (row_call hb22 (row_alloc D1.out _)) | replace D1 := Lib.hid (row_call hb22 (row_alloc (row_alloc D1.out _) _)) | replace D1 := Lib.hid (row_call hb22 (row_alloc (row_alloc (row_alloc D1.out _) _) _))
        clear hb22
        have Z1_0 : V22.cell? ⟨w.heap.size, 0, none⟩ = some (.int .i64 0) := cell_of_row _ _ _ _ _ _ Z1.out
        have Z1_1 : V22.cell? ⟨w.heap.size, 1, none⟩ = some (.int .i64 0) := cell_of_row _ _ _ _ _ _ Z1.out
        have Z1_2 : V22.cell? ⟨w.heap.size, 2, none⟩ = some (.int .i64 0) := cell_of_row _ _ _ _ _ _ Z1.out
        have Z1_f0 : V22.frozen? ⟨w.heap.size, 0, none⟩ = false := by simp [World.frozen?, Z1.out]
        have Z1_f1 : V22.frozen? ⟨w.heap.size, 1, none⟩ = false := by simp [World.frozen?, Z1.out]
        have Z1_f2 : V22.frozen? ⟨w.heap.size, 2, none⟩ = false := by simp [World.frozen?, Z1.out]
        have D1_0 : V22.cell? ⟨w.heap.size + 1, 0, none⟩ = some (.int .i64 y) := cell_of_row _ _ _ _ _ _ D1.out
        have D1_1 : V22.cell? ⟨w.heap.size + 1, 1, none⟩ = some (.int .i64 KM) := cell_of_row _ _ _ _ _ _ D1.out
        have D1_2 : V22.cell? ⟨w.heap.size + 1, 2, none⟩ = some (.int .i64 D) := cell_of_row _ _ _ _ _ _ D1.out
        have D1_f0 : V22.frozen? ⟨w.heap.size + 1, 0, none⟩ = false := by simp [World.frozen?, D1.out]
        have D1_f1 : V22.frozen? ⟨w.heap.size + 1, 1, none⟩ = false := by simp [World.frozen?, D1.out]
        have D1_f2 : V22.frozen? ⟨w.heap.size + 1, 2, none⟩ = false := by simp [World.frozen?, D1.out]
        have zZ1 := lt_of_heap Z1.out
        have zD1 := lt_of_heap D1.out
        go_simp
        go_wp2
        refine shut_ret (v := .tuple #[.agg #[.int .i64 y, .int .i64 KM, .int .i64 D], .int .i64 0]) (by simp [results, Tryd.results77, go_sem, zZ1, Z1_0, Z1_1, Z1_2, D1_0, D1_1, D1_2]) rfl ⟨by rw [hK2.out, hD2.out], ?_⟩
        exact keep3 B22.out (Nat.le_refl _) _ _ _
      · by_cases h11 : k = 11
        · have g1 : decide (KM < 12) = false := decide_eq_false (by omega)
          clear H1 hKM
          
          go_wp2_with fail
          obtain ⟨W0, hW0⟩ : ∃ W0, W0 = V20 := ⟨_, rfl⟩
          replace Z1 := Lib.hid (row_by hW0 Z1.out)
          replace D1 := Lib.hid (row_by hW0 D1.out)
          clear Z1_f0 Z1_f1 Z1_f2 Z1_0 Z1_1 Z1_2 zZ1 D1_f0 D1_f1 D1_f2 D1_0 D1_1 D1_2 zD1
          have Z1_0 : W0.cell? ⟨w.heap.size, 0, none⟩ = some (.int .i64 0) := cell_of_row _ _ _ _ _ _ Z1.out
          have Z1_1 : W0.cell? ⟨w.heap.size, 1, none⟩ = some (.int .i64 0) := cell_of_row _ _ _ _ _ _ Z1.out
          have Z1_2 : W0.cell? ⟨w.heap.size, 2, none⟩ = some (.int .i64 0) := cell_of_row _ _ _ _ _ _ Z1.out
          have zZ1 := lt_of_heap Z1.out
          have D1_0 : W0.cell? ⟨w.heap.size + 1, 0, none⟩ = some (.int .i64 y) := cell_of_row _ _ _ _ _ _ D1.out
          have D1_1 : W0.cell? ⟨w.heap.size + 1, 1, none⟩ = some (.int .i64 KM) := cell_of_row _ _ _ _ _ _ D1.out
          have D1_2 : W0.cell? ⟨w.heap.size + 1, 2, none⟩ = some (.int .i64 D) := cell_of_row _ _ _ _ _ _ D1.out
          have zD1 := lt_of_heap D1.out
          have HB0 := Lib.hid (below_by hW0 (B20.out))
          have zW0 := HB0.out.size
          have HW0 := Lib.hid hW0
          clear hW0
          try go_simp
          rw [← HW0.out]
          have hk0 : ∀ w2, Below W0.heap.size W0 w2 → w2.cell? ⟨w.heap.size, 0, none⟩ = some (.int .i64 0) := fun w2 hb => (by rw [hb.cell (p := ⟨w.heap.size, 0, none⟩) (by assumption)]; assumption)
          have hk1 : ∀ w2, Below W0.heap.size W0 w2 → w2.cell? ⟨w.heap.size, 1, none⟩ = some (.int .i64 0) := fun w2 hb => (by rw [hb.cell (p := ⟨w.heap.size, 1, none⟩) (by assumption)]; assumption)
          have hk2 : ∀ w2, Below W0.heap.size W0 w2 → w2.cell? ⟨w.heap.size, 2, none⟩ = some (.int .i64 0) := fun w2 hb => (by rw [hb.cell (p := ⟨w.heap.size, 2, none⟩) (by assumption)]; assumption)
          have hk3 : ∀ w2, Below W0.heap.size W0 w2 → w2.cell? ⟨w.heap.size + 1, 0, none⟩ = some (.int .i64 y) := fun w2 hb => (by rw [hb.cell (p := ⟨w.heap.size + 1, 0, none⟩) (by assumption)]; assumption)
          have hk4 : ∀ w2, Below W0.heap.size W0 w2 → w2.cell? ⟨w.heap.size + 1, 1, none⟩ = some (.int .i64 KM) := fun w2 hb => (by rw [hb.cell (p := ⟨w.heap.size + 1, 1, none⟩) (by assumption)]; assumption)
          have hk5 : ∀ w2, Below W0.heap.size W0 w2 → w2.cell? ⟨w.heap.size + 1, 2, none⟩ = some (.int .i64 D) := fun w2 hb => (by rw [hb.cell (p := ⟨w.heap.size + 1, 2, none⟩) (by assumption)]; assumption)
          clear Z1_0 Z1_1 Z1_2 D1_0 D1_1 D1_2
          refine region_plan (S := fun w2 => Below W0.heap.size W0 w2) [(0, true), (1, true), (2, true), (3, true), (4, true), (5, true), (6, true), (7, true), (8, true), (9, true), (10, true), (11, true)] (by as_aux_lemma => kernel_rfl) (by as_aux_lemma => kernel_rfl) (by as_aux_lemma => kernel_rfl) (by as_aux_lemma => kernel_rfl) (Below.refl W0.heap.size W0).drew ?_
          have Y0 := Lib.hid (Below.refl W0.heap.size W0).drew
          refine plan_yes (v := ?v1_4) (by simp only [List.getElem?_toArray, List.getElem?_cons_zero, List.getElem?_cons_succ]; exact rfl) (Or.inl ⟨by as_aux_lemma => rfl, ?hy1_4⟩) ?rest1_4
          case hy1_4 => (intro w2 hSw; (try dsimp only at hSw); go_simp; try with_reducible rfl)
          try simp only [Act.put, List.setIfInBounds_toArray, List.set_cons_zero, List.set_cons_succ]
          refine plan_yes (v := ?v2_4) (by simp only [List.getElem?_toArray, List.getElem?_cons_zero, List.getElem?_cons_succ]; exact rfl) (Or.inl ⟨by as_aux_lemma => rfl, ?hy2_4⟩) ?rest2_4
          case hy2_4 => (intro w2 hSw; (try dsimp only at hSw); go_simp; try with_reducible rfl)
          try simp only [Act.put, List.setIfInBounds_toArray, List.set_cons_zero, List.set_cons_succ]
          refine plan_yes (v := ?v3_4) (by simp only [List.getElem?_toArray, List.getElem?_cons_zero, List.getElem?_cons_succ]; exact rfl) (Or.inl ⟨by as_aux_lemma => rfl, ?hy3_4⟩) ?rest3_4
          case hy3_4 => (intro w2 hSw; (try dsimp only at hSw); go_simp; try with_reducible rfl)
          try simp only [Act.put, List.setIfInBounds_toArray, List.set_cons_zero, List.set_cons_succ]
          refine plan_yes (v := ?v4_4) (by simp only [List.getElem?_toArray, List.getElem?_cons_zero, List.getElem?_cons_succ]; exact rfl) (Or.inl ⟨by as_aux_lemma => rfl, ?hy4_4⟩) ?rest4_4
          case hy4_4 => (intro w2 hSw; (try dsimp only at hSw); go_simp; try with_reducible rfl)
          try simp only [Act.put, List.setIfInBounds_toArray, List.set_cons_zero, List.set_cons_succ]
          refine plan_yes (v := undef) (by simp only [List.getElem?_toArray, List.getElem?_cons_zero, List.getElem?_cons_succ]; exact rfl) (Or.inr ⟨by as_aux_lemma => rfl, rfl⟩) ?_
          try simp only [Act.put, List.setIfInBounds_toArray, List.set_cons_zero, List.set_cons_succ]
          refine plan_yes (v := undef) (by simp only [List.getElem?_toArray, List.getElem?_cons_zero, List.getElem?_cons_succ]; exact rfl) (Or.inr ⟨by as_aux_lemma => rfl, rfl⟩) ?_
          try simp only [Act.put, List.setIfInBounds_toArray, List.set_cons_zero, List.set_cons_succ]
          refine plan_yes (v := undef) (by simp only [List.getElem?_toArray, List.getElem?_cons_zero, List.getElem?_cons_succ]; exact rfl) (Or.inr ⟨by as_aux_lemma => rfl, rfl⟩) ?_
          try simp only [Act.put, List.setIfInBounds_toArray, List.set_cons_zero, List.set_cons_succ]
          refine plan_yes (v := undef) (by simp only [List.getElem?_toArray, List.getElem?_cons_zero, List.getElem?_cons_succ]; exact rfl) (Or.inr ⟨by as_aux_lemma => rfl, rfl⟩) ?_
          try simp only [Act.put, List.setIfInBounds_toArray, List.set_cons_zero, List.set_cons_succ]
          refine plan_yes (v := undef) (by simp only [List.getElem?_toArray, List.getElem?_cons_zero, List.getElem?_cons_succ]; exact rfl) (Or.inr ⟨by as_aux_lemma => rfl, rfl⟩) ?_
          try simp only [Act.put, List.setIfInBounds_toArray, List.set_cons_zero, List.set_cons_succ]
          refine plan_yes (v := undef) (by simp only [List.getElem?_toArray, List.getElem?_cons_zero, List.getElem?_cons_succ]; exact rfl) (Or.inr ⟨by as_aux_lemma => rfl, rfl⟩) ?_
          try simp only [Act.put, List.setIfInBounds_toArray, List.set_cons_zero, List.set_cons_succ]
          refine plan_yes (v := undef) (by simp only [List.getElem?_toArray, List.getElem?_cons_zero, List.getElem?_cons_succ]; exact rfl) (Or.inr ⟨by as_aux_lemma => rfl, rfl⟩) ?_
          try simp only [Act.put, List.setIfInBounds_toArray, List.set_cons_zero, List.set_cons_succ]
          refine plan_yes (v := ?v5_4) (by simp only [List.getElem?_toArray, List.getElem?_cons_zero, List.getElem?_cons_succ]; exact rfl) (Or.inl ⟨by as_aux_lemma => rfl, ?hy5_4⟩) ?rest5_4
          case hy5_4 => (intro w2 hSw; (try dsimp only at hSw); go_simp; try with_reducible rfl)
          try simp only [Act.put, List.setIfInBounds_toArray, List.set_cons_zero, List.set_cons_succ]
          refine plan_done (NoPanic.normal ?_)
          have B0 := Y0.out
          have BW := Lib.hid (HB0.out.trans (B0.mono zW0))
          replace Z1 := Lib.hid (row_call B0 Z1.out)
          replace D1 := Lib.hid (row_call B0 D1.out)
          have B21 := BW
          clear BW B0 hk0 hk1 hk2 hk3 hk4 hk5 zZ1 zD1 Y0
          generalize W0.drew = V21 at *
          have Z1_0 : V21.cell? ⟨w.heap.size, 0, none⟩ = some (.int .i64 0) := cell_of_row _ _ _ _ _ _ Z1.out
          have Z1_f0 : V21.frozen? ⟨w.heap.size, 0, none⟩ = false := (by simp [World.frozen?, Z1.out])
          have Z1_1 : V21.cell? ⟨w.heap.size, 1, none⟩ = some (.int .i64 0) := cell_of_row _ _ _ _ _ _ Z1.out
          have Z1_f1 : V21.frozen? ⟨w.heap.size, 1, none⟩ = false := (by simp [World.frozen?, Z1.out])
          have Z1_2 : V21.cell? ⟨w.heap.size, 2, none⟩ = some (.int .i64 0) := cell_of_row _ _ _ _ _ _ Z1.out
          have Z1_f2 : V21.frozen? ⟨w.heap.size, 2, none⟩ = false := (by simp [World.frozen?, Z1.out])
          have zZ1 := lt_of_heap Z1.out
          have D1_0 : V21.cell? ⟨w.heap.size + 1, 0, none⟩ = some (.int .i64 y) := cell_of_row _ _ _ _ _ _ D1.out
          have D1_f0 : V21.frozen? ⟨w.heap.size + 1, 0, none⟩ = false := (by simp [World.frozen?, D1.out])
          have D1_1 : V21.cell? ⟨w.heap.size + 1, 1, none⟩ = some (.int .i64 KM) := cell_of_row _ _ _ _ _ _ D1.out
          have D1_f1 : V21.frozen? ⟨w.heap.size + 1, 1, none⟩ = false := (by simp [World.frozen?, D1.out])
          have D1_2 : V21.cell? ⟨w.heap.size + 1, 2, none⟩ = some (.int .i64 D) := cell_of_row _ _ _ _ _ _ D1.out
          have D1_f2 : V21.frozen? ⟨w.heap.size + 1, 2, none⟩ = false := (by simp [World.frozen?, D1.out])
          have zD1 := lt_of_heap D1.out
          go_simp
          go_wp2_with fail
          refine (H9.out _ (by first | exact md_keep hM (B21.out) | exact md_keep hM ((B21.out).alloc (B21.out.size) _) | exact md_keep hM (((B21.out).alloc (B21.out.size) _).alloc (by have := B21.out.size; simp <;> omega) _) | exact md_keep hM ((((B21.out).alloc (B21.out.size) _).alloc (by have := B21.out.size; simp <;> omega) _).alloc (by have := B21.out.size; simp <;> omega) _))).mono ?_
          rintro e V22 ⟨rfl, hb22⟩
          clear Z1_0 Z1_f0 Z1_1 Z1_f1 Z1_2 Z1_f2 zZ1 D1_0 D1_f0 D1_1 D1_f1 D1_2 D1_f2 zD1
          have B22 : Hid (Below w.heap.size w V22) := by first | exact Lib.hid ((B21.out).trans (hb22.mono (by have := B21.out.size; first | assumption | (simp <;> omega) | (simp; done)))) | exact Lib.hid (((B21.out).alloc (B21.out.size) _).trans (hb22.mono (by have := B21.out.size; first | assumption | (simp <;> omega) | (simp; done)))) | exact Lib.hid ((((B21.out).alloc (B21.out.size) _).alloc (by have := B21.out.size; simp <;> omega) _).trans (hb22.mono (by have := B21.out.size; first | assumption | (simp <;> omega) | (simp; done)))) | exact Lib.hid (((((B21.out).alloc (B21.out.size) _).alloc (by have := B21.out.size; simp <;> omega) _).alloc (by have := B21.out.size; simp <;> omega) _).trans (hb22.mono (by have := B21.out.size; first | assumption | (simp <;> omega) | (simp; done))))
          first | replace Z1 := Lib.hid (row_call hb22 Z1.out) | replace Z1 := Lib.hid (row_call hb22 (row_alloc Z1.out _)) | replace Z1 := Lib.hid (row_call hb22 (row_alloc (row_alloc Z1.out _) _)) | replace Z1 := Lib.hid (row_call hb22 (row_alloc (row_alloc (row_alloc Z1.out _) _) _))
          first | replace D1 := Lib.hid (row_call hb22 D1.out) | replace D1 := Lib.hid (row_call hb22 (row_alloc D1.out _)) | replace D1 := Lib.hid (row_call hb22 (row_alloc (row_alloc D1.out _) _)) | replace D1 := Lib.hid (row_call hb22 (row_alloc (row_alloc (row_alloc D1.out _) _) _))
          clear hb22
          have Z1_0 : V22.cell? ⟨w.heap.size, 0, none⟩ = some (.int .i64 0) := cell_of_row _ _ _ _ _ _ Z1.out
          have Z1_1 : V22.cell? ⟨w.heap.size, 1, none⟩ = some (.int .i64 0) := cell_of_row _ _ _ _ _ _ Z1.out
          have Z1_2 : V22.cell? ⟨w.heap.size, 2, none⟩ = some (.int .i64 0) := cell_of_row _ _ _ _ _ _ Z1.out
          have Z1_f0 : V22.frozen? ⟨w.heap.size, 0, none⟩ = false := by simp [World.frozen?, Z1.out]
          have Z1_f1 : V22.frozen? ⟨w.heap.size, 1, none⟩ = false := by simp [World.frozen?, Z1.out]
          have Z1_f2 : V22.frozen? ⟨w.heap.size, 2, none⟩ = false := by simp [World.frozen?, Z1.out]
          have D1_0 : V22.cell? ⟨w.heap.size + 1, 0, none⟩ = some (.int .i64 y) := cell_of_row _ _ _ _ _ _ D1.out
          have D1_1 : V22.cell? ⟨w.heap.size + 1, 1, none⟩ = some (.int .i64 KM) := cell_of_row _ _ _ _ _ _ D1.out
          have D1_2 : V22.cell? ⟨w.heap.size + 1, 2, none⟩ = some (.int .i64 D) := cell_of_row _ _ _ _ _ _ D1.out
          have D1_f0 : V22.frozen? ⟨w.heap.size + 1, 0, none⟩ = false := by simp [World.frozen?, D1.out]
          have D1_f1 : V22.frozen? ⟨w.heap.size + 1, 1, none⟩ = false := by simp [World.frozen?, D1.out]
          have D1_f2 : V22.frozen? ⟨w.heap.size + 1, 2, none⟩ = false := by simp [World.frozen?, D1.out]
          have zZ1 := lt_of_heap Z1.out
          have zD1 := lt_of_heap D1.out
          go_simp
          go_wp2
          refine shut_ret (v := .tuple #[.agg #[.int .i64 y, .int .i64 KM, .int .i64 D], .int .i64 0]) (by simp [results, Tryd.results77, go_sem, zZ1, Z1_0, Z1_1, Z1_2, D1_0, D1_1, D1_2]) rfl ⟨by rw [hK2.out, hD2.out], ?_⟩
          exact keep3 B22.out (Nat.le_refl _) _ _ _
        · have g1 : KM < 12 := by omega
          have g2 : decide (M < D) = false := decide_eq_false (by omega)
          clear hKM
          
          go_wp2_with fail
          clear Z1_f0 Z1_f1 Z1_f2 Z1_0 Z1_1 Z1_2 zZ1 D1_f0 D1_f1 D1_f2 D1_0 D1_1 D1_2 zD1
          obtain ⟨W0, hW0⟩ : ∃ W0, W0 = V20 := ⟨_, rfl⟩
          replace Z1 := Lib.hid (row_by hW0 Z1.out)
          replace D1 := Lib.hid (row_by hW0 D1.out)
          have HB0 := Lib.hid (below_by hW0 (B20.out))
          have HW0 := Lib.hid hW0
          clear hW0
          have Z1_0 : W0.cell? ⟨w.heap.size, 0, none⟩ = some (.int .i64 0) := cell_of_row _ _ _ _ _ _ Z1.out
          have Z1_1 : W0.cell? ⟨w.heap.size, 1, none⟩ = some (.int .i64 0) := cell_of_row _ _ _ _ _ _ Z1.out
          have Z1_2 : W0.cell? ⟨w.heap.size, 2, none⟩ = some (.int .i64 0) := cell_of_row _ _ _ _ _ _ Z1.out
          have Z1_f0 : W0.frozen? ⟨w.heap.size, 0, none⟩ = false := (by simp [World.frozen?, Z1.out])
          have Z1_f1 : W0.frozen? ⟨w.heap.size, 1, none⟩ = false := (by simp [World.frozen?, Z1.out])
          have Z1_f2 : W0.frozen? ⟨w.heap.size, 2, none⟩ = false := (by simp [World.frozen?, Z1.out])
          have zZ1 := lt_of_heap Z1.out
          have D1_0 : W0.cell? ⟨w.heap.size + 1, 0, none⟩ = some (.int .i64 y) := cell_of_row _ _ _ _ _ _ D1.out
          have D1_1 : W0.cell? ⟨w.heap.size + 1, 1, none⟩ = some (.int .i64 KM) := cell_of_row _ _ _ _ _ _ D1.out
          have D1_2 : W0.cell? ⟨w.heap.size + 1, 2, none⟩ = some (.int .i64 D) := cell_of_row _ _ _ _ _ _ D1.out
          have D1_f0 : W0.frozen? ⟨w.heap.size + 1, 0, none⟩ = false := (by simp [World.frozen?, D1.out])
          have D1_f1 : W0.frozen? ⟨w.heap.size + 1, 1, none⟩ = false := (by simp [World.frozen?, D1.out])
          have D1_f2 : W0.frozen? ⟨w.heap.size + 1, 2, none⟩ = false := (by simp [World.frozen?, D1.out])
          have zD1 := lt_of_heap D1.out
          try rw [← HW0.out]
          go_cut [22] from 11 to 34 (fun s22 wx => s22 = .bool false ∧ Below W0.heap.size W0 wx)
          case first =>
            go_region_held3 (fun w' => Below W0.heap.size W0 w' ∧ w'.cell? ⟨w.heap.size + 1, 0, none⟩ = some (.int .i64 y) ∧ w'.cell? ⟨w.heap.size + 1, 1, none⟩ = some (.int .i64 KM) ∧ w'.cell? ⟨w.heap.size + 1, 2, none⟩ = some (.int .i64 D))
    (first
      | ((try go_split_ands); refine ⟨(Below.refl _ _).drew, ?_, ?_, ?_⟩ <;> first | assumption | (rw [World.cell?_drew]; assumption))
      | ((try go_split_ands); refine ⟨keepS (W0 := W0) ?_ hb1, cellS (W0 := W0) ?_ hb1 ?_ ?_, cellS (W0 := W0) ?_ hb1 ?_ ?_, cellS (W0 := W0) ?_ hb1 ?_ ?_⟩ <;> first | assumption | omega)
      | ((try go_split_ands); refine ⟨keepA (W0 := W0) ?_ _, cellA (W0 := W0) ?_ _ ?_ ?_, cellA (W0 := W0) ?_ _ ?_ ?_, cellA (W0 := W0) ?_ _ ?_ ?_⟩ <;> first | assumption | omega)
      | ((try go_split_ands); refine ⟨keepAd (W0 := W0) ?_ _, cellAd (W0 := W0) ?_ _ ?_ ?_, cellAd (W0 := W0) ?_ _ ?_ ?_, cellAd (W0 := W0) ?_ _ ?_ ?_⟩ <;> first | assumption | omega | exact Below.refl _ _)
      | ((try go_split_ands); (with_reducible refine ⟨keep3 (W0 := W0) ?_ ?_ _ _ _, cell3 (W0 := W0) ?_ _ _ _ ?_ ?_, cell3 (W0 := W0) ?_ _ _ _ ?_ ?_, cell3 (W0 := W0) ?_ _ _ _ ?_ ?_⟩) <;> first | assumption | omega | exact Nat.le_refl _)
      | ((try go_split_ands); refine ⟨keep2 (W0 := W0) ?_ ?_ _ _, cell2 (W0 := W0) ?_ _ _ ?_ ?_, cell2 (W0 := W0) ?_ _ _ ?_ ?_, cell2 (W0 := W0) ?_ _ _ ?_ ?_⟩ <;> first | assumption | omega | exact Nat.le_refl _)
      | ((try go_split_ands); refine ⟨keepZ (W0 := W0) ?_ ?_ _, cellZ (W0 := W0) ?_ _ ?_ ?_, cellZ (W0 := W0) ?_ _ ?_ ?_, cellZ (W0 := W0) ?_ _ ?_ ?_⟩ <;> first | assumption | omega | exact Nat.le_refl _ | exact ⟨_, by assumption⟩))
    (first | (go_at_call 55; refine (H1.out _ (by first | exact md_keep (Lib.hid (md_keep hM HB0.out)) (by assumption) | exact md_keep (Lib.hid (md_keep hM HB0.out)) (by (try go_split_ands); assumption) | exact md_keep (Lib.hid (md_keep hM HB0.out)) (Below.refl _ _).drew)).mono ?_; rintro e w1 ⟨rfl, hb1⟩; (try go_split_ands); have hge : W0.heap.size ≤ w1.heap.size := (by first | (refine (keepS (W0 := W0) ?_ hb1).size; assumption) | exact (hb1.size : W0.heap.size ≤ w1.heap.size)); (try have hrow := row_call hb1 hrow); (try have hrow := row_new hb1); (try have hrow := row_newd hb1); have hl1 := lt_below hb1; obtain ⟨hc1, hf1⟩ := bcell hb1; (try (have hrc := row_cellA hrow; clear hc1 hf1)); (try have hrf := row_frozA hrow)))
            all_goals (try go_split_ands)
            all_goals (go_wp2_with fail; go_meet; refine ⟨rfl, ?_⟩)
            all_goals first | (with_reducible assumption) | (with_reducible exact heap_alloc_new _ _) | (with_reducible exact row_set3 (by assumption) _ _ _) | assumption | exact heap_alloc_new _ _ | exact row_set (by assumption) _ _
          case rest =>
            obtain ⟨rfl, hB⟩ := hcut
            obtain ⟨V21, rfl⟩ : ∃ V, V = wc := ⟨_, rfl⟩
            clear Z1_0 Z1_1 Z1_2 Z1_f0 Z1_f1 Z1_f2 zZ1 D1_0 D1_1 D1_2 D1_f0 D1_f1 D1_f2 zD1
            replace Z1 := Lib.hid (row_call hB Z1.out)
            replace D1 := Lib.hid (row_call hB D1.out)
            have B21 := Lib.hid (HB0.out.trans (hB.mono HB0.out.size))
            clear hB
            have Z1_0 : V21.cell? ⟨w.heap.size, 0, none⟩ = some (.int .i64 0) := cell_of_row _ _ _ _ _ _ Z1.out
            have Z1_1 : V21.cell? ⟨w.heap.size, 1, none⟩ = some (.int .i64 0) := cell_of_row _ _ _ _ _ _ Z1.out
            have Z1_2 : V21.cell? ⟨w.heap.size, 2, none⟩ = some (.int .i64 0) := cell_of_row _ _ _ _ _ _ Z1.out
            have Z1_f0 : V21.frozen? ⟨w.heap.size, 0, none⟩ = false := (by simp [World.frozen?, Z1.out])
            have Z1_f1 : V21.frozen? ⟨w.heap.size, 1, none⟩ = false := (by simp [World.frozen?, Z1.out])
            have Z1_f2 : V21.frozen? ⟨w.heap.size, 2, none⟩ = false := (by simp [World.frozen?, Z1.out])
            have zZ1 := lt_of_heap Z1.out
            have D1_0 : V21.cell? ⟨w.heap.size + 1, 0, none⟩ = some (.int .i64 y) := cell_of_row _ _ _ _ _ _ D1.out
            have D1_1 : V21.cell? ⟨w.heap.size + 1, 1, none⟩ = some (.int .i64 KM) := cell_of_row _ _ _ _ _ _ D1.out
            have D1_2 : V21.cell? ⟨w.heap.size + 1, 2, none⟩ = some (.int .i64 D) := cell_of_row _ _ _ _ _ _ D1.out
            have D1_f0 : V21.frozen? ⟨w.heap.size + 1, 0, none⟩ = false := (by simp [World.frozen?, D1.out])
            have D1_f1 : V21.frozen? ⟨w.heap.size + 1, 1, none⟩ = false := (by simp [World.frozen?, D1.out])
            have D1_f2 : V21.frozen? ⟨w.heap.size + 1, 2, none⟩ = false := (by simp [World.frozen?, D1.out])
            have zD1 := lt_of_heap D1.out
            go_wp2_with fail
            refine (H9.out _ (by first | exact md_keep hM (B21.out) | exact md_keep hM ((B21.out).alloc (B21.out.size) _) | exact md_keep hM (((B21.out).alloc (B21.out.size) _).alloc (by have := B21.out.size; simp <;> omega) _) | exact md_keep hM ((((B21.out).alloc (B21.out.size) _).alloc (by have := B21.out.size; simp <;> omega) _).alloc (by have := B21.out.size; simp <;> omega) _))).mono ?_
            rintro e V22 ⟨rfl, hb22⟩
            clear Z1_0 Z1_1 Z1_2 Z1_f0 Z1_f1 Z1_f2 zZ1 D1_0 D1_1 D1_2 D1_f0 D1_f1 D1_f2 zD1
            have B22 : Hid (Below w.heap.size w V22) := by first | exact Lib.hid ((B21.out).trans (hb22.mono (by have := B21.out.size; first | assumption | (simp <;> omega) | (simp; done)))) | exact Lib.hid (((B21.out).alloc (B21.out.size) _).trans (hb22.mono (by have := B21.out.size; first | assumption | (simp <;> omega) | (simp; done)))) | exact Lib.hid ((((B21.out).alloc (B21.out.size) _).alloc (by have := B21.out.size; simp <;> omega) _).trans (hb22.mono (by have := B21.out.size; first | assumption | (simp <;> omega) | (simp; done)))) | exact Lib.hid (((((B21.out).alloc (B21.out.size) _).alloc (by have := B21.out.size; simp <;> omega) _).alloc (by have := B21.out.size; simp <;> omega) _).trans (hb22.mono (by have := B21.out.size; first | assumption | (simp <;> omega) | (simp; done))))
            first | replace Z1 := Lib.hid (row_call hb22 Z1.out) | replace Z1 := Lib.hid (row_call hb22 (row_alloc Z1.out _)) | replace Z1 := Lib.hid (row_call hb22 (row_alloc (row_alloc Z1.out _) _)) | replace Z1 := Lib.hid (row_call hb22 (row_alloc (row_alloc (row_alloc Z1.out _) _) _))
            first | replace D1 := Lib.hid (row_call hb22 D1.out) | replace D1 := Lib.hid (row_call hb22 (row_alloc D1.out _)) | replace D1 := Lib.hid (row_call hb22 (row_alloc (row_alloc D1.out _) _)) | replace D1 := Lib.hid (row_call hb22 (row_alloc (row_alloc (row_alloc D1.out _) _) _))
            clear hb22
            have Z1_0 : V22.cell? ⟨w.heap.size, 0, none⟩ = some (.int .i64 0) := cell_of_row _ _ _ _ _ _ Z1.out
            have Z1_1 : V22.cell? ⟨w.heap.size, 1, none⟩ = some (.int .i64 0) := cell_of_row _ _ _ _ _ _ Z1.out
            have Z1_2 : V22.cell? ⟨w.heap.size, 2, none⟩ = some (.int .i64 0) := cell_of_row _ _ _ _ _ _ Z1.out
            have Z1_f0 : V22.frozen? ⟨w.heap.size, 0, none⟩ = false := by simp [World.frozen?, Z1.out]
            have Z1_f1 : V22.frozen? ⟨w.heap.size, 1, none⟩ = false := by simp [World.frozen?, Z1.out]
            have Z1_f2 : V22.frozen? ⟨w.heap.size, 2, none⟩ = false := by simp [World.frozen?, Z1.out]
            have D1_0 : V22.cell? ⟨w.heap.size + 1, 0, none⟩ = some (.int .i64 y) := cell_of_row _ _ _ _ _ _ D1.out
            have D1_1 : V22.cell? ⟨w.heap.size + 1, 1, none⟩ = some (.int .i64 KM) := cell_of_row _ _ _ _ _ _ D1.out
            have D1_2 : V22.cell? ⟨w.heap.size + 1, 2, none⟩ = some (.int .i64 D) := cell_of_row _ _ _ _ _ _ D1.out
            have D1_f0 : V22.frozen? ⟨w.heap.size + 1, 0, none⟩ = false := by simp [World.frozen?, D1.out]
            have D1_f1 : V22.frozen? ⟨w.heap.size + 1, 1, none⟩ = false := by simp [World.frozen?, D1.out]
            have D1_f2 : V22.frozen? ⟨w.heap.size + 1, 2, none⟩ = false := by simp [World.frozen?, D1.out]
            have zZ1 := lt_of_heap Z1.out
            have zD1 := lt_of_heap D1.out
            go_simp
            go_wp2
            refine shut_ret (v := .tuple #[.agg #[.int .i64 y, .int .i64 KM, .int .i64 D], .int .i64 0]) (by simp [results, Tryd.results77, go_sem, zZ1, Z1_0, Z1_1, Z1_2, D1_0, D1_1, D1_2]) rfl ⟨by rw [hK2.out, hD2.out], ?_⟩
            exact keep3 B22.out (Nat.le_refl _) _ _ _
theorem stops_day {y n m d : Int} (hm : mayB y m d = true) (hd : dnI y m d = yst y + n - 1) : Stops y n (m - 1).toNat ∧ (((m - 1).toNat : Nat) : Int) + 1 = m ∧ n - cmN y (m - 1).toNat = d := by
  obtain ⟨p1, p2, p3, p4, p5⟩ := mayB_yes hm
  obtain ⟨e1, e2, e3⟩ := dn_in hm
  have hk : (((m - 1).toNat : Nat) : Int) + 1 = m := by omega
  have hn : n - cmN y (m - 1).toNat = d := by omega
  refine ⟨⟨by omega, fun j hj => ?_, Or.inr (by rw [hk, hn]; exact p2)⟩, hk, hn⟩
  have a := cm_mono y (j + 1) (m - 1).toNat (by omega)
  rw [cm_succ] at a
  omega
theorem pOfOrdinal_any (y n m d : Int) (b1 : -9223372036854775808 ≤ n) (b2 : n < 9223372036854775808) (y1 : -9999 ≤ y) (y2 : y ≤ 9999) (hm : mayB y m d = true) (hd : dnI y m d = yst y + n - 1) (w : World) (hM : MD w) :
    Calls Tryd.prog 77 #[.int .i64 y, .int .i64 n] w fun e w' => e = .returned (.tuple #[.agg #[.int .i64 y, .int .i64 m, .int .i64 d], .int .i64 0]) ∧ Below w.heap.size w w' := by
  obtain ⟨hs, hk, hn⟩ := stops_day hm hd
  have e : ckC y ((((m - 1).toNat : Nat) : Int) + 1) (n - cmN y (m - 1).toNat) = 0 := by rw [hk, hn]; exact ckC_ok hm (by omega)
  have X := pOo_ok y n _ hs b1 b2 e w hM
  rw [hk, hn] at X
  exact X
set_option maxHeartbeats 3200000 in
set_option maxRecDepth 100000 in
theorem pDateOf_out (n : Int) (h : n < -4371587 ∨ 2932896 < n) (w : World) : Calls Tryd.prog 59 #[.int .i64 n] w fun e w' => e = .returned (.tuple #[.agg #[.int .i64 0, .int .i64 0, .int .i64 0], .int .i64 8]) ∧ Below w.heap.size w w' := by
  rcases h with h | h
  · go_enter Tryd.func59, Tryd.ntmps59
    refine wp_shut ?_
    go_wp2
    refine shut_ret (v := .tuple #[.agg #[.int .i64 0, .int .i64 0, .int .i64 0], .int .i64 8]) (by simp [results, Tryd.results59, go_sem]) rfl ⟨rfl, ?_⟩
    go_grown
  · have h2 : ¬ n < -4371587 := by omega
    go_enter Tryd.func59, Tryd.ntmps59
    refine wp_shut ?_
    go_wp2
    refine shut_ret (v := .tuple #[.agg #[.int .i64 0, .int .i64 0, .int .i64 0], .int .i64 8]) (by simp [results, Tryd.results59, go_sem]) rfl ⟨rfl, ?_⟩
    go_grown
set_option maxHeartbeats 3200000 in
set_option maxRecDepth 100000 in
theorem pDateOf_any (y m d : Int) (hm : mayB y m d = true) (y1 : -9999 ≤ y) (y2 : y ≤ 9999) (w : World) (hM : MD w) : Calls Tryd.prog 59 #[.int .i64 (dnI y m d)] w fun e w' => e = .returned (.tuple #[.agg #[.int .i64 y, .int .i64 m, .int .i64 d], .int .i64 0]) ∧ Below w.heap.size w w' := by
  replace hM := Lib.hid hM
  obtain ⟨e1, e2, e3⟩ := dn_in hm
  obtain ⟨p1, p2, p3, p4, p5⟩ := mayB_yes hm
  have s1 := yst_mono y1
  have s3 := yst_succ y
  have s4 := yst_bounds
  have s6 := ydI_bd y
  have s8 := yst_mono (show y + 1 ≤ 10000 by omega)
  have r1 : yst y ≤ dnI y m d := by omega
  have r2 : dnI y m d < yst (y + 1) := by omega
  have r3 : -4371587 ≤ dnI y m d := by omega
  have r4 : dnI y m d ≤ 2932896 := by omega
  have H1 := Lib.hid (fun w => grow_of (pYearOf_p y (dnI y m d) r3 r4 r1 r2 w))
  have H2 := Lib.hid (fun w => grow_of (pFirst_p y ⟨y1, y2⟩ w))
  have H3 := Lib.hid (pOfOrdinal_any y (dnI y m d - yst y + 1) m d (by omega) (by omega) y1 y2 hm (by omega))
  have n1 : ¬ dnI y m d < -4371587 := by omega
  have n2 : ¬ 2932896 < dnI y m d := by omega
  have n3 : -5000000 ≤ yst y := by omega
  have n4 : yst y ≤ 5000000 := by omega
  clear e1 e2 e3 p1 p2 p3 p4 p5 s1 s3 s4 s6 s8 r1 r2 hm y1 y2
  generalize dnI y m d = n at *
  generalize yst y = S at *
  go_enter Tryd.func59, Tryd.ntmps59
  refine wp_shut ?_
  go_wp2_with fail
  
  refine (H1.out _).mono ?_
  rintro e V1 ⟨rfl, hb1⟩
  have B1 := Lib.hid (((Below.refl w.heap.size w).alloc (Nat.le_refl _) _).trans (hb1.mono (by first | assumption | (simp <;> omega) | (simp; done))))
  have Z1 := Lib.hid (row_call hb1 (heap_alloc_new _ _))
  clear hb1
  have Z1_0 : V1.cell? ⟨w.heap.size, 0, none⟩ = some (.int .i64 0) := cell_of_row _ _ _ _ _ _ Z1.out
  have Z1_1 : V1.cell? ⟨w.heap.size, 1, none⟩ = some (.int .i64 0) := cell_of_row _ _ _ _ _ _ Z1.out
  have Z1_2 : V1.cell? ⟨w.heap.size, 2, none⟩ = some (.int .i64 0) := cell_of_row _ _ _ _ _ _ Z1.out
  have Z1_f0 : V1.frozen? ⟨w.heap.size, 0, none⟩ = false := by simp [World.frozen?, Z1.out]
  have Z1_f1 : V1.frozen? ⟨w.heap.size, 1, none⟩ = false := by simp [World.frozen?, Z1.out]
  have Z1_f2 : V1.frozen? ⟨w.heap.size, 2, none⟩ = false := by simp [World.frozen?, Z1.out]
  have zZ1 := lt_of_heap Z1.out
  go_simp
  go_wp2_with fail
  refine (H2.out _).mono ?_
  rintro e V2 ⟨rfl, hb2⟩
  clear Z1_0 Z1_1 Z1_2 Z1_f0 Z1_f1 Z1_f2 zZ1
  have B2 : Hid (Below w.heap.size w V2) := by first | exact Lib.hid ((B1.out).trans (hb2.mono (by have := B1.out.size; first | assumption | (simp <;> omega) | (simp; done)))) | exact Lib.hid (((B1.out).alloc (B1.out.size) _).trans (hb2.mono (by have := B1.out.size; first | assumption | (simp <;> omega) | (simp; done)))) | exact Lib.hid ((((B1.out).alloc (B1.out.size) _).alloc (by have := B1.out.size; simp <;> omega) _).trans (hb2.mono (by have := B1.out.size; first | assumption | (simp <;> omega) | (simp; done)))) | exact Lib.hid (((((B1.out).alloc (B1.out.size) _).alloc (by have := B1.out.size; simp <;> omega) _).alloc (by have := B1.out.size; simp <;> omega) _).trans (hb2.mono (by have := B1.out.size; first | assumption | (simp <;> omega) | (simp; done))))
  first | replace Z1 := Lib.hid (row_call hb2 Z1.out) | replace Z1 := Lib.hid (row_call hb2 (row_alloc Z1.out _)) | replace Z1 := Lib.hid (row_call hb2 (row_alloc (row_alloc Z1.out _) _)) | replace Z1 := Lib.hid (row_call hb2 (row_alloc (row_alloc (row_alloc Z1.out _) _) _))
  clear hb2
  have Z1_0 : V2.cell? ⟨w.heap.size, 0, none⟩ = some (.int .i64 0) := cell_of_row _ _ _ _ _ _ Z1.out
  have Z1_1 : V2.cell? ⟨w.heap.size, 1, none⟩ = some (.int .i64 0) := cell_of_row _ _ _ _ _ _ Z1.out
  have Z1_2 : V2.cell? ⟨w.heap.size, 2, none⟩ = some (.int .i64 0) := cell_of_row _ _ _ _ _ _ Z1.out
  have Z1_f0 : V2.frozen? ⟨w.heap.size, 0, none⟩ = false := by simp [World.frozen?, Z1.out]
  have Z1_f1 : V2.frozen? ⟨w.heap.size, 1, none⟩ = false := by simp [World.frozen?, Z1.out]
  have Z1_f2 : V2.frozen? ⟨w.heap.size, 2, none⟩ = false := by simp [World.frozen?, Z1.out]
  have zZ1 := lt_of_heap Z1.out
  go_simp
  go_wp2_with fail
  refine (H3.out _ (by first | exact md_keep hM (B2.out) | exact md_keep hM ((B2.out).alloc (B2.out.size) _) | exact md_keep hM (((B2.out).alloc (B2.out.size) _).alloc (by have := B2.out.size; simp <;> omega) _) | exact md_keep hM ((((B2.out).alloc (B2.out.size) _).alloc (by have := B2.out.size; simp <;> omega) _).alloc (by have := B2.out.size; simp <;> omega) _))).mono ?_
  rintro e V3 ⟨rfl, hb3⟩
  clear Z1_0 Z1_1 Z1_2 Z1_f0 Z1_f1 Z1_f2 zZ1
  have B3 : Hid (Below w.heap.size w V3) := by first | exact Lib.hid ((B2.out).trans (hb3.mono (by have := B2.out.size; first | assumption | (simp <;> omega) | (simp; done)))) | exact Lib.hid (((B2.out).alloc (B2.out.size) _).trans (hb3.mono (by have := B2.out.size; first | assumption | (simp <;> omega) | (simp; done)))) | exact Lib.hid ((((B2.out).alloc (B2.out.size) _).alloc (by have := B2.out.size; simp <;> omega) _).trans (hb3.mono (by have := B2.out.size; first | assumption | (simp <;> omega) | (simp; done)))) | exact Lib.hid (((((B2.out).alloc (B2.out.size) _).alloc (by have := B2.out.size; simp <;> omega) _).alloc (by have := B2.out.size; simp <;> omega) _).trans (hb3.mono (by have := B2.out.size; first | assumption | (simp <;> omega) | (simp; done))))
  first | replace Z1 := Lib.hid (row_call hb3 Z1.out) | replace Z1 := Lib.hid (row_call hb3 (row_alloc Z1.out _)) | replace Z1 := Lib.hid (row_call hb3 (row_alloc (row_alloc Z1.out _) _)) | replace Z1 := Lib.hid (row_call hb3 (row_alloc (row_alloc (row_alloc Z1.out _) _) _))
  clear hb3
  have Z1_0 : V3.cell? ⟨w.heap.size, 0, none⟩ = some (.int .i64 0) := cell_of_row _ _ _ _ _ _ Z1.out
  have Z1_1 : V3.cell? ⟨w.heap.size, 1, none⟩ = some (.int .i64 0) := cell_of_row _ _ _ _ _ _ Z1.out
  have Z1_2 : V3.cell? ⟨w.heap.size, 2, none⟩ = some (.int .i64 0) := cell_of_row _ _ _ _ _ _ Z1.out
  have Z1_f0 : V3.frozen? ⟨w.heap.size, 0, none⟩ = false := by simp [World.frozen?, Z1.out]
  have Z1_f1 : V3.frozen? ⟨w.heap.size, 1, none⟩ = false := by simp [World.frozen?, Z1.out]
  have Z1_f2 : V3.frozen? ⟨w.heap.size, 2, none⟩ = false := by simp [World.frozen?, Z1.out]
  have zZ1 := lt_of_heap Z1.out
  go_simp
  go_wp2
  refine shut_ret (v := .tuple #[.agg #[.int .i64 y, .int .i64 m, .int .i64 d], .int .i64 0]) (by simp [results, Tryd.results59, go_sem, zZ1, Z1_0, Z1_1, Z1_2]) rfl ⟨rfl, ?_⟩
  exact keep3 B3.out (Nat.le_refl _) _ _ _
end Go.Proofs.YtaoljjhhbmblhaaDoor
namespace Go.Proofs.YtaoljjhhbmblhaaDoor
set_option linter.unusedVariables false
set_option linter.unusedSimpArgs false
open Go.ChangeShapes Go.WideShapes Go.ChangeAt Go.RowKit
theorem ord3_lt {y m d y' m' d' : Int} (h : dLt y m d y' m' d') : ord3 y m d y' m' d' = -1 ∧ ord3 y' m' d' y m d = 1 := by
  unfold dLt at h
  unfold ord3
  constructor
  all_goals
    repeat' split
    all_goals omega
theorem ord3_three (y m d y' m' d' : Int) : dLt y m d y' m' d' ∨ dLt y' m' d' y m d ∨ (y = y' ∧ m = m' ∧ d = d') := by unfold dLt; omega
theorem ord3_self (y m d : Int) : ord3 y m d y m d = 0 := by unfold ord3; repeat' split
                                                             all_goals omega
end Go.Proofs.YtaoljjhhbmblhaaDoor
namespace Go.Proofs.YtaoljjhhbmblhaaDoor
set_option linter.unusedVariables false
open Go.ChangeShapes Go.WideShapes Go.ChangeAt Go.RowKit
theorem pDateOf_is {n Y M D E : Int} (h : IsDate n Y M D E) (w : World) (hM : MD w) : Calls Tryd.prog 59 #[.int .i64 n] w fun e w' => e = .returned (.tuple #[.agg #[.int .i64 Y, .int .i64 M, .int .i64 D], .int .i64 E]) ∧ Below w.heap.size w w' := by
  rcases h with ⟨h, rfl, rfl, rfl, rfl⟩ | ⟨hm, y1, y2, rfl, rfl⟩
  · exact pDateOf_out n h w
  · exact pDateOf_any Y M D hm y1 y2 w hM
end Go.Proofs.YtaoljjhhbmblhaaDoor
namespace Go.Proofs.YtaoljjhhbmblhaaDoor
set_option linter.unusedVariables false
open Go.ChangeShapes Go.WideShapes Go.ChangeAt Go.RowKit
theorem gMD : Tryd.prog.globalNamed "analemma/civil.monthDays" = some 1 := by kernel_rfl
theorem tMD : (Tryd.prog.globals[1]?).map (·.type) = some 114 := by kernel_rfl
theorem cMD : Tryd.prog.cellsOf 114 = 12 := by kernel_rfl
theorem cInt : Tryd.prog.cellsOf 3 = 1 := by kernel_rfl
end Go.Proofs.YtaoljjhhbmblhaaDoor
