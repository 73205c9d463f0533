/- Several texts in one: CtA, CtE. -/
import Derived.Test.YtacpcjdiljnlaaaGreatDoorY2Sm
import Derived.Test.YtacpcjdiljnlaaaGreatDoorY2Pkg1
import Derived.Test.YtacpcjdiljnlaaaGreatDoorY2Ref1
import Derived.Test.YtacpcjdiljnlaaaGreatDoorY2Civ1
import Derived.Test.YtacpcjdiljnlaaaGreatDoorShelf
import Derived.Test.YtacpcjdiljnlaaaGreatDoorY2Pkg2
import Derived.Test.YtacpcjdiljnlaaaGreatDoorY2RowS1
import Derived.Test.YtacpcjdiljnlaaaGreatDoorY2Inst1
import Derived.Test.YtacpcjdiljnlaaaGreatDoorY2Clk1
import Derived.LoopN
import Derived.Lib.Small
import Derived.Outline
import Derived.Deep.Cut
import Derived.Deep.RegionHeld3
import Derived.OwnWalk
import Derived.Deep.DrawnRows
namespace Go.Proofs.YtacpcjdiljnlaaaGreatDoor
set_option linter.unusedVariables false
set_option linter.unusedSimpArgs false
open Go.ChangeShapes Go.WideShapes Go.ChangeAt Go.RowKit
@[irreducible] def ckT (y m d h i s n : Int) : Int := if ckK h i s n = 0 then ckC y m d else ckK h i s n
theorem ckT_ok {y m d h i s n : Int} (k : ckK h i s n = 0) : ckT y m d h i s n = ckC y m d := by unfold ckT; exact if_pos k
theorem ckT_no {y m d h i s n : Int} (k : ckK h i s n ≠ 0) : ckT y m d h i s n = ckK h i s n := by unfold ckT; exact if_neg k
set_option maxHeartbeats 1600000 in
set_option maxRecDepth 100000 in
theorem rtCheck_any (y m d h i s n : Int) (w : World) : Calls Tryz.prog 164 #[.agg #[.int .i64 y, .int .i64 m, .int .i64 d, .int .i64 h, .int .i64 i, .int .i64 s, .int .i64 n]] w fun e w' => e = .returned (.int .i64 (ckT y m d h i s n)) ∧ Below w.heap.size w w' := by
  have X1 := rkCheck_any h i s n
  by_cases k : ckK h i s n = 0
  · have E := Lib.hid (ckT_ok (y := y) (m := m) (d := d) k)
    rw [k] at X1
    have H1 := Lib.hid X1
    have H2 := Lib.hid (rCkC_any y m d)
    clear X1 k
    generalize ckC y m d = C at *
    go_enter Tryz.func164, Tryz.ntmps164
    go_wp2_with fail
    
    refine (H1.out _).mono ?_
    rintro e V1 ⟨rfl, hb1⟩
    have B1 := nby hb1
    have A1 := Lib.hid (row_call hb1 (heap_alloc_new _ _))
    clear hb1
    obtain ⟨A1_0, A1_1, A1_2, A1_3, A1_4, A1_5, A1_6⟩ := qw7 A1
    have zA1 := lt_of_heap A1.out
    go_simp
    go_wp2_with fail
    refine (H2.out _).mono ?_
    rintro e V2 ⟨rfl, hb2⟩
    clear A1_0 A1_1 A1_2 A1_3 A1_4 A1_5 A1_6 zA1
    have B2 : Hid (Below w.heap.size w V2) := nbx B1 hb2
    replace A1 := rcx hb2 A1
    clear hb2
    obtain ⟨A1_0, A1_1, A1_2, A1_3, A1_4, A1_5, A1_6⟩ := qw7 A1
    have zA1 := lt_of_heap A1.out
    go_simp
    go_wp2
    go_ret
    exact ⟨by rw [E.out]; try rfl, B2.out⟩
  · have E := Lib.hid (ckT_no (y := y) (m := m) (d := d) k)
    have H1 := Lib.hid X1
    clear X1
    generalize ckK h i s n = C at *
    have f1 : (C != 0) = true := by rw [bne_iff_ne]; exact k
    go_enter Tryz.func164, Tryz.ntmps164
    go_wp2_with fail
    
    refine (H1.out _).mono ?_
    rintro e V1 ⟨rfl, hb1⟩
    have B1 := nby hb1
    have A1 := Lib.hid (row_call hb1 (heap_alloc_new _ _))
    clear hb1
    obtain ⟨A1_0, A1_1, A1_2, A1_3, A1_4, A1_5, A1_6⟩ := qw7 A1
    have zA1 := lt_of_heap A1.out
    go_simp
    go_wp2
    go_ret
    exact ⟨by rw [E.out]; try rfl, B1.out⟩
def nuT (y m d h i s : Int) : Int := dnI y m d * 86400 + scK h i s
set_option maxHeartbeats 1600000 in
set_option maxRecDepth 100000 in
theorem rtNumber_any (y m d h i s n : Int) (k : okK h i s n) (hy : -10000 ≤ y ∧ y ≤ 10000) (hm : 1 ≤ m ∧ m ≤ 12) (hd : 1 ≤ d ∧ d ≤ 31) (w : World) : Calls Tryz.prog 165 #[.agg #[.int .i64 y, .int .i64 m, .int .i64 d, .int .i64 h, .int .i64 i, .int .i64 s, .int .i64 n]] w fun e w' => e = .returned (.int .i64 (nuT y m d h i s)) ∧ Below w.heap.size w w' := by
  have H1 := Lib.hid (rNumber_any y m d (by omega) hm hd)
  have H2 := Lib.hid (rkSecs_any h i s n k)
  have h1 := dn_bd (y := y) (m := m) (d := d) (by omega) hm hd
  have h2 := scK_bd k
  have E : Hid (nuT y m d h i s = dnI y m d * 86400 + scK h i s) := Lib.hid rfl
  have g1 : IntKind.i64.wrap (dnI y m d * 86400) = dnI y m d * 86400 := by rw [IntKind.wrap_i64]; omega
  have g2 : IntKind.i64.wrap (dnI y m d * 86400 + scK h i s) = dnI y m d * 86400 + scK h i s := by rw [IntKind.wrap_i64]; omega
  clear h1 h2 hy hm hd k
  generalize dnI y m d = D at *
  generalize scK h i s = S at *
  go_enter Tryz.func165, Tryz.ntmps165
  go_wp2_with fail
  
  obtain ⟨W0, hW0⟩ : ∃ W0, W0 = (w.alloc (Obj.cells #[Value.int .i64 y, Value.int .i64 m, Value.int .i64 d, Value.int .i64 h, Value.int .i64 i, Value.int .i64 s, Value.int .i64 n] 78)) := ⟨_, rfl⟩
  have A1 := Lib.hid (row_at (k' := w.heap.size) (by simp) (row_by hW0 (heap_alloc_new _ _)))
  have HB0 := Lib.hid (below_by hW0 ((Below.refl w.heap.size w).alloc (by simp <;> omega) _))
  have HW0 := Lib.hid hW0
  clear hW0
  obtain ⟨A1_0, A1_1, A1_2, A1_3, A1_4, A1_5, A1_6⟩ := qw7 A1
  have zA1 := lt_of_heap A1.out
  try rw [← HW0.out]
  go_cut [2] (fun s2 wx => s2 = .int .i64 (D * 86400 + S) ∧ Below W0.heap.size W0 wx)
  case first =>
    go_region_held3 (fun w' => Below W0.heap.size W0 w' ∧ w'.cell? ⟨w.heap.size, 0, none⟩ = some (.int .i64 y) ∧ w'.cell? ⟨w.heap.size, 1, none⟩ = some (.int .i64 m) ∧ w'.cell? ⟨w.heap.size, 2, none⟩ = some (.int .i64 d) ∧ w'.cell? ⟨w.heap.size, 3, none⟩ = some (.int .i64 h) ∧ w'.cell? ⟨w.heap.size, 4, none⟩ = some (.int .i64 i) ∧ w'.cell? ⟨w.heap.size, 5, none⟩ = some (.int .i64 s) ∧ w'.cell? ⟨w.heap.size, 6, none⟩ = some (.int .i64 n))
    (first
      | ((try go_split_ands); refine ⟨(Below.refl _ _).drew, ?_, ?_, ?_, ?_, ?_, ?_, ?_⟩ <;> first | assumption | (rw [World.cell?_drew]; assumption))
      | ((try go_split_ands); refine ⟨keepS (W0 := W0) ?_ hb1, cellS (W0 := W0) ?_ hb1 ?_ ?_, cellS (W0 := W0) ?_ hb1 ?_ ?_, cellS (W0 := W0) ?_ hb1 ?_ ?_, cellS (W0 := W0) ?_ hb1 ?_ ?_, cellS (W0 := W0) ?_ hb1 ?_ ?_, cellS (W0 := W0) ?_ hb1 ?_ ?_, cellS (W0 := W0) ?_ hb1 ?_ ?_⟩ <;> first | assumption | omega)
      | ((try go_split_ands); refine ⟨keepA (W0 := W0) ?_ _, cellA (W0 := W0) ?_ _ ?_ ?_, cellA (W0 := W0) ?_ _ ?_ ?_, cellA (W0 := W0) ?_ _ ?_ ?_, cellA (W0 := W0) ?_ _ ?_ ?_, cellA (W0 := W0) ?_ _ ?_ ?_, cellA (W0 := W0) ?_ _ ?_ ?_, cellA (W0 := W0) ?_ _ ?_ ?_⟩ <;> first | assumption | omega)
      | ((try go_split_ands); refine ⟨keepAd (W0 := W0) ?_ _, cellAd (W0 := W0) ?_ _ ?_ ?_, cellAd (W0 := W0) ?_ _ ?_ ?_, cellAd (W0 := W0) ?_ _ ?_ ?_, cellAd (W0 := W0) ?_ _ ?_ ?_, cellAd (W0 := W0) ?_ _ ?_ ?_, cellAd (W0 := W0) ?_ _ ?_ ?_, cellAd (W0 := W0) ?_ _ ?_ ?_⟩ <;> first | assumption | omega | exact Below.refl _ _)
      | ((try go_split_ands); (with_reducible refine ⟨keep3 (W0 := W0) ?_ ?_ _ _ _, cell3 (W0 := W0) ?_ _ _ _ ?_ ?_, cell3 (W0 := W0) ?_ _ _ _ ?_ ?_, cell3 (W0 := W0) ?_ _ _ _ ?_ ?_, cell3 (W0 := W0) ?_ _ _ _ ?_ ?_, cell3 (W0 := W0) ?_ _ _ _ ?_ ?_, cell3 (W0 := W0) ?_ _ _ _ ?_ ?_, cell3 (W0 := W0) ?_ _ _ _ ?_ ?_⟩) <;> first | assumption | omega | exact Nat.le_refl _)
      | ((try go_split_ands); refine ⟨keep2 (W0 := W0) ?_ ?_ _ _, cell2 (W0 := W0) ?_ _ _ ?_ ?_, cell2 (W0 := W0) ?_ _ _ ?_ ?_, cell2 (W0 := W0) ?_ _ _ ?_ ?_, cell2 (W0 := W0) ?_ _ _ ?_ ?_, cell2 (W0 := W0) ?_ _ _ ?_ ?_, cell2 (W0 := W0) ?_ _ _ ?_ ?_, cell2 (W0 := W0) ?_ _ _ ?_ ?_⟩ <;> first | assumption | omega | exact Nat.le_refl _)
      | ((try go_split_ands); refine ⟨keepZ (W0 := W0) ?_ ?_ _, cellZ (W0 := W0) ?_ _ ?_ ?_, cellZ (W0 := W0) ?_ _ ?_ ?_, cellZ (W0 := W0) ?_ _ ?_ ?_, cellZ (W0 := W0) ?_ _ ?_ ?_, cellZ (W0 := W0) ?_ _ ?_ ?_, cellZ (W0 := W0) ?_ _ ?_ ?_, cellZ (W0 := W0) ?_ _ ?_ ?_⟩ <;> first | assumption | omega | exact Nat.le_refl _ | exact ⟨_, by assumption⟩))
    (first | (go_at_call 53; (with_reducible refine (H1.out _).mono ?_); rintro e w1 ⟨rfl, hb1⟩; (try go_split_ands); have hge : W0.heap.size ≤ w1.heap.size := (by first | (refine (keepS (W0 := W0) ?_ hb1).size; assumption) | exact (hb1.size : W0.heap.size ≤ w1.heap.size)); (try have hrow := row_call hb1 hrow); (try have hrow := row_new hb1); (try have hrow := row_newd hb1); have hl1 := lt_below hb1; obtain ⟨hc1, hf1⟩ := bcell hb1; (try (have hrc := row_cellA hrow; clear hc1 hf1)); (try have hrf := row_frozA hrow)) | (go_at_call 171; (with_reducible refine (H2.out _).mono ?_); rintro e w1 ⟨rfl, hb1⟩; (try go_split_ands); have hge : W0.heap.size ≤ w1.heap.size := (by first | (refine (keepS (W0 := W0) ?_ hb1).size; assumption) | exact (hb1.size : W0.heap.size ≤ w1.heap.size)); (try have hrow := row_call hb1 hrow); (try have hrow := row_new hb1); (try have hrow := row_newd hb1); have hl1 := lt_below hb1; obtain ⟨hc1, hf1⟩ := bcell hb1; (try (have hrc := row_cellA hrow; clear hc1 hf1)); (try have hrf := row_frozA hrow)))
    all_goals (try go_split_ands)
    all_goals (go_wp2_with fail; go_meet; refine ⟨rfl, ?_⟩)
    all_goals first | (with_reducible assumption) | (with_reducible exact heap_alloc_new _ _) | (with_reducible exact row_set3 (by assumption) _ _ _) | assumption | exact heap_alloc_new _ _ | exact row_set (by assumption) _ _
  case rest =>
    obtain ⟨rfl, hB⟩ := hcut
    obtain ⟨V1, rfl⟩ : ∃ V, V = wc := ⟨_, rfl⟩
    clear A1_0 A1_1 A1_2 A1_3 A1_4 A1_5 A1_6 zA1
    replace A1 := Lib.hid (row_call hB A1.out)
    have B1 := Lib.hid (HB0.out.trans (hB.mono HB0.out.size))
    clear hB
    obtain ⟨A1_0, A1_1, A1_2, A1_3, A1_4, A1_5, A1_6⟩ := qw7 A1
    have zA1 := lt_of_heap A1.out
    go_wp2
    go_ret
    exact ⟨by rw [E.out]; try rfl, B1.out⟩
theorem of_ckT {y m d h i s n : Int} (hc : ckT y m d h i s n = 0) : okK h i s n ∧ ckC y m d = 0 ∧ (-10000 ≤ y ∧ y ≤ 10000) ∧ (1 ≤ m ∧ m ≤ 12) ∧ (1 ≤ d ∧ d ≤ 31) := by
  by_cases k : ckK h i s n = 0
  · rw [ckT_ok k] at hc
    obtain ⟨a, b, c⟩ := of_ckC hc
    obtain ⟨p1, p2, p3, p4, p5⟩ := mayB_yes a
    exact ⟨of_ckK k, hc, by omega, ⟨p3, p4⟩, ⟨p1, p5⟩⟩
  · rw [ckT_no k] at hc; exact absurd hc k
def seT (y m d h i s n : Int) : Int := if ckT y m d h i s n = 0 then nuT y m d h i s else 0
theorem seT_ok {y m d h i s n : Int} (k : ckT y m d h i s n = 0) : seT y m d h i s n = nuT y m d h i s := if_pos k
theorem seT_no {y m d h i s n : Int} (k : ckT y m d h i s n ≠ 0) : seT y m d h i s n = 0 := if_neg k
set_option maxHeartbeats 1600000 in
set_option maxRecDepth 100000 in
theorem rtSecs_any (y m d h i s n : Int) (w : World) : Calls Tryz.prog 149 #[.agg #[.int .i64 y, .int .i64 m, .int .i64 d, .int .i64 h, .int .i64 i, .int .i64 s, .int .i64 n]] w fun e w' => e = .returned (.tuple #[.int .i64 (seT y m d h i s n), .int .i64 (ckT y m d h i s n)]) ∧ Below w.heap.size w w' := by
  have X1 := rtCheck_any y m d h i s n
  by_cases hc : ckT y m d h i s n = 0
  · obtain ⟨k, _, hy, hm, hd⟩ := of_ckT hc
    have H2 := Lib.hid (rtNumber_any y m d h i s n k hy hm hd)
    rw [seT_ok hc, hc]
    rw [hc] at X1
    have H1 := Lib.hid X1
    clear X1 hc k hy hm hd
    generalize nuT y m d h i s = N at *
    go_enter Tryz.func149, Tryz.ntmps149
    go_wp2_with fail
    
    refine (H1.out _).mono ?_
    rintro e V1 ⟨rfl, hb1⟩
    have B1 := nby hb1
    have A1 := Lib.hid (row_call hb1 (heap_alloc_new _ _))
    clear hb1
    obtain ⟨A1_0, A1_1, A1_2, A1_3, A1_4, A1_5, A1_6⟩ := qw7 A1
    have zA1 := lt_of_heap A1.out
    go_simp
    go_wp2_with fail
    refine (H2.out _).mono ?_
    rintro e V2 ⟨rfl, hb2⟩
    clear A1_0 A1_1 A1_2 A1_3 A1_4 A1_5 A1_6 zA1
    have B2 : Hid (Below w.heap.size w V2) := nbx B1 hb2
    replace A1 := rcx hb2 A1
    clear hb2
    obtain ⟨A1_0, A1_1, A1_2, A1_3, A1_4, A1_5, A1_6⟩ := qw7 A1
    have zA1 := lt_of_heap A1.out
    go_simp
    go_wp2
    go_ret2
    exact ⟨rfl, B2.out⟩
  · rw [seT_no hc]
    have H1 := Lib.hid X1
    clear X1
    generalize ckT y m d h i s n = E at *
    have f1 : (E != 0) = true := by rw [bne_iff_ne]; exact hc
    go_enter Tryz.func149, Tryz.ntmps149
    go_wp2_with fail
    
    refine (H1.out _).mono ?_
    rintro e V1 ⟨rfl, hb1⟩
    have B1 := nby hb1
    have A1 := Lib.hid (row_call hb1 (heap_alloc_new _ _))
    clear hb1
    obtain ⟨A1_0, A1_1, A1_2, A1_3, A1_4, A1_5, A1_6⟩ := qw7 A1
    have zA1 := lt_of_heap A1.out
    go_simp
    go_wp2
    go_ret2
    exact ⟨rfl, B1.out⟩
end Go.Proofs.YtacpcjdiljnlaaaGreatDoor
namespace Go.Proofs.YtacpcjdiljnlaaaGreatDoor
set_option linter.unusedVariables false
set_option linter.unusedSimpArgs false
open Go.ChangeShapes Go.WideShapes Go.ChangeAt Go.RowKit
def IsCiv (S n y m d h i s k E : Int) : Prop :=
  ((n < 0 ∨ 1000000000 ≤ n) ∧ y = 0 ∧ m = 0 ∧ d = 0 ∧ h = 0 ∧ i = 0 ∧ s = 0 ∧ k = 0 ∧ E = 5) ∨
  (0 ≤ n ∧ n < 1000000000 ∧ (S < -377705116800 ∨ 253402300799 < S) ∧ y = 0 ∧ m = 0 ∧ d = 0 ∧ h = 0 ∧ i = 0 ∧ s = 0 ∧ k = 0 ∧ E = 8) ∨
  (0 ≤ n ∧ n < 1000000000 ∧ -377705116800 ≤ S ∧ S ≤ 253402300799 ∧ mayB y m d = true ∧ -9999 ≤ y ∧ y ≤ 9999 ∧ dnI y m d = S / 86400 ∧ h = S % 86400 / 3600 ∧ i = S % 86400 / 60 % 60 ∧ s = S % 86400 % 60 ∧ k = n ∧ E = 0)
theorem isCiv_ex (S n : Int) : ∃ y m d h i s k E, IsCiv S n y m d h i s k E := by
  by_cases hn : n < 0 ∨ 1000000000 ≤ n
  · exact ⟨0, 0, 0, 0, 0, 0, 0, 5, Or.inl ⟨hn, rfl, rfl, rfl, rfl, rfl, rfl, rfl, rfl⟩⟩
  · by_cases hS : S < -377705116800 ∨ 253402300799 < S
    · exact ⟨0, 0, 0, 0, 0, 0, 0, 8, Or.inr (Or.inl ⟨by omega, by omega, hS, rfl, rfl, rfl, rfl, rfl, rfl, rfl, rfl⟩)⟩
    · obtain ⟨y, m, d, hm, y1, y2, e⟩ := date_ex (S / 86400) (by omega) (by omega)
      exact ⟨y, m, d, _, _, _, n, 0, Or.inr (Or.inr ⟨by omega, by omega, by omega, by omega, hm, y1, y2, e, rfl, rfl, rfl, rfl, rfl⟩)⟩
theorem isCiv_back {y m d h i s n : Int} (hc : ckT y m d h i s n = 0) : IsCiv (nuT y m d h i s) n y m d h i s n 0 ∧ ckI (nuT y m d h i s) n = 0 := by
  obtain ⟨ok, cd, _, hm, hd⟩ := of_ckT hc
  obtain ⟨mb, y1, y2⟩ := of_ckC cd
  obtain ⟨i1, i2, i3⟩ := dn_in mb
  have a := yst_mono y1
  have b := yst_mono (show y + 1 ≤ 10000 by omega)
  have c := yst_succ y
  have e := yst_bounds
  have f := (mayB_yes mb).1
  have bd := scK_bd ok
  have hs : nuT y m d h i s = dnI y m d * 86400 + scK h i s := rfl
  have q : nuT y m d h i s / 86400 = dnI y m d ∧ nuT y m d h i s % 86400 = scK h i s := by omega
  have r1 : -377705116800 ≤ nuT y m d h i s := by omega
  have r2 : nuT y m d h i s ≤ 253402300799 := by omega
  unfold okK at ok
  refine ⟨Or.inr (Or.inr ⟨ok.2.2.2.2.2.2.1, ok.2.2.2.2.2.2.2, r1, r2, mb, y1, y2, q.1.symm, ?_, ?_, ?_, rfl, rfl⟩), ckI_ok (wmB_true ok.2.2.2.2.2.2.1 ok.2.2.2.2.2.2.2) (by omega)⟩
  · rw [q.2]; unfold scK; omega
  · rw [q.2]; unfold scK; omega
  · rw [q.2]; unfold scK; omega
end Go.Proofs.YtacpcjdiljnlaaaGreatDoor
