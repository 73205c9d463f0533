/- Several texts in one: CtA, CtE, CtF, CtG. -/
import Derived.Test.YteinjdmkmfeniaaGreatDoorZPkg1
import Derived.Test.YteinjdmkmfeniaaGreatDoorZRef1
import Derived.Test.YteinjdmkmfeniaaGreatDoorShelf
import Derived.Test.YteinjdmkmfeniaaGreatDoorZPkg2
import Derived.Test.YteinjdmkmfeniaaGreatDoorZRowS1
import Derived.Test.YteinjdmkmfeniaaGreatDoorZCiv1
import Derived.Test.YteinjdmkmfeniaaGreatDoorZInst1
import Derived.Test.YteinjdmkmfeniaaGreatDoorZClk1
import Derived.Test.YteinjdmkmfeniaaGreatDoorZTab1
import Derived.Test.YteinjdmkmfeniaaGreatDoorZOrE1
import Derived.Lib.Small
import Derived.Outline
import Derived.Deep.Cut
import Derived.Deep.RegionHeld3
import Derived.OwnWalk
import Derived.Deep.DrawnRows
namespace Go.Proofs.YteinjdmkmfeniaaGreatDoor
set_option linter.unusedVariables false
set_option linter.unusedSimpArgs false
open Go.ChangeShapes Go.WideShapes Go.ChangeAt Go.RowKit
@[irreducible] def ckT (y m d h i s n : Int) : Int := if ckK h i s n = 0 then ckC y m d else ckK h i s n
theorem ckT_ok {y m d h i s n : Int} (k : ckK h i s n = 0) : ckT y m d h i s n = ckC y m d := by unfold ckT; exact if_pos k
theorem ckT_no {y m d h i s n : Int} (k : ckK h i s n ≠ 0) : ckT y m d h i s n = ckK h i s n := by unfold ckT; exact if_neg k
def nuT (y m d h i s : Int) : Int := dnI y m d * 86400 + scK h i s
theorem of_ckT {y m d h i s n : Int} (hc : ckT y m d h i s n = 0) : okK h i s n ∧ ckC y m d = 0 ∧ (-10000 ≤ y ∧ y ≤ 10000) ∧ (1 ≤ m ∧ m ≤ 12) ∧ (1 ≤ d ∧ d ≤ 31) := by
  by_cases k : ckK h i s n = 0
  · rw [ckT_ok k] at hc
    obtain ⟨a, b, c⟩ := of_ckC hc
    obtain ⟨p1, p2, p3, p4, p5⟩ := mayB_yes a
    exact ⟨of_ckK k, hc, by omega, ⟨p3, p4⟩, ⟨p1, p5⟩⟩
  · rw [ckT_no k] at hc; exact absurd hc k
def seT (y m d h i s n : Int) : Int := if ckT y m d h i s n = 0 then nuT y m d h i s else 0
theorem seT_ok {y m d h i s n : Int} (k : ckT y m d h i s n = 0) : seT y m d h i s n = nuT y m d h i s := if_pos k
theorem seT_no {y m d h i s n : Int} (k : ckT y m d h i s n ≠ 0) : seT y m d h i s n = 0 := if_neg k
end Go.Proofs.YteinjdmkmfeniaaGreatDoor
namespace Go.Proofs.YteinjdmkmfeniaaGreatDoor
set_option linter.unusedVariables false
set_option linter.unusedSimpArgs false
open Go.ChangeShapes Go.WideShapes Go.ChangeAt Go.RowKit
def IsCiv (S n y m d h i s k E : Int) : Prop :=
  ((n < 0 ∨ 1000000000 ≤ n) ∧ y = 0 ∧ m = 0 ∧ d = 0 ∧ h = 0 ∧ i = 0 ∧ s = 0 ∧ k = 0 ∧ E = 5) ∨
  (0 ≤ n ∧ n < 1000000000 ∧ (S < -377705116800 ∨ 253402300799 < S) ∧ y = 0 ∧ m = 0 ∧ d = 0 ∧ h = 0 ∧ i = 0 ∧ s = 0 ∧ k = 0 ∧ E = 8) ∨
  (0 ≤ n ∧ n < 1000000000 ∧ -377705116800 ≤ S ∧ S ≤ 253402300799 ∧ mayB y m d = true ∧ -9999 ≤ y ∧ y ≤ 9999 ∧ dnI y m d = S / 86400 ∧ h = S % 86400 / 3600 ∧ i = S % 86400 / 60 % 60 ∧ s = S % 86400 % 60 ∧ k = n ∧ E = 0)
theorem isCiv_ex (S n : Int) : ∃ y m d h i s k E, IsCiv S n y m d h i s k E := by
  by_cases hn : n < 0 ∨ 1000000000 ≤ n
  · exact ⟨0, 0, 0, 0, 0, 0, 0, 5, Or.inl ⟨hn, rfl, rfl, rfl, rfl, rfl, rfl, rfl, rfl⟩⟩
  · by_cases hS : S < -377705116800 ∨ 253402300799 < S
    · exact ⟨0, 0, 0, 0, 0, 0, 0, 8, Or.inr (Or.inl ⟨by omega, by omega, hS, rfl, rfl, rfl, rfl, rfl, rfl, rfl, rfl⟩)⟩
    · obtain ⟨y, m, d, hm, y1, y2, e⟩ := date_ex (S / 86400) (by omega) (by omega)
      exact ⟨y, m, d, _, _, _, n, 0, Or.inr (Or.inr ⟨by omega, by omega, by omega, by omega, hm, y1, y2, e, rfl, rfl, rfl, rfl, rfl⟩)⟩
theorem isCiv_back {y m d h i s n : Int} (hc : ckT y m d h i s n = 0) : IsCiv (nuT y m d h i s) n y m d h i s n 0 ∧ ckI (nuT y m d h i s) n = 0 := by
  obtain ⟨ok, cd, _, hm, hd⟩ := of_ckT hc
  obtain ⟨mb, y1, y2⟩ := of_ckC cd
  obtain ⟨i1, i2, i3⟩ := dn_in mb
  have a := yst_mono y1
  have b := yst_mono (show y + 1 ≤ 10000 by omega)
  have c := yst_succ y
  have e := yst_bounds
  have f := (mayB_yes mb).1
  have bd := scK_bd ok
  have hs : nuT y m d h i s = dnI y m d * 86400 + scK h i s := rfl
  have q : nuT y m d h i s / 86400 = dnI y m d ∧ nuT y m d h i s % 86400 = scK h i s := by omega
  have r1 : -377705116800 ≤ nuT y m d h i s := by omega
  have r2 : nuT y m d h i s ≤ 253402300799 := by omega
  unfold okK at ok
  refine ⟨Or.inr (Or.inr ⟨ok.2.2.2.2.2.2.1, ok.2.2.2.2.2.2.2, r1, r2, mb, y1, y2, q.1.symm, ?_, ?_, ?_, rfl, rfl⟩), ckI_ok (wmB_true ok.2.2.2.2.2.2.1 ok.2.2.2.2.2.2.2) (by omega)⟩
  · rw [q.2]; unfold scK; omega
  · rw [q.2]; unfold scK; omega
  · rw [q.2]; unfold scK; omega
end Go.Proofs.YteinjdmkmfeniaaGreatDoor
namespace Go.Proofs.YteinjdmkmfeniaaGreatDoor
set_option linter.unusedVariables false
set_option linter.unusedSimpArgs false
open Go.ChangeShapes Go.WideShapes Go.ChangeAt Go.RowKit
theorem or2_ckT (y m d h i s n : Int) : or2 (ckK h i s n) (ckC y m d) = ckT y m d h i s n := by
  unfold or2
  by_cases k : ckK h i s n = 0
  · rw [if_pos k, ckT_ok k]
  · rw [if_neg k, ckT_no k]
set_option maxHeartbeats 1600000 in
set_option maxRecDepth 100000 in
theorem ptCheck_any (y m d h i s n : Int) (w : World) (hM : TB w) : Calls Tryz.prog 112 #[.agg #[.int .i64 y, .int .i64 m, .int .i64 d, .int .i64 h, .int .i64 i, .int .i64 s, .int .i64 n]] w fun e w' => e = .returned (.int .i64 (ckT y m d h i s n)) ∧ Below w.heap.size w w' := by
  have H1 := Lib.hid (fun w (hM : TB w) => pkCheck_any h i s n w hM.sz)
  have H2 := Lib.hid (fun w (hM : TB w) => pCheck_any y m d w hM.md)
  have X3 := or2_any (ckK h i s n) (ckC y m d)
  rw [or2_ckT] at X3
  have H3 := Lib.hid X3
  clear X3
  generalize ckT y m d h i s n = E at *
  generalize ckK h i s n = c1 at *
  generalize ckC y m d = c2 at *
  replace hM := Lib.hid hM
  go_enter Tryz.func112, Tryz.ntmps112
  go_wp2_with fail
  
  obtain ⟨W0, hW0⟩ : ∃ W0, W0 = (w.alloc (Obj.cells #[Value.int .i64 y, Value.int .i64 m, Value.int .i64 d, Value.int .i64 h, Value.int .i64 i, Value.int .i64 s, Value.int .i64 n] 126)) := ⟨_, rfl⟩
  have A1 := Lib.hid (row_at (k' := w.heap.size) (by simp) (row_by hW0 (heap_alloc_new _ _)))
  have HB0 := Lib.hid (below_by hW0 ((Below.refl w.heap.size w).alloc (by simp <;> omega) _))
  have HW0 := Lib.hid hW0
  clear hW0
  have A1_0 : W0.cell? ⟨w.heap.size, 0, none⟩ = some (.int .i64 y) := cell_of_row _ _ _ _ _ _ A1.out
  have A1_1 : W0.cell? ⟨w.heap.size, 1, none⟩ = some (.int .i64 m) := cell_of_row _ _ _ _ _ _ A1.out
  have A1_2 : W0.cell? ⟨w.heap.size, 2, none⟩ = some (.int .i64 d) := cell_of_row _ _ _ _ _ _ A1.out
  have A1_3 : W0.cell? ⟨w.heap.size, 3, none⟩ = some (.int .i64 h) := cell_of_row _ _ _ _ _ _ A1.out
  have A1_4 : W0.cell? ⟨w.heap.size, 4, none⟩ = some (.int .i64 i) := cell_of_row _ _ _ _ _ _ A1.out
  have A1_5 : W0.cell? ⟨w.heap.size, 5, none⟩ = some (.int .i64 s) := cell_of_row _ _ _ _ _ _ A1.out
  have A1_6 : W0.cell? ⟨w.heap.size, 6, none⟩ = some (.int .i64 n) := cell_of_row _ _ _ _ _ _ A1.out
  have zA1 := lt_of_heap A1.out
  try rw [← HW0.out]
  go_cut [2] (fun s2 wx => s2 = .int .i64 E ∧ Below W0.heap.size W0 wx)
  case first =>
    go_region_held3 (fun w' => Below W0.heap.size W0 w' ∧ w'.cell? ⟨w.heap.size, 0, none⟩ = some (.int .i64 y) ∧ w'.cell? ⟨w.heap.size, 1, none⟩ = some (.int .i64 m) ∧ w'.cell? ⟨w.heap.size, 2, none⟩ = some (.int .i64 d) ∧ w'.cell? ⟨w.heap.size, 3, none⟩ = some (.int .i64 h) ∧ w'.cell? ⟨w.heap.size, 4, none⟩ = some (.int .i64 i) ∧ w'.cell? ⟨w.heap.size, 5, none⟩ = some (.int .i64 s) ∧ w'.cell? ⟨w.heap.size, 6, none⟩ = some (.int .i64 n))
    (first
      | ((try go_split_ands); refine ⟨(Below.refl _ _).drew, ?_, ?_, ?_, ?_, ?_, ?_, ?_⟩ <;> first | assumption | (rw [World.cell?_drew]; assumption))
      | ((try go_split_ands); refine ⟨keepS (W0 := W0) ?_ hb1, cellS (W0 := W0) ?_ hb1 ?_ ?_, cellS (W0 := W0) ?_ hb1 ?_ ?_, cellS (W0 := W0) ?_ hb1 ?_ ?_, cellS (W0 := W0) ?_ hb1 ?_ ?_, cellS (W0 := W0) ?_ hb1 ?_ ?_, cellS (W0 := W0) ?_ hb1 ?_ ?_, cellS (W0 := W0) ?_ hb1 ?_ ?_⟩ <;> first | assumption | omega)
      | ((try go_split_ands); refine ⟨keepA (W0 := W0) ?_ _, cellA (W0 := W0) ?_ _ ?_ ?_, cellA (W0 := W0) ?_ _ ?_ ?_, cellA (W0 := W0) ?_ _ ?_ ?_, cellA (W0 := W0) ?_ _ ?_ ?_, cellA (W0 := W0) ?_ _ ?_ ?_, cellA (W0 := W0) ?_ _ ?_ ?_, cellA (W0 := W0) ?_ _ ?_ ?_⟩ <;> first | assumption | omega)
      | ((try go_split_ands); refine ⟨keepAd (W0 := W0) ?_ _, cellAd (W0 := W0) ?_ _ ?_ ?_, cellAd (W0 := W0) ?_ _ ?_ ?_, cellAd (W0 := W0) ?_ _ ?_ ?_, cellAd (W0 := W0) ?_ _ ?_ ?_, cellAd (W0 := W0) ?_ _ ?_ ?_, cellAd (W0 := W0) ?_ _ ?_ ?_, cellAd (W0 := W0) ?_ _ ?_ ?_⟩ <;> first | assumption | omega | exact Below.refl _ _)
      | ((try go_split_ands); (with_reducible refine ⟨keep3 (W0 := W0) ?_ ?_ _ _ _, cell3 (W0 := W0) ?_ _ _ _ ?_ ?_, cell3 (W0 := W0) ?_ _ _ _ ?_ ?_, cell3 (W0 := W0) ?_ _ _ _ ?_ ?_, cell3 (W0 := W0) ?_ _ _ _ ?_ ?_, cell3 (W0 := W0) ?_ _ _ _ ?_ ?_, cell3 (W0 := W0) ?_ _ _ _ ?_ ?_, cell3 (W0 := W0) ?_ _ _ _ ?_ ?_⟩) <;> first | assumption | omega | exact Nat.le_refl _)
      | ((try go_split_ands); refine ⟨keep2 (W0 := W0) ?_ ?_ _ _, cell2 (W0 := W0) ?_ _ _ ?_ ?_, cell2 (W0 := W0) ?_ _ _ ?_ ?_, cell2 (W0 := W0) ?_ _ _ ?_ ?_, cell2 (W0 := W0) ?_ _ _ ?_ ?_, cell2 (W0 := W0) ?_ _ _ ?_ ?_, cell2 (W0 := W0) ?_ _ _ ?_ ?_, cell2 (W0 := W0) ?_ _ _ ?_ ?_⟩ <;> first | assumption | omega | exact Nat.le_refl _)
      | ((try go_split_ands); refine ⟨keepZ (W0 := W0) ?_ ?_ _, cellZ (W0 := W0) ?_ _ ?_ ?_, cellZ (W0 := W0) ?_ _ ?_ ?_, cellZ (W0 := W0) ?_ _ ?_ ?_, cellZ (W0 := W0) ?_ _ ?_ ?_, cellZ (W0 := W0) ?_ _ ?_ ?_, cellZ (W0 := W0) ?_ _ ?_ ?_, cellZ (W0 := W0) ?_ _ ?_ ?_⟩ <;> first | assumption | omega | exact Nat.le_refl _ | exact ⟨_, by assumption⟩))
    (first | (go_at_call 123; (with_reducible refine (H1.out _ ?_).mono ?_); (focus (refine tb_keep (Lib.hid (tb_keep hM HB0.out)) ?_; first | assumption | (with_reducible exact (Below.refl _ _).drew) | (go_split_ands; done) | ((try go_split_ands); assumption))); rintro e w1 ⟨rfl, hb1⟩; (try go_split_ands); have hge : W0.heap.size ≤ w1.heap.size := (by first | (refine (keepS (W0 := W0) ?_ hb1).size; assumption) | exact (hb1.size : W0.heap.size ≤ w1.heap.size)); (try have hrow := row_call hb1 hrow); (try have hrow := row_new hb1); (try have hrow := row_newd hb1); have hl1 := lt_below hb1; obtain ⟨hc1, hf1⟩ := bcell hb1; (try (have hrc := row_cellA hrow; clear hc1 hf1)); (try have hrf := row_frozA hrow)) | (go_at_call 124; (with_reducible refine (H2.out _ ?_).mono ?_); (focus (refine tb_keep (Lib.hid (tb_keep hM HB0.out)) ?_; first | assumption | (with_reducible exact (Below.refl _ _).drew) | (go_split_ands; done) | ((try go_split_ands); assumption))); rintro e w1 ⟨rfl, hb1⟩; (try go_split_ands); have hge : W0.heap.size ≤ w1.heap.size := (by first | (refine (keepS (W0 := W0) ?_ hb1).size; assumption) | exact (hb1.size : W0.heap.size ≤ w1.heap.size)); (try have hrow := row_call hb1 hrow); (try have hrow := row_new hb1); (try have hrow := row_newd hb1); have hl1 := lt_below hb1; obtain ⟨hc1, hf1⟩ := bcell hb1; (try (have hrc := row_cellA hrow; clear hc1 hf1)); (try have hrf := row_frozA hrow)) | (go_at_call 122; refine (H3.out _ _ (by simp [go_sem]) (by simp [go_sem])).mono ?_; rintro e w1 ⟨rfl, hb1⟩; (try go_split_ands); have hge : W0.heap.size ≤ w1.heap.size := (by first | (refine (keepS (W0 := W0) ?_ hb1).size; assumption) | exact (hb1.size : W0.heap.size ≤ w1.heap.size)); (try have hrow := row_call hb1 hrow); (try have hrow := row_new hb1); (try have hrow := row_newd hb1); have hl1 := lt_below hb1; obtain ⟨hc1, hf1⟩ := bcell hb1; (try (have hrc := row_cellA hrow; clear hc1 hf1)); (try have hrf := row_frozA hrow)) | (go_at_call 123; refine (H1.out _ (by first | exact tb_keep (Lib.hid (tb_keep hM HB0.out)) (by assumption) | exact tb_keep (Lib.hid (tb_keep hM HB0.out)) (by (try go_split_ands); assumption) | exact tb_keep (Lib.hid (tb_keep hM HB0.out)) (Below.refl _ _).drew)).mono ?_; rintro e w1 ⟨rfl, hb1⟩; (try go_split_ands); have hge : W0.heap.size ≤ w1.heap.size := (by first | (refine (keepS (W0 := W0) ?_ hb1).size; assumption) | exact (hb1.size : W0.heap.size ≤ w1.heap.size)); (try have hrow := row_call hb1 hrow); (try have hrow := row_new hb1); (try have hrow := row_newd hb1); have hl1 := lt_below hb1; obtain ⟨hc1, hf1⟩ := bcell hb1; (try (have hrc := row_cellA hrow; clear hc1 hf1)); (try have hrf := row_frozA hrow)) | (go_at_call 124; refine (H2.out _ (by first | exact tb_keep (Lib.hid (tb_keep hM HB0.out)) (by assumption) | exact tb_keep (Lib.hid (tb_keep hM HB0.out)) (by (try go_split_ands); assumption) | exact tb_keep (Lib.hid (tb_keep hM HB0.out)) (Below.refl _ _).drew)).mono ?_; rintro e w1 ⟨rfl, hb1⟩; (try go_split_ands); have hge : W0.heap.size ≤ w1.heap.size := (by first | (refine (keepS (W0 := W0) ?_ hb1).size; assumption) | exact (hb1.size : W0.heap.size ≤ w1.heap.size)); (try have hrow := row_call hb1 hrow); (try have hrow := row_new hb1); (try have hrow := row_newd hb1); have hl1 := lt_below hb1; obtain ⟨hc1, hf1⟩ := bcell hb1; (try (have hrc := row_cellA hrow; clear hc1 hf1)); (try have hrf := row_frozA hrow)))
    all_goals (try go_split_ands)
    all_goals (go_wp2_with fail; go_meet; refine ⟨rfl, ?_⟩)
    all_goals first | (with_reducible assumption) | (with_reducible exact heap_alloc_new _ _) | (with_reducible exact row_set3 (by assumption) _ _ _) | assumption | exact heap_alloc_new _ _ | exact row_set (by assumption) _ _
  case rest =>
    obtain ⟨rfl, hB⟩ := hcut
    obtain ⟨V1, rfl⟩ : ∃ V, V = wc := ⟨_, rfl⟩
    clear A1_0 A1_1 A1_2 A1_3 A1_4 A1_5 A1_6 zA1
    replace A1 := Lib.hid (row_call hB A1.out)
    have B1 := Lib.hid (HB0.out.trans (hB.mono HB0.out.size))
    clear hB
    have A1_0 : V1.cell? ⟨w.heap.size, 0, none⟩ = some (.int .i64 y) := cell_of_row _ _ _ _ _ _ A1.out
    have A1_1 : V1.cell? ⟨w.heap.size, 1, none⟩ = some (.int .i64 m) := cell_of_row _ _ _ _ _ _ A1.out
    have A1_2 : V1.cell? ⟨w.heap.size, 2, none⟩ = some (.int .i64 d) := cell_of_row _ _ _ _ _ _ A1.out
    have A1_3 : V1.cell? ⟨w.heap.size, 3, none⟩ = some (.int .i64 h) := cell_of_row _ _ _ _ _ _ A1.out
    have A1_4 : V1.cell? ⟨w.heap.size, 4, none⟩ = some (.int .i64 i) := cell_of_row _ _ _ _ _ _ A1.out
    have A1_5 : V1.cell? ⟨w.heap.size, 5, none⟩ = some (.int .i64 s) := cell_of_row _ _ _ _ _ _ A1.out
    have A1_6 : V1.cell? ⟨w.heap.size, 6, none⟩ = some (.int .i64 n) := cell_of_row _ _ _ _ _ _ A1.out
    have zA1 := lt_of_heap A1.out
    go_wp2
    go_ret
    exact ⟨rfl, B1.out⟩
@[irreducible] def rdD (y m d h i s n : Int) : Int := if ckT y m d h i s n = 0 then dnI y m d else 0
@[irreducible] def rdN (y m d h i s n : Int) : Int := if ckT y m d h i s n = 0 then scK h i s * 1000000000 + n else 0
theorem rd_ok {y m d h i s n : Int} (k : ckT y m d h i s n = 0) : rdD y m d h i s n = dnI y m d ∧ rdN y m d h i s n = scK h i s * 1000000000 + n := by unfold rdD rdN; exact ⟨if_pos k, if_pos k⟩
theorem rd_no {y m d h i s n : Int} (k : ckT y m d h i s n ≠ 0) : rdD y m d h i s n = 0 ∧ rdN y m d h i s n = 0 := by unfold rdD rdN; exact ⟨if_neg k, if_neg k⟩
theorem ckT_both {y m d h i s n : Int} (k : ckT y m d h i s n = 0) : ckK h i s n = 0 ∧ ckC y m d = 0 := by
  obtain ⟨a, b, _⟩ := of_ckT k
  exact ⟨ckK_ok a, b⟩
theorem dyV_ok {y m d : Int} (k : ckC y m d = 0) : dyV y m d = dnI y m d := by unfold dyV; exact if_pos k
set_option maxHeartbeats 1600000 in
set_option maxRecDepth 100000 in
theorem pRead_any (y m d h i s n : Int) (w : World) (hM : TB w) : Calls Tryz.prog 102 #[.agg #[.int .i64 y, .int .i64 m, .int .i64 d, .int .i64 h, .int .i64 i, .int .i64 s, .int .i64 n]] w fun e w' => e = .returned (.tuple #[.agg #[.int .i64 (rdD y m d h i s n), .int .i64 (rdN y m d h i s n)], .int .i64 (ckT y m d h i s n)]) ∧ Below w.heap.size w w' := by
  have X1 := ptCheck_any y m d h i s n
  by_cases hc : ckT y m d h i s n = 0
  · obtain ⟨k1, k2⟩ := ckT_both hc
    have X2 := fun w (hM : TB w) => pDays_any y m d w hM.md
    have X3 := fun w (hM : TB w) => pkNanos_any h i s n w hM.sz
    simp only [dyV_ok k2, k2] at X2
    simp only [nnK_ok k1, k1] at X3
    rw [(rd_ok hc).1, (rd_ok hc).2, hc]
    rw [hc] at X1
    have H1 := Lib.hid X1
    have H2 := Lib.hid X2
    have H3 := Lib.hid X3
    clear X1 X2 X3 hc k1 k2
    generalize dnI y m d = D at *
    generalize scK h i s * 1000000000 + n = N at *
    replace hM := Lib.hid hM
    go_enter Tryz.func102, Tryz.ntmps102
    refine wp_shut ?_
    go_wp2_with fail
    
    refine (H1.out _ (by first | exact tb_keep hM (((Below.refl w.heap.size w).alloc (Nat.le_refl _) _).alloc (by simp <;> omega) _))).mono ?_
    rintro e V1 ⟨rfl, hb1⟩
    have B1 := Lib.hid ((((Below.refl w.heap.size w).alloc (Nat.le_refl _) _).alloc (by simp <;> omega) _).trans (hb1.mono (by first | assumption | (simp <;> omega) | (simp; done))))
    have A1 := Lib.hid (row_call hb1 (row_alloc (heap_alloc_new _ _) _))
    have Z1 := Lib.hid (row_at (k' := w.heap.size + 1) (by simp) (row_call hb1 (heap_alloc_new _ _)))
    clear hb1
    have A1_0 : V1.cell? ⟨w.heap.size, 0, none⟩ = some (.int .i64 y) := cell_of_row _ _ _ _ _ _ A1.out
    have A1_1 : V1.cell? ⟨w.heap.size, 1, none⟩ = some (.int .i64 m) := cell_of_row _ _ _ _ _ _ A1.out
    have A1_2 : V1.cell? ⟨w.heap.size, 2, none⟩ = some (.int .i64 d) := cell_of_row _ _ _ _ _ _ A1.out
    have A1_3 : V1.cell? ⟨w.heap.size, 3, none⟩ = some (.int .i64 h) := cell_of_row _ _ _ _ _ _ A1.out
    have A1_4 : V1.cell? ⟨w.heap.size, 4, none⟩ = some (.int .i64 i) := cell_of_row _ _ _ _ _ _ A1.out
    have A1_5 : V1.cell? ⟨w.heap.size, 5, none⟩ = some (.int .i64 s) := cell_of_row _ _ _ _ _ _ A1.out
    have A1_6 : V1.cell? ⟨w.heap.size, 6, none⟩ = some (.int .i64 n) := cell_of_row _ _ _ _ _ _ A1.out
    have Z1_0 : V1.cell? ⟨w.heap.size + 1, 0, none⟩ = some (.int .i64 0) := cell_of_row _ _ _ _ _ _ Z1.out
    have Z1_1 : V1.cell? ⟨w.heap.size + 1, 1, none⟩ = some (.int .i64 0) := cell_of_row _ _ _ _ _ _ Z1.out
    have Z1_f0 : V1.frozen? ⟨w.heap.size + 1, 0, none⟩ = false := by simp [World.frozen?, Z1.out]
    have Z1_f1 : V1.frozen? ⟨w.heap.size + 1, 1, none⟩ = false := by simp [World.frozen?, Z1.out]
    have zA1 := lt_of_heap A1.out
    have zZ1 := lt_of_heap Z1.out
    go_simp
    go_wp2_with fail
    refine (H2.out _ (by first | exact tb_keep hM (B1.out) | exact tb_keep hM ((B1.out).alloc (B1.out.size) _) | exact tb_keep hM (((B1.out).alloc (B1.out.size) _).alloc (by have := B1.out.size; simp <;> omega) _) | exact tb_keep hM ((((B1.out).alloc (B1.out.size) _).alloc (by have := B1.out.size; simp <;> omega) _).alloc (by have := B1.out.size; simp <;> omega) _))).mono ?_
    rintro e V2 ⟨rfl, hb2⟩
    clear A1_0 A1_1 A1_2 A1_3 A1_4 A1_5 A1_6 zA1 Z1_0 Z1_1 Z1_f0 Z1_f1 zZ1
    have B2 : Hid (Below w.heap.size w V2) := by first | exact Lib.hid ((B1.out).trans (hb2.mono (by have := B1.out.size; first | assumption | (simp <;> omega) | (simp; done)))) | exact Lib.hid (((B1.out).alloc (B1.out.size) _).trans (hb2.mono (by have := B1.out.size; first | assumption | (simp <;> omega) | (simp; done)))) | exact Lib.hid ((((B1.out).alloc (B1.out.size) _).alloc (by have := B1.out.size; simp <;> omega) _).trans (hb2.mono (by have := B1.out.size; first | assumption | (simp <;> omega) | (simp; done)))) | exact Lib.hid (((((B1.out).alloc (B1.out.size) _).alloc (by have := B1.out.size; simp <;> omega) _).alloc (by have := B1.out.size; simp <;> omega) _).trans (hb2.mono (by have := B1.out.size; first | assumption | (simp <;> omega) | (simp; done))))
    first | replace A1 := Lib.hid (row_call hb2 A1.out) | replace A1 := Lib.hid (row_call hb2 (row_alloc A1.out _)) | replace A1 := Lib.hid (row_call hb2 (row_alloc (row_alloc A1.out _) _)) | replace A1 := Lib.hid (row_call hb2 (row_alloc (row_alloc (row_alloc A1.out _) _) _))
    first | replace Z1 := Lib.hid (row_call hb2 Z1.out) | replace Z1 := Lib.hid (row_call hb2 (row_alloc Z1.out _)) | replace Z1 := Lib.hid (row_call hb2 (row_alloc (row_alloc Z1.out _) _)) | replace Z1 := Lib.hid (row_call hb2 (row_alloc (row_alloc (row_alloc Z1.out _) _) _))
    clear hb2
    have A1_0 : V2.cell? ⟨w.heap.size, 0, none⟩ = some (.int .i64 y) := cell_of_row _ _ _ _ _ _ A1.out
    have A1_1 : V2.cell? ⟨w.heap.size, 1, none⟩ = some (.int .i64 m) := cell_of_row _ _ _ _ _ _ A1.out
    have A1_2 : V2.cell? ⟨w.heap.size, 2, none⟩ = some (.int .i64 d) := cell_of_row _ _ _ _ _ _ A1.out
    have A1_3 : V2.cell? ⟨w.heap.size, 3, none⟩ = some (.int .i64 h) := cell_of_row _ _ _ _ _ _ A1.out
    have A1_4 : V2.cell? ⟨w.heap.size, 4, none⟩ = some (.int .i64 i) := cell_of_row _ _ _ _ _ _ A1.out
    have A1_5 : V2.cell? ⟨w.heap.size, 5, none⟩ = some (.int .i64 s) := cell_of_row _ _ _ _ _ _ A1.out
    have A1_6 : V2.cell? ⟨w.heap.size, 6, none⟩ = some (.int .i64 n) := cell_of_row _ _ _ _ _ _ A1.out
    have Z1_0 : V2.cell? ⟨w.heap.size + 1, 0, none⟩ = some (.int .i64 0) := cell_of_row _ _ _ _ _ _ Z1.out
    have Z1_1 : V2.cell? ⟨w.heap.size + 1, 1, none⟩ = some (.int .i64 0) := cell_of_row _ _ _ _ _ _ Z1.out
    have Z1_f0 : V2.frozen? ⟨w.heap.size + 1, 0, none⟩ = false := by simp [World.frozen?, Z1.out]
    have Z1_f1 : V2.frozen? ⟨w.heap.size + 1, 1, none⟩ = false := by simp [World.frozen?, Z1.out]
    have zA1 := lt_of_heap A1.out
    have zZ1 := lt_of_heap Z1.out
    go_simp
    go_wp2_with fail
    refine (H3.out _ (by first | exact tb_keep hM (B2.out) | exact tb_keep hM ((B2.out).alloc (B2.out.size) _) | exact tb_keep hM (((B2.out).alloc (B2.out.size) _).alloc (by have := B2.out.size; simp <;> omega) _) | exact tb_keep hM ((((B2.out).alloc (B2.out.size) _).alloc (by have := B2.out.size; simp <;> omega) _).alloc (by have := B2.out.size; simp <;> omega) _))).mono ?_
    rintro e V3 ⟨rfl, hb3⟩
    clear A1_0 A1_1 A1_2 A1_3 A1_4 A1_5 A1_6 zA1 Z1_0 Z1_1 Z1_f0 Z1_f1 zZ1
    have B3 : Hid (Below w.heap.size w V3) := by first | exact Lib.hid ((B2.out).trans (hb3.mono (by have := B2.out.size; first | assumption | (simp <;> omega) | (simp; done)))) | exact Lib.hid (((B2.out).alloc (B2.out.size) _).trans (hb3.mono (by have := B2.out.size; first | assumption | (simp <;> omega) | (simp; done)))) | exact Lib.hid ((((B2.out).alloc (B2.out.size) _).alloc (by have := B2.out.size; simp <;> omega) _).trans (hb3.mono (by have := B2.out.size; first | assumption | (simp <;> omega) | (simp; done)))) | exact Lib.hid (((((B2.out).alloc (B2.out.size) _).alloc (by have := B2.out.size; simp <;> omega) _).alloc (by have := B2.out.size; simp <;> omega) _).trans (hb3.mono (by have := B2.out.size; first | assumption | (simp <;> omega) | (simp; done))))
    first | replace A1 := Lib.hid (row_call hb3 A1.out) | replace A1 := Lib.hid (row_call hb3 (row_alloc A1.out _)) | replace A1 := Lib.hid (row_call hb3 (row_alloc (row_alloc A1.out _) _)) | replace A1 := Lib.hid (row_call hb3 (row_alloc (row_alloc (row_alloc A1.out _) _) _))
    first | replace Z1 := Lib.hid (row_call hb3 Z1.out) | replace Z1 := Lib.hid (row_call hb3 (row_alloc Z1.out _)) | replace Z1 := Lib.hid (row_call hb3 (row_alloc (row_alloc Z1.out _) _)) | replace Z1 := Lib.hid (row_call hb3 (row_alloc (row_alloc (row_alloc Z1.out _) _) _))
    clear hb3
    have A1_0 : V3.cell? ⟨w.heap.size, 0, none⟩ = some (.int .i64 y) := cell_of_row _ _ _ _ _ _ A1.out
    have A1_1 : V3.cell? ⟨w.heap.size, 1, none⟩ = some (.int .i64 m) := cell_of_row _ _ _ _ _ _ A1.out
    have A1_2 : V3.cell? ⟨w.heap.size, 2, none⟩ = some (.int .i64 d) := cell_of_row _ _ _ _ _ _ A1.out
    have A1_3 : V3.cell? ⟨w.heap.size, 3, none⟩ = some (.int .i64 h) := cell_of_row _ _ _ _ _ _ A1.out
    have A1_4 : V3.cell? ⟨w.heap.size, 4, none⟩ = some (.int .i64 i) := cell_of_row _ _ _ _ _ _ A1.out
    have A1_5 : V3.cell? ⟨w.heap.size, 5, none⟩ = some (.int .i64 s) := cell_of_row _ _ _ _ _ _ A1.out
    have A1_6 : V3.cell? ⟨w.heap.size, 6, none⟩ = some (.int .i64 n) := cell_of_row _ _ _ _ _ _ A1.out
    have Z1_0 : V3.cell? ⟨w.heap.size + 1, 0, none⟩ = some (.int .i64 0) := cell_of_row _ _ _ _ _ _ Z1.out
    have Z1_1 : V3.cell? ⟨w.heap.size + 1, 1, none⟩ = some (.int .i64 0) := cell_of_row _ _ _ _ _ _ Z1.out
    have Z1_f0 : V3.frozen? ⟨w.heap.size + 1, 0, none⟩ = false := by simp [World.frozen?, Z1.out]
    have Z1_f1 : V3.frozen? ⟨w.heap.size + 1, 1, none⟩ = false := by simp [World.frozen?, Z1.out]
    have zA1 := lt_of_heap A1.out
    have zZ1 := lt_of_heap Z1.out
    go_simp
    go_wp2
    refine shut_ret (v := .tuple #[.agg #[.int .i64 D, .int .i64 N], .int .i64 0]) (by simp [results, Tryz.results102, go_sem, zZ1, Z1_0, Z1_1]) rfl ⟨rfl, ?_⟩
    exact keep2 B3.out (by omega) _ _
  · rw [(rd_no hc).1, (rd_no hc).2]
    have H1 := Lib.hid X1
    clear X1
    generalize ckT y m d h i s n = E at *
    have f1 : (E != 0) = true := by rw [bne_iff_ne]; exact hc
    replace hM := Lib.hid hM
    go_enter Tryz.func102, Tryz.ntmps102
    refine wp_shut ?_
    go_wp2_with fail
    
    refine (H1.out _ (by first | exact tb_keep hM (((Below.refl w.heap.size w).alloc (Nat.le_refl _) _).alloc (by simp <;> omega) _))).mono ?_
    rintro e V1 ⟨rfl, hb1⟩
    have B1 := Lib.hid ((((Below.refl w.heap.size w).alloc (Nat.le_refl _) _).alloc (by simp <;> omega) _).trans (hb1.mono (by first | assumption | (simp <;> omega) | (simp; done))))
    have A1 := Lib.hid (row_call hb1 (row_alloc (heap_alloc_new _ _) _))
    have Z1 := Lib.hid (row_at (k' := w.heap.size + 1) (by simp) (row_call hb1 (heap_alloc_new _ _)))
    clear hb1
    have A1_0 : V1.cell? ⟨w.heap.size, 0, none⟩ = some (.int .i64 y) := cell_of_row _ _ _ _ _ _ A1.out
    have A1_1 : V1.cell? ⟨w.heap.size, 1, none⟩ = some (.int .i64 m) := cell_of_row _ _ _ _ _ _ A1.out
    have A1_2 : V1.cell? ⟨w.heap.size, 2, none⟩ = some (.int .i64 d) := cell_of_row _ _ _ _ _ _ A1.out
    have A1_3 : V1.cell? ⟨w.heap.size, 3, none⟩ = some (.int .i64 h) := cell_of_row _ _ _ _ _ _ A1.out
    have A1_4 : V1.cell? ⟨w.heap.size, 4, none⟩ = some (.int .i64 i) := cell_of_row _ _ _ _ _ _ A1.out
    have A1_5 : V1.cell? ⟨w.heap.size, 5, none⟩ = some (.int .i64 s) := cell_of_row _ _ _ _ _ _ A1.out
    have A1_6 : V1.cell? ⟨w.heap.size, 6, none⟩ = some (.int .i64 n) := cell_of_row _ _ _ _ _ _ A1.out
    have Z1_0 : V1.cell? ⟨w.heap.size + 1, 0, none⟩ = some (.int .i64 0) := cell_of_row _ _ _ _ _ _ Z1.out
    have Z1_1 : V1.cell? ⟨w.heap.size + 1, 1, none⟩ = some (.int .i64 0) := cell_of_row _ _ _ _ _ _ Z1.out
    have Z1_f0 : V1.frozen? ⟨w.heap.size + 1, 0, none⟩ = false := by simp [World.frozen?, Z1.out]
    have Z1_f1 : V1.frozen? ⟨w.heap.size + 1, 1, none⟩ = false := by simp [World.frozen?, Z1.out]
    have zA1 := lt_of_heap A1.out
    have zZ1 := lt_of_heap Z1.out
    go_simp
    go_wp2
    refine shut_ret (v := .tuple #[.agg #[.int .i64 0, .int .i64 0], .int .i64 E]) (by simp [results, Tryz.results102, go_sem, zZ1, Z1_0, Z1_1]) rfl ⟨rfl, ?_⟩
    exact keep2 B1.out (by omega) _ _
theorem pMid_any (D : Int) (b1 : -2000000000 ≤ D) (b2 : D ≤ 2000000000) (w : World) : Calls Tryz.prog 115 #[.int .i64 D] w fun e w' => e = .returned (.int .i64 (D * 86400)) ∧ Below w.heap.size w w' := by
  have g1 : IntKind.i64.wrap (D * 86400) = D * 86400 := by rw [IntKind.wrap_i64]; omega
  clear b1 b2
  go_enter Tryz.func115, Tryz.ntmps115
  go_wp2
  go_ret
  exact ⟨rfl, Below.refl _ _⟩
set_option maxHeartbeats 1600000 in
set_option maxRecDepth 100000 in
theorem pRSecs_any (D N : Int) (b1 : -2000000000 ≤ D) (b2 : D ≤ 2000000000) (n1 : 0 ≤ N) (n2 : N < 86400000000000) (w : World) : Calls Tryz.prog 103 #[.agg #[.int .i64 D, .int .i64 N]] w fun e w' => e = .returned (.int .i64 (D * 86400 + N / 1000000000)) ∧ Below w.heap.size w w' := by
  have H1 := Lib.hid (pMid_any D b1 b2)
  have q : N.tdiv 1000000000 = N / 1000000000 := Int.tdiv_eq_ediv_of_nonneg n1
  have g1 : IntKind.i64.wrap (N / 1000000000) = N / 1000000000 := by rw [IntKind.wrap_i64]; omega
  have g2 : IntKind.i64.wrap (D * 86400 + N / 1000000000) = D * 86400 + N / 1000000000 := by rw [IntKind.wrap_i64]; omega
  clear b1 b2 n1 n2
  go_enter Tryz.func103, Tryz.ntmps103
  go_wp2_with fail
  
  obtain ⟨W0, hW0⟩ : ∃ W0, W0 = (w.alloc (Obj.cells #[Value.int .i64 D, Value.int .i64 N] 138)) := ⟨_, rfl⟩
  have A1 := Lib.hid (row_at (k' := w.heap.size) (by simp) (row_by hW0 (heap_alloc_new _ _)))
  have A1_0 : W0.cell? ⟨w.heap.size, 0, none⟩ = some (.int .i64 D) := cell_of_row _ _ _ _ _ _ A1.out
  have A1_1 : W0.cell? ⟨w.heap.size, 1, none⟩ = some (.int .i64 N) := cell_of_row _ _ _ _ _ _ A1.out
  have zA1 := lt_of_heap A1.out
  have HB0 := Lib.hid (below_by hW0 ((Below.refl w.heap.size w).alloc (Nat.le_refl _) _))
  have zW0 := HB0.out.size
  have HW0 := Lib.hid hW0
  clear hW0
  try go_simp
  rw [← HW0.out]
  have hk0 : ∀ w2, Below W0.heap.size W0 w2 → w2.cell? ⟨w.heap.size, 0, none⟩ = some (.int .i64 D) := fun w2 hb => (by rw [hb.cell (p := ⟨w.heap.size, 0, none⟩) (by assumption)]; assumption)
  have hk1 : ∀ w2, Below W0.heap.size W0 w2 → w2.cell? ⟨w.heap.size, 1, none⟩ = some (.int .i64 N) := fun w2 hb => (by rw [hb.cell (p := ⟨w.heap.size, 1, none⟩) (by assumption)]; assumption)
  clear A1_0 A1_1
  refine region_plan (S := fun w2 => Below W0.heap.size W0 w2) [(0, true), (1, true), (3, true), (4, true), (5, true), (2, false), (6, true), (7, true)] (by as_aux_lemma => kernel_rfl) (by as_aux_lemma => kernel_rfl) (by as_aux_lemma => kernel_rfl) (by as_aux_lemma => kernel_rfl) (Below.refl W0.heap.size W0).drew ?_
  have Y0 := Lib.hid (Below.refl W0.heap.size W0).drew
  refine plan_yes (v := ?v1) (by simp only [List.getElem?_toArray, List.getElem?_cons_zero, List.getElem?_cons_succ]; exact rfl) (Or.inl ⟨by as_aux_lemma => rfl, ?hy1⟩) ?rest1
  case hy1 => (intro w2 hSw; (try dsimp only at hSw); go_simp; try with_reducible rfl)
  try simp only [Act.put, List.setIfInBounds_toArray, List.set_cons_zero, List.set_cons_succ]
  refine plan_yes (v := ?v2) (by simp only [List.getElem?_toArray, List.getElem?_cons_zero, List.getElem?_cons_succ]; exact rfl) (Or.inl ⟨by as_aux_lemma => rfl, ?hy2⟩) ?rest2
  case hy2 => (intro w2 hSw; (try dsimp only at hSw); go_simp; try with_reducible rfl)
  try simp only [Act.put, List.setIfInBounds_toArray, List.set_cons_zero, List.set_cons_succ]
  refine plan_yes (v := ?v3) (by simp only [List.getElem?_toArray, List.getElem?_cons_zero, List.getElem?_cons_succ]; exact rfl) (Or.inl ⟨by as_aux_lemma => rfl, ?hy3⟩) ?rest3
  case hy3 => (intro w2 hSw; (try dsimp only at hSw); go_simp; try with_reducible rfl)
  try simp only [Act.put, List.setIfInBounds_toArray, List.set_cons_zero, List.set_cons_succ]
  refine plan_yes (v := ?v4) (by simp only [List.getElem?_toArray, List.getElem?_cons_zero, List.getElem?_cons_succ]; exact rfl) (Or.inl ⟨by as_aux_lemma => rfl, ?hy4⟩) ?rest4
  case hy4 => (intro w2 hSw; (try dsimp only at hSw); go_simp; try with_reducible rfl)
  try simp only [Act.put, List.setIfInBounds_toArray, List.set_cons_zero, List.set_cons_succ]
  refine plan_yes (v := ?v5) (by simp only [List.getElem?_toArray, List.getElem?_cons_zero, List.getElem?_cons_succ]; exact rfl) (Or.inl ⟨by as_aux_lemma => rfl, ?hy5⟩) ?rest5
  case hy5 => (intro w2 hSw; (try dsimp only at hSw); go_simp; try with_reducible rfl)
  try simp only [Act.put, List.setIfInBounds_toArray, List.set_cons_zero, List.set_cons_succ]
  refine plan_calls (by simp only [List.getElem?_toArray, List.getElem?_cons_zero, List.getElem?_cons_succ]; exact rfl) (by as_aux_lemma => rfl) (fun K hK => ?_)
  go_simp
  refine (H1.out _).mono ?_
  rintro e Y1w ⟨rfl, hb1⟩
  have Y1 := Lib.hid (keepS (W0 := W0) Y0.out hb1)
  clear hb1
  refine hK.out _ _ Y1.out ?_
  clear hK K
  try simp only [Act.put, List.setIfInBounds_toArray, List.set_cons_zero, List.set_cons_succ]
  as_aux_lemma =>
   refine plan_yes (v := ?v6) (by simp only [List.getElem?_toArray, List.getElem?_cons_zero, List.getElem?_cons_succ]; exact rfl) (Or.inl ⟨by as_aux_lemma => rfl, ?hy6⟩) ?rest6
   case hy6 => (intro w2 hSw; (try dsimp only at hSw); go_simp; try with_reducible rfl)
   try simp only [Act.put, List.setIfInBounds_toArray, List.set_cons_zero, List.set_cons_succ]
   refine plan_yes (v := ?v7) (by simp only [List.getElem?_toArray, List.getElem?_cons_zero, List.getElem?_cons_succ]; exact rfl) (Or.inl ⟨by as_aux_lemma => rfl, ?hy7⟩) ?rest7
   case hy7 => (intro w2 hSw; (try dsimp only at hSw); go_simp; try with_reducible rfl)
   try simp only [Act.put, List.setIfInBounds_toArray, List.set_cons_zero, List.set_cons_succ]
   refine plan_done (NoPanic.normal ?_)
   have B0 := Y1.out
   have BW := Lib.hid (HB0.out.trans (B0.mono zW0))
   go_simp
   go_wp2
   go_ret
   exact ⟨rfl, BW.out⟩
end Go.Proofs.YteinjdmkmfeniaaGreatDoor
namespace Go.Proofs.YteinjdmkmfeniaaGreatDoor
set_option linter.unusedVariables false
set_option linter.unusedSimpArgs false
open Go.ChangeShapes Go.WideShapes Go.ChangeAt Go.RowKit
set_option maxHeartbeats 1600000 in
set_option maxRecDepth 100000 in
theorem ptSecs_any (y m d h i s n : Int) (w : World) (hM : TB w) : Calls Tryz.prog 87 #[.agg #[.int .i64 y, .int .i64 m, .int .i64 d, .int .i64 h, .int .i64 i, .int .i64 s, .int .i64 n]] w fun e w' => e = .returned (.tuple #[.int .i64 (seT y m d h i s n), .int .i64 (ckT y m d h i s n)]) ∧ Below w.heap.size w w' := by
  have X1 := pRead_any y m d h i s n
  by_cases hc : ckT y m d h i s n = 0
  · obtain ⟨ok, _, hy, hm, hd⟩ := of_ckT hc
    have b := dn_bd (y := y) (m := m) (d := d) (by omega) hm hd
    have b2 := scK_bd ok
    have n1 : 0 ≤ n ∧ n < 1000000000 := by unfold okK at ok; omega
    have X2 := pRSecs_any (dnI y m d) (scK h i s * 1000000000 + n) (by omega) (by omega) (by omega) (by omega)
    rw [show dnI y m d * 86400 + (scK h i s * 1000000000 + n) / 1000000000 = nuT y m d h i s by unfold nuT; omega] at X2
    rw [(rd_ok hc).1, (rd_ok hc).2, hc] at X1
    rw [seT_ok hc, hc]
    have H1 := Lib.hid X1
    have H2 := Lib.hid X2
    clear X1 X2 hc ok hy hm hd b b2 n1
    generalize nuT y m d h i s = S at *
    generalize dnI y m d = D at *
    generalize scK h i s * 1000000000 + n = N at *
    replace hM := Lib.hid hM
    go_enter Tryz.func87, Tryz.ntmps87
    go_wp2_with fail
    
    refine (H1.out _ (by first | exact tb_keep hM ((Below.refl w.heap.size w).alloc (Nat.le_refl _) _))).mono ?_
    rintro e V1 ⟨rfl, hb1⟩
    have B1 := Lib.hid (((Below.refl w.heap.size w).alloc (Nat.le_refl _) _).trans (hb1.mono (by first | assumption | (simp <;> omega) | (simp; done))))
    have A1 := Lib.hid (row_call hb1 (heap_alloc_new _ _))
    clear hb1
    have A1_0 : V1.cell? ⟨w.heap.size, 0, none⟩ = some (.int .i64 y) := cell_of_row _ _ _ _ _ _ A1.out
    have A1_1 : V1.cell? ⟨w.heap.size, 1, none⟩ = some (.int .i64 m) := cell_of_row _ _ _ _ _ _ A1.out
    have A1_2 : V1.cell? ⟨w.heap.size, 2, none⟩ = some (.int .i64 d) := cell_of_row _ _ _ _ _ _ A1.out
    have A1_3 : V1.cell? ⟨w.heap.size, 3, none⟩ = some (.int .i64 h) := cell_of_row _ _ _ _ _ _ A1.out
    have A1_4 : V1.cell? ⟨w.heap.size, 4, none⟩ = some (.int .i64 i) := cell_of_row _ _ _ _ _ _ A1.out
    have A1_5 : V1.cell? ⟨w.heap.size, 5, none⟩ = some (.int .i64 s) := cell_of_row _ _ _ _ _ _ A1.out
    have A1_6 : V1.cell? ⟨w.heap.size, 6, none⟩ = some (.int .i64 n) := cell_of_row _ _ _ _ _ _ A1.out
    have zA1 := lt_of_heap A1.out
    go_simp
    go_wp2_with fail
    refine (H2.out _).mono ?_
    rintro e V2 ⟨rfl, hb2⟩
    clear A1_0 A1_1 A1_2 A1_3 A1_4 A1_5 A1_6 zA1
    have nA1R1 := Lib.hid (lt_of_heap A1.out)
    have B2 := Lib.hid (((B1.out).alloc (B1.out.size) _).trans (hb2.mono (by have := B1.out.size; first | assumption | (simp <;> omega) | (simp; done))))
    replace A1 := Lib.hid (row_call hb2 (row_alloc A1.out _))
    have R1 := Lib.hid (row_call hb2 (heap_alloc_new _ _))
    clear hb2
    have A1_0 : V2.cell? ⟨w.heap.size, 0, none⟩ = some (.int .i64 y) := cell_of_row _ _ _ _ _ _ A1.out
    have A1_1 : V2.cell? ⟨w.heap.size, 1, none⟩ = some (.int .i64 m) := cell_of_row _ _ _ _ _ _ A1.out
    have A1_2 : V2.cell? ⟨w.heap.size, 2, none⟩ = some (.int .i64 d) := cell_of_row _ _ _ _ _ _ A1.out
    have A1_3 : V2.cell? ⟨w.heap.size, 3, none⟩ = some (.int .i64 h) := cell_of_row _ _ _ _ _ _ A1.out
    have A1_4 : V2.cell? ⟨w.heap.size, 4, none⟩ = some (.int .i64 i) := cell_of_row _ _ _ _ _ _ A1.out
    have A1_5 : V2.cell? ⟨w.heap.size, 5, none⟩ = some (.int .i64 s) := cell_of_row _ _ _ _ _ _ A1.out
    have A1_6 : V2.cell? ⟨w.heap.size, 6, none⟩ = some (.int .i64 n) := cell_of_row _ _ _ _ _ _ A1.out
    have R1_0 : V2.cell? ⟨V1.heap.size, 0, none⟩ = some (.int .i64 D) := cell_of_row _ _ _ _ _ _ R1.out
    have R1_1 : V2.cell? ⟨V1.heap.size, 1, none⟩ = some (.int .i64 N) := cell_of_row _ _ _ _ _ _ R1.out
    have zA1 := lt_of_heap A1.out
    have zR1 := lt_of_heap R1.out
    go_simp
    go_wp2
    go_ret2
    exact ⟨rfl, B2.out⟩
  · rw [(rd_no hc).1, (rd_no hc).2] at X1
    rw [seT_no hc]
    have H1 := Lib.hid X1
    clear X1
    generalize ckT y m d h i s n = E at *
    have f1 : (E != 0) = true := by rw [bne_iff_ne]; exact hc
    replace hM := Lib.hid hM
    go_enter Tryz.func87, Tryz.ntmps87
    go_wp2_with fail
    
    refine (H1.out _ (by first | exact tb_keep hM ((Below.refl w.heap.size w).alloc (Nat.le_refl _) _))).mono ?_
    rintro e V1 ⟨rfl, hb1⟩
    have B1 := Lib.hid (((Below.refl w.heap.size w).alloc (Nat.le_refl _) _).trans (hb1.mono (by first | assumption | (simp <;> omega) | (simp; done))))
    have A1 := Lib.hid (row_call hb1 (heap_alloc_new _ _))
    clear hb1
    have A1_0 : V1.cell? ⟨w.heap.size, 0, none⟩ = some (.int .i64 y) := cell_of_row _ _ _ _ _ _ A1.out
    have A1_1 : V1.cell? ⟨w.heap.size, 1, none⟩ = some (.int .i64 m) := cell_of_row _ _ _ _ _ _ A1.out
    have A1_2 : V1.cell? ⟨w.heap.size, 2, none⟩ = some (.int .i64 d) := cell_of_row _ _ _ _ _ _ A1.out
    have A1_3 : V1.cell? ⟨w.heap.size, 3, none⟩ = some (.int .i64 h) := cell_of_row _ _ _ _ _ _ A1.out
    have A1_4 : V1.cell? ⟨w.heap.size, 4, none⟩ = some (.int .i64 i) := cell_of_row _ _ _ _ _ _ A1.out
    have A1_5 : V1.cell? ⟨w.heap.size, 5, none⟩ = some (.int .i64 s) := cell_of_row _ _ _ _ _ _ A1.out
    have A1_6 : V1.cell? ⟨w.heap.size, 6, none⟩ = some (.int .i64 n) := cell_of_row _ _ _ _ _ _ A1.out
    have zA1 := lt_of_heap A1.out
    go_simp
    go_wp2
    go_ret2
    exact ⟨rfl, by first | exact B1.out | exact B1.out.alloc B1.out.size _⟩
end Go.Proofs.YteinjdmkmfeniaaGreatDoor
