/- Several texts in one: ExT. -/
import Derived.Test.YtacpcjdiljnlaaaGreatDoorY2Sm
import Derived.Test.YtacpcjdiljnlaaaGreatDoorY2Ex2
import Derived.BigQuiet
namespace Go.Proofs.YtacpcjdiljnlaaaGreatDoor
set_option linter.unusedVariables false
set_option linter.unusedSimpArgs false
open Go.ChangeShapes Go.WideShapes Go.ChangeAt Go.RowKit
theorem evE_zero {z : Src} {f t : Int} (h : evE z f t = 0) : ckU z = 0 ∧ -9999 ≤ f ∧ f ≤ t ∧ t ≤ 9999 := by
  unfold evE at h
  split at h
  · rename_i k
    split at h
    · cases h
    · exact absurd h k
  · rename_i k
    split at h
    · cases h
    · split at h
      · cases h
      · exact ⟨Classical.not_not.1 k, by omega, by omega, by omega⟩
theorem dwn17 {B : Nat} {a w : World} (h : Below B a w) (n : Nat) : Below B a (w.drewN n) := ⟨h.os, h.tape, h.output, h.size, h.block⟩
theorem row_dwn17 {w : World} {k : Nat} {o : Option Obj} (h : w.heap[k]? = o) (n : Nat) : (w.drewN n).heap[k]? = o := h
theorem steps_at {YF : Int → Int} (hYF : ∀ S, YIs S (YF S)) {z : Src} {y : Int} (he : evE z y y = 0) {L : List Chg} (h : EvP YF z y y L) {k : Nat} (hk : k < L.length) :
    ∃ e, staI y ≤ L[k].1 ∧ L[k].1 ≤ e ∧ e ≤ endI y ∧ (∀ h2 : k + 1 < L.length, e = L[k + 1].1 - 1) ∧ (¬ k + 1 < L.length → e = endI y) ∧ zuE z L[k].1 = 0 ∧ zuT YF z L[k].1 = L[k].2 ∧ zuE z e = 0 ∧ zuT YF z e = L[k].2 := by
  obtain ⟨hc, y1, _, y2⟩ := evE_zero he
  unfold EvP at h
  rw [if_pos he] at h
  have hOk := ((ckU_zero z).1 hc).2.2.2.2.2
  have m1 := staI_min y1
  have m2 := endI_max y2
  obtain ⟨a1, a2, _⟩ := h.each L[k] (List.getElem_mem hk)
  have zE : ∀ x, staI y ≤ x → x ≤ endI y → zuE z x = 0 := fun x h1 h2 => by unfold zuE; rw [if_neg (fun q => q hc), if_neg (by omega)]
  have zT : ∀ x, staI y ≤ x → x ≤ endI y → zuT YF z x = ahT YF z x := fun x h1 h2 => by unfold zuT; rw [if_neg (fun q => q (zE x h1 h2))]
  by_cases h2 : k + 1 < L.length
  · have hlt := h.lt (show k < k + 1 by omega) h2
    obtain ⟨b1, b2, _⟩ := h.each L[k + 1] (List.getElem_mem h2)
    refine ⟨L[k + 1].1 - 1, a1, by omega, by omega, fun _ => rfl, fun q => absurd h2 q, zE _ a1 a2, ?_, zE _ (by omega) (by omega), ?_⟩
    · rw [zT _ a1 a2]; exact ev_at hYF hOk h m2 hk (Int.le_refl _) a2 (fun _ => hlt)
    · rw [zT _ (by omega) (by omega)]; exact ev_at hYF hOk h m2 hk (by omega) (by omega) (fun _ => by omega)
  · refine ⟨endI y, a1, a2, Int.le_refl _, fun q => absurd q h2, fun _ => rfl, zE _ a1 a2, ?_, zE _ (by omega) (Int.le_refl _), ?_⟩
    · rw [zT _ a1 a2]; exact ev_at hYF hOk h m2 hk (Int.le_refl _) a2 (fun q => absurd q h2)
    · rw [zT _ (by omega) (Int.le_refl _)]; exact ev_at hYF hOk h m2 hk a2 (Int.le_refl _) (fun q => absurd q h2)
set_option maxHeartbeats 6400000 in
set_option maxRecDepth 100000 in
theorem steps_main {YF : Int → Int} (hYF : ∀ S, YIs S (YF S)) (z : Src) (A : Option Addr) (c : Nat) (y : Int) (y1 : -9999 ≤ y) (y2 : y ≤ 9999) (hf : z.lns.length ≤ 100) (w : World) (hR : Rd w A (linVs z.lns)) (hS : SB z) (hK : KX w) :
    Calls Tryz.prog 5 #[srcV z A c, .int .i64 y] w fun e w' => e = .returned (.bool true) ∧ Below w.heap.size w w' := by
  have X0 := rFew17_any z A c hS.lns
  rw [decide_eq_true hf] at X0
  have H0 := Lib.hid X0
  have H1 := Lib.hid (fun w (h : KX w ∧ Rd w A (linVs z.lns) ∧ Rd w A (linVs z.lns)) => pExEvents_any hYF z A c y y w h.1 h.2.1 hS)
  have HAt := Lib.hid (fun x w (h : KX w ∧ Rd w A (linVs z.lns)) => pExAt_any hYF z A c x w h.1 h.2 hS)
  have hM := Lib.hid (And.intro hK (And.intro hR hR))
  have hst := Lib.hid (fun he L (h : EvP YF z y y L) k hk => steps_at hYF (z := z) (y := y) he (L := L) h (k := k) hk)
  have hno : Hid (evE z y y ≠ 0 → ∀ L, EvP YF z y y L → L = []) := Lib.hid (fun h L hL => by unfold EvP at hL; rwa [if_neg h] at hL)
  have HE := Lib.hid (rEnds_any y (by omega))
  have d1 : decide (y < -9999) = false := decide_eq_false (by omega)
  have d2 : decide (9999 < y) = false := decide_eq_false (by omega)
  have hend : -900000000000 ≤ endI y ∧ endI y ≤ 253402300799 := by
    refine ⟨?_, endI_max y2⟩
    have := staI_min y1
    have := staI_min (y := y + 1) (by omega)
    unfold endI
    split <;> omega
  have hsm := staI_min y1
  clear X0 hR hK hS hf
  generalize EvP YF z y y = P at *
  generalize evE z y y = E at *
  generalize endI y = N at *
  obtain ⟨nam, off, dst, abb, ls⟩ := z
  unfold srcV at *
  simp only at *
  go_enter Tryz.func5, Tryz.ntmps5
  go_wp2_with fail
  
  refine (H0.out _).mono ?_
  rintro e V1 ⟨rfl, hb1⟩
  have B1 := nby hb1
  have S1 := Lib.hid (row_call hb1 (heap_alloc_new _ _))
  clear hb1
  obtain ⟨S1_0, S1_1, S1_2, S1_3, S1_4⟩ := qw5 S1
  have zS1 := lt_of_heap S1.out
  go_simp
  go_wp2_with fail
  refine (H1.out _ (rd2_keep hM B1.out)).mono ?_
  rintro e w9 ⟨L, A2, c2, rfl, hR2, hP, hLlen, hb9⟩
  replace hLlen := Lib.hid hLlen
  have HB : Hid (Below w.heap.size w w9) := Lib.hid (B1.out.trans (hb9.mono B1.out.size))
  have A9 : Hid (w9.heap[w.heap.size]? = _) := Lib.hid (row_call hb9 S1.out)
  replace hM : Hid (KX w9 ∧ Rd w9 A (linVs ls) ∧ Rd w9 A2 (chgVs L)) := Lib.hid ⟨(rd2_keep hM HB.out).1, (rd2_keep hM HB.out).2.1, hR2⟩
  have H7 := Lib.hid (fun w (h : KX w ∧ Rd w A (linVs ls) ∧ Rd w A2 (chgVs L)) => awake17_any w h.1)
  have HAt2 := Lib.hid (fun x w (h : KX w ∧ Rd w A (linVs ls) ∧ Rd w A2 (chgVs L)) => HAt.out x w ⟨h.1, h.2.1⟩)
  clear hR2 hb9 S1 B1 H0 H1 HAt S1_0 S1_1 S1_2 S1_3 S1_4 zS1
  
  obtain ⟨A9_0, A9_1, A9_2, A9_3, A9_4⟩ := qw5 A9
  have zA9 := lt_of_heap A9.out
  
  by_cases hE : E = 0
  · subst hE
    replace hst := Lib.hid (hst.out rfl L hP)
    clear hno hP
    go_simp
    go_wp2
    go_loopw [7] (fun i wr => ∃ k : Nat, k ≤ L.length ∧ i = .int .i64 (k : Int) ∧ Hid (Below w9.heap.size w9 wr) ∧ Hid (wr.heap[w.heap.size]? = some (.cells #[.string (bs nam), .int .i64 off, .bool dst, .string (bs abb), .slice A ls.length c] 26 (0, 0)))) (fun i _ => L.length - (intOf i).toNat)
    case atStart => exact ⟨0, by omega, rfl, Lib.hid (Below.refl _ _), A9⟩
    case round =>
      obtain ⟨k, hk, rfl, B20, S1⟩ := hrel
      obtain ⟨V20, rfl⟩ : ∃ V, V = wr := ⟨_, rfl⟩
      clear A9 A9_0 A9_1 A9_2 A9_3 A9_4 zA9
      by_cases hlt : k < L.length
      · obtain ⟨e, q1, q2, q3, q4, q5, v1, v2, v3, v4⟩ := hst.out k hlt
        obtain ⟨b, o, rfl, hbw, hc⟩ := hM.out.2.2.chg hlt
        obtain ⟨K0, K1, K2, K3⟩ := hc k hlt
        have hnx := fun h2 => (hc (k + 1) h2).1
        have X1 := HAt2.out L[k].1
        rw [v2, v1] at X1
        have X2 := HAt2.out e
        rw [v4, v3] at X2
        have hkT : (k : Int) < (L.length : Int) := by omega
        have hw1 : IntKind.i64.wrap ((k : Int) + 1) = (k : Int) + 1 := by
          have := hM.out.2.2
          rw [IntKind.wrap_i64]
          have := hLlen.out
          omega
        clear v1 v2 v3 v4 hc
        generalize L[k].1 = sec at *
        generalize L[k].2 = tri at *
        obtain ⟨tf, td, tb⟩ := tri
        simp only at K0 K1 K2 K3 X1 X2
        have G1 := Lib.hid X1
        have G2 := Lib.hid X2
        clear X1 X2
        
        obtain ⟨S1_0, S1_1, S1_2, S1_3, S1_4⟩ := qw5 S1
        have zS1 := lt_of_heap S1.out
        
        by_cases h2 : k + 1 < L.length
        · have N0 := hnx h2
          have e2 := q4 h2
          clear hnx q4 q5
          generalize L[k + 1].1 = sec2 at *
          subst e2
          have d3 : decide ((k : Int) + 1 < (L.length : Int)) = true := decide_eq_true (by omega)
          have d3b : (k : Int) + 1 < (L.length : Int) := by omega
          have d3c : ((k : Int) + 1).toNat = k + 1 := by omega
          have d4 : decide (sec2 - 1 < sec) = false := decide_eq_false (by omega)
          have hw2 : IntKind.i64.wrap (sec2 - 1) = sec2 - 1 := by rw [IntKind.wrap_i64]; omega
          
          go_wp2_with fail
          refine (HE.out _).mono ?_
          rintro e V21 ⟨rfl, hb21⟩
          clear S1_0 S1_1 S1_2 S1_3 S1_4 zS1
          have B21 : Hid (Below w9.heap.size w9 V21) := nbx B20 hb21
          replace S1 := rcx hb21 S1
          clear hb21
          obtain ⟨S1_0, S1_1, S1_2, S1_3, S1_4⟩ := qw5 S1
          have zS1 := lt_of_heap S1.out
          have k0 : V21.cell? ⟨b, o + k * 4, none⟩ = some (.int .i64 sec) := (B21.out.cell (p := ⟨b, o + k * 4, none⟩) hbw).trans K0
          have n0 : V21.cell? ⟨b, o + (k + 1) * 4, none⟩ = some (.int .i64 sec2) := (B21.out.cell (p := ⟨b, o + (k + 1) * 4, none⟩) hbw).trans N0
          go_simp
          go_wp2_with fail
          clear S1_0 S1_1 S1_2 S1_3 S1_4 zS1
          obtain ⟨W0, hW0⟩ : ∃ W0, W0 = V21 := ⟨_, rfl⟩
          replace S1 := Lib.hid (row_by hW0 S1.out)
          have HB0 := Lib.hid (below_by hW0 (B21.out))
          have HW0 := Lib.hid hW0
          clear hW0
          obtain ⟨S1_0, S1_1, S1_2, S1_3, S1_4⟩ := qw5 S1
          have zS1 := lt_of_heap S1.out
          have xc0 : W0.cell? ⟨b, o + k * 4, none⟩ = some (.int .i64 sec) := by ((rw [HW0.out]) <;> first | assumption | (simp; done) | (simp; assumption))
          have xl0 : b < W0.heap.size := World.block_lt_of_cell? W0 ⟨b, o + k * 4, none⟩ xc0
          try rw [← HW0.out]
          go_cut [9, 10] (fun s9 s10 wx => ∃ gX1 : Nat, s9 = .pointer (some ⟨gX1, 0, none⟩) ∧ s10 = .int .i64 0 ∧ wx.heap[gX1]? = some (.cells #[.int .i64 tf, .bool td, .string (bs tb)] 23 (0, 0)) ∧ Below W0.heap.size W0 wx)
          case first =>
            go_region_held3 (fun w' => Below W0.heap.size W0 w' ∧ w'.cell? ⟨w.heap.size, 0, none⟩ = some (.string (bs nam)) ∧ w'.cell? ⟨w.heap.size, 1, none⟩ = some (.int .i64 off) ∧ w'.cell? ⟨w.heap.size, 2, none⟩ = some (.bool dst) ∧ w'.cell? ⟨w.heap.size, 3, none⟩ = some (.string (bs abb)) ∧ w'.cell? ⟨w.heap.size, 4, none⟩ = some (.slice A ls.length c) ∧ w'.cell? ⟨b, o + k * 4, none⟩ = some (.int .i64 sec))
    (first
      | ((try go_split_ands); refine ⟨(Below.refl _ _).drew, ?_, ?_, ?_, ?_, ?_, ?_⟩ <;> first | assumption | (rw [World.cell?_drew]; assumption))
      | ((try go_split_ands); refine ⟨keepS (W0 := W0) ?_ hb1, cellS (W0 := W0) ?_ hb1 ?_ ?_, cellS (W0 := W0) ?_ hb1 ?_ ?_, cellS (W0 := W0) ?_ hb1 ?_ ?_, cellS (W0 := W0) ?_ hb1 ?_ ?_, cellS (W0 := W0) ?_ hb1 ?_ ?_, cellS (W0 := W0) ?_ hb1 ?_ ?_⟩ <;> first | assumption | omega)
      | ((try go_split_ands); refine ⟨keepA (W0 := W0) ?_ _, cellA (W0 := W0) ?_ _ ?_ ?_, cellA (W0 := W0) ?_ _ ?_ ?_, cellA (W0 := W0) ?_ _ ?_ ?_, cellA (W0 := W0) ?_ _ ?_ ?_, cellA (W0 := W0) ?_ _ ?_ ?_, cellA (W0 := W0) ?_ _ ?_ ?_⟩ <;> first | assumption | omega)
      | ((try go_split_ands); refine ⟨keepAd (W0 := W0) ?_ _, cellAd (W0 := W0) ?_ _ ?_ ?_, cellAd (W0 := W0) ?_ _ ?_ ?_, cellAd (W0 := W0) ?_ _ ?_ ?_, cellAd (W0 := W0) ?_ _ ?_ ?_, cellAd (W0 := W0) ?_ _ ?_ ?_, cellAd (W0 := W0) ?_ _ ?_ ?_⟩ <;> first | assumption | omega | exact Below.refl _ _)
      | ((try go_split_ands); (with_reducible refine ⟨keep3 (W0 := W0) ?_ ?_ _ _ _, cell3 (W0 := W0) ?_ _ _ _ ?_ ?_, cell3 (W0 := W0) ?_ _ _ _ ?_ ?_, cell3 (W0 := W0) ?_ _ _ _ ?_ ?_, cell3 (W0 := W0) ?_ _ _ _ ?_ ?_, cell3 (W0 := W0) ?_ _ _ _ ?_ ?_, cell3 (W0 := W0) ?_ _ _ _ ?_ ?_⟩) <;> first | assumption | omega | exact Nat.le_refl _)
      | ((try go_split_ands); refine ⟨keep2 (W0 := W0) ?_ ?_ _ _, cell2 (W0 := W0) ?_ _ _ ?_ ?_, cell2 (W0 := W0) ?_ _ _ ?_ ?_, cell2 (W0 := W0) ?_ _ _ ?_ ?_, cell2 (W0 := W0) ?_ _ _ ?_ ?_, cell2 (W0 := W0) ?_ _ _ ?_ ?_, cell2 (W0 := W0) ?_ _ _ ?_ ?_⟩ <;> first | assumption | omega | exact Nat.le_refl _)
      | ((try go_split_ands); refine ⟨keepZ (W0 := W0) ?_ ?_ _, cellZ (W0 := W0) ?_ _ ?_ ?_, cellZ (W0 := W0) ?_ _ ?_ ?_, cellZ (W0 := W0) ?_ _ ?_ ?_, cellZ (W0 := W0) ?_ _ ?_ ?_, cellZ (W0 := W0) ?_ _ ?_ ?_, cellZ (W0 := W0) ?_ _ ?_ ?_⟩ <;> first | assumption | omega | exact Nat.le_refl _ | exact ⟨_, by assumption⟩))
    (first | (go_at_call 9; (with_reducible refine (G1.out _ ?_).mono ?_); (focus (refine rd2_keep (Lib.hid (rd2_keep hM HB0.out)) ?_; first | assumption | (with_reducible exact (Below.refl _ _).drew) | (go_split_ands; done) | ((try go_split_ands); assumption))); rintro e w1 ⟨rfl, hb1⟩; (try go_split_ands); have hge : W0.heap.size ≤ w1.heap.size := (by first | (refine (keepS (W0 := W0) ?_ hb1).size; assumption) | exact (hb1.size : W0.heap.size ≤ w1.heap.size)); (try have hrow := row_call hb1 hrow); (try have hrow := row_new hb1); (try have hrow := row_newd hb1); have hl1 := lt_below hb1; obtain ⟨hc1, hf1⟩ := bcell hb1; (try (have hrc := row_cellA hrow; clear hc1 hf1)); (try have hrf := row_frozA hrow)) | (go_at_call 9; refine (G1.out _ (by first | exact rd2_keep (Lib.hid (rd2_keep hM HB0.out)) (by assumption) | exact rd2_keep (Lib.hid (rd2_keep hM HB0.out)) (by (try go_split_ands); assumption) | exact rd2_keep (Lib.hid (rd2_keep hM HB0.out)) (Below.refl _ _).drew)).mono ?_; rintro e w1 ⟨rfl, hb1⟩; (try go_split_ands); have hge : W0.heap.size ≤ w1.heap.size := (by first | (refine (keepS (W0 := W0) ?_ hb1).size; assumption) | exact (hb1.size : W0.heap.size ≤ w1.heap.size)); (try have hrow := row_call hb1 hrow); (try have hrow := row_new hb1); (try have hrow := row_newd hb1); have hl1 := lt_below hb1; obtain ⟨hc1, hf1⟩ := bcell hb1; (try (have hrc := row_cellA hrow; clear hc1 hf1)); (try have hrf := row_frozA hrow)))
            all_goals (try go_split_ands)
            all_goals (go_wp2_with fail; go_meet; refine ⟨_, rfl, rfl, ?_, ?_⟩)
            all_goals first | (with_reducible assumption) | (with_reducible exact heap_alloc_new _ _) | (with_reducible exact row_set3 (by assumption) _ _ _) | assumption | exact heap_alloc_new _ _ | exact row_set (by assumption) _ _
          case rest =>
            obtain ⟨gX1, rfl, rfl, hX1, hB⟩ := hcut
            obtain ⟨V22, rfl⟩ : ∃ V, V = wc := ⟨_, rfl⟩
            have X1 := Lib.hid hX1
            clear hX1
            clear S1_0 S1_1 S1_2 S1_3 S1_4 zS1
            replace S1 := Lib.hid (row_call hB S1.out)
            have B22 := Lib.hid (HB0.out.trans (hB.mono HB0.out.size))
            clear hB
            obtain ⟨S1_0, S1_1, S1_2, S1_3, S1_4⟩ := qw5 S1
            have zS1 := lt_of_heap S1.out
            obtain ⟨X1_0, X1_1, X1_2⟩ := qw3 X1
            have zX1 := lt_of_heap X1.out
            go_wp2_with fail
            refine (G2.out _ (by first | exact rd2_keep hM (B22.out) | exact rd2_keep hM ((B22.out).alloc (B22.out.size) _) | exact rd2_keep hM (((B22.out).alloc (B22.out.size) _).alloc (by have := B22.out.size; simp <;> omega) _) | exact rd2_keep hM ((((B22.out).alloc (B22.out.size) _).alloc (by have := B22.out.size; simp <;> omega) _).alloc (by have := B22.out.size; simp <;> omega) _))).mono ?_
            rintro e V23 ⟨rfl, hb23⟩
            clear S1_0 S1_1 S1_2 S1_3 S1_4 zS1 X1_0 X1_1 X1_2 zX1
            have B23 : Hid (Below w9.heap.size w9 V23) := nbx B22 hb23
            replace S1 := rcx hb23 S1
            replace X1 := rcx hb23 X1
            clear hb23
            obtain ⟨S1_0, S1_1, S1_2, S1_3, S1_4⟩ := qw5 S1
            obtain ⟨X1_0, X1_1, X1_2⟩ := qw3 X1
            have zS1 := lt_of_heap S1.out
            have zX1 := lt_of_heap X1.out
            have hbV : b < V23.heap.size := Nat.lt_of_lt_of_le hbw B23.out.size
            have hb9 : ¬ (b = V23.heap.size) := by omega
            have kk1 : V23.cell? ⟨b, o + k * 4 + 1, none⟩ = some (.int .i64 tf) := (B23.out.cell (p := ⟨b, o + k * 4 + 1, none⟩) hbw).trans K1
            have kk2 : V23.cell? ⟨b, o + k * 4 + 2, none⟩ = some (.bool td) := (B23.out.cell (p := ⟨b, o + k * 4 + 2, none⟩) hbw).trans K2
            have kk3 : V23.cell? ⟨b, o + k * 4 + 3, none⟩ = some (.string (bs tb)) := (B23.out.cell (p := ⟨b, o + k * 4 + 3, none⟩) hbw).trans K3
            have hx9 : ¬ (gX1 = V23.heap.size) := by have := zX1; omega
            have hBz := Lib.hid (fun q ob => dwn17 (B23.out.alloc B23.out.size ob) q)
            have hSz := Lib.hid (fun q ob => row_dwn17 (row_alloc S1.out ob) q)
            go_simp
            go_wp2_with fail
            go_quiet (fail)
            go_wp2
            go_roundw
            case rel => exact ⟨k + 1, by omega, by go_num, Lib.hid (hBz.out _ _), Lib.hid (hSz.out _ _)⟩
            case measure => simp [intOf]; omega
        · have e2 := q5 h2
          clear hnx q4 q5
          subst e2
          have d3 : decide ((k : Int) + 1 < (L.length : Int)) = false := decide_eq_false (by omega)
          have d4 : decide (e < sec) = false := decide_eq_false (by omega)
          
          go_wp2_with fail
          refine (HE.out _).mono ?_
          rintro e V21 ⟨rfl, hb21⟩
          clear S1_0 S1_1 S1_2 S1_3 S1_4 zS1
          have B21 : Hid (Below w9.heap.size w9 V21) := nbx B20 hb21
          replace S1 := rcx hb21 S1
          clear hb21
          obtain ⟨S1_0, S1_1, S1_2, S1_3, S1_4⟩ := qw5 S1
          have zS1 := lt_of_heap S1.out
          have k0 : V21.cell? ⟨b, o + k * 4, none⟩ = some (.int .i64 sec) := (B21.out.cell (p := ⟨b, o + k * 4, none⟩) hbw).trans K0
          go_simp
          go_wp2_with fail
          clear S1_0 S1_1 S1_2 S1_3 S1_4 zS1
          obtain ⟨W0, hW0⟩ : ∃ W0, W0 = V21 := ⟨_, rfl⟩
          replace S1 := Lib.hid (row_by hW0 S1.out)
          have HB0 := Lib.hid (below_by hW0 (B21.out))
          have HW0 := Lib.hid hW0
          clear hW0
          obtain ⟨S1_0, S1_1, S1_2, S1_3, S1_4⟩ := qw5 S1
          have zS1 := lt_of_heap S1.out
          have xc0 : W0.cell? ⟨b, o + k * 4, none⟩ = some (.int .i64 sec) := by ((rw [HW0.out]) <;> first | assumption | (simp; done) | (simp; assumption))
          have xl0 : b < W0.heap.size := World.block_lt_of_cell? W0 ⟨b, o + k * 4, none⟩ xc0
          try rw [← HW0.out]
          go_cut [9, 10] (fun s9 s10 wx => ∃ gX1 : Nat, s9 = .pointer (some ⟨gX1, 0, none⟩) ∧ s10 = .int .i64 0 ∧ wx.heap[gX1]? = some (.cells #[.int .i64 tf, .bool td, .string (bs tb)] 23 (0, 0)) ∧ Below W0.heap.size W0 wx)
          case first =>
            go_region_held3 (fun w' => Below W0.heap.size W0 w' ∧ w'.cell? ⟨w.heap.size, 0, none⟩ = some (.string (bs nam)) ∧ w'.cell? ⟨w.heap.size, 1, none⟩ = some (.int .i64 off) ∧ w'.cell? ⟨w.heap.size, 2, none⟩ = some (.bool dst) ∧ w'.cell? ⟨w.heap.size, 3, none⟩ = some (.string (bs abb)) ∧ w'.cell? ⟨w.heap.size, 4, none⟩ = some (.slice A ls.length c) ∧ w'.cell? ⟨b, o + k * 4, none⟩ = some (.int .i64 sec))
    (first
      | ((try go_split_ands); refine ⟨(Below.refl _ _).drew, ?_, ?_, ?_, ?_, ?_, ?_⟩ <;> first | assumption | (rw [World.cell?_drew]; assumption))
      | ((try go_split_ands); refine ⟨keepS (W0 := W0) ?_ hb1, cellS (W0 := W0) ?_ hb1 ?_ ?_, cellS (W0 := W0) ?_ hb1 ?_ ?_, cellS (W0 := W0) ?_ hb1 ?_ ?_, cellS (W0 := W0) ?_ hb1 ?_ ?_, cellS (W0 := W0) ?_ hb1 ?_ ?_, cellS (W0 := W0) ?_ hb1 ?_ ?_⟩ <;> first | assumption | omega)
      | ((try go_split_ands); refine ⟨keepA (W0 := W0) ?_ _, cellA (W0 := W0) ?_ _ ?_ ?_, cellA (W0 := W0) ?_ _ ?_ ?_, cellA (W0 := W0) ?_ _ ?_ ?_, cellA (W0 := W0) ?_ _ ?_ ?_, cellA (W0 := W0) ?_ _ ?_ ?_, cellA (W0 := W0) ?_ _ ?_ ?_⟩ <;> first | assumption | omega)
      | ((try go_split_ands); refine ⟨keepAd (W0 := W0) ?_ _, cellAd (W0 := W0) ?_ _ ?_ ?_, cellAd (W0 := W0) ?_ _ ?_ ?_, cellAd (W0 := W0) ?_ _ ?_ ?_, cellAd (W0 := W0) ?_ _ ?_ ?_, cellAd (W0 := W0) ?_ _ ?_ ?_, cellAd (W0 := W0) ?_ _ ?_ ?_⟩ <;> first | assumption | omega | exact Below.refl _ _)
      | ((try go_split_ands); (with_reducible refine ⟨keep3 (W0 := W0) ?_ ?_ _ _ _, cell3 (W0 := W0) ?_ _ _ _ ?_ ?_, cell3 (W0 := W0) ?_ _ _ _ ?_ ?_, cell3 (W0 := W0) ?_ _ _ _ ?_ ?_, cell3 (W0 := W0) ?_ _ _ _ ?_ ?_, cell3 (W0 := W0) ?_ _ _ _ ?_ ?_, cell3 (W0 := W0) ?_ _ _ _ ?_ ?_⟩) <;> first | assumption | omega | exact Nat.le_refl _)
      | ((try go_split_ands); refine ⟨keep2 (W0 := W0) ?_ ?_ _ _, cell2 (W0 := W0) ?_ _ _ ?_ ?_, cell2 (W0 := W0) ?_ _ _ ?_ ?_, cell2 (W0 := W0) ?_ _ _ ?_ ?_, cell2 (W0 := W0) ?_ _ _ ?_ ?_, cell2 (W0 := W0) ?_ _ _ ?_ ?_, cell2 (W0 := W0) ?_ _ _ ?_ ?_⟩ <;> first | assumption | omega | exact Nat.le_refl _)
      | ((try go_split_ands); refine ⟨keepZ (W0 := W0) ?_ ?_ _, cellZ (W0 := W0) ?_ _ ?_ ?_, cellZ (W0 := W0) ?_ _ ?_ ?_, cellZ (W0 := W0) ?_ _ ?_ ?_, cellZ (W0 := W0) ?_ _ ?_ ?_, cellZ (W0 := W0) ?_ _ ?_ ?_, cellZ (W0 := W0) ?_ _ ?_ ?_⟩ <;> first | assumption | omega | exact Nat.le_refl _ | exact ⟨_, by assumption⟩))
    (first | (go_at_call 9; (with_reducible refine (G1.out _ ?_).mono ?_); (focus (refine rd2_keep (Lib.hid (rd2_keep hM HB0.out)) ?_; first | assumption | (with_reducible exact (Below.refl _ _).drew) | (go_split_ands; done) | ((try go_split_ands); assumption))); rintro e w1 ⟨rfl, hb1⟩; (try go_split_ands); have hge : W0.heap.size ≤ w1.heap.size := (by first | (refine (keepS (W0 := W0) ?_ hb1).size; assumption) | exact (hb1.size : W0.heap.size ≤ w1.heap.size)); (try have hrow := row_call hb1 hrow); (try have hrow := row_new hb1); (try have hrow := row_newd hb1); have hl1 := lt_below hb1; obtain ⟨hc1, hf1⟩ := bcell hb1; (try (have hrc := row_cellA hrow; clear hc1 hf1)); (try have hrf := row_frozA hrow)) | (go_at_call 9; refine (G1.out _ (by first | exact rd2_keep (Lib.hid (rd2_keep hM HB0.out)) (by assumption) | exact rd2_keep (Lib.hid (rd2_keep hM HB0.out)) (by (try go_split_ands); assumption) | exact rd2_keep (Lib.hid (rd2_keep hM HB0.out)) (Below.refl _ _).drew)).mono ?_; rintro e w1 ⟨rfl, hb1⟩; (try go_split_ands); have hge : W0.heap.size ≤ w1.heap.size := (by first | (refine (keepS (W0 := W0) ?_ hb1).size; assumption) | exact (hb1.size : W0.heap.size ≤ w1.heap.size)); (try have hrow := row_call hb1 hrow); (try have hrow := row_new hb1); (try have hrow := row_newd hb1); have hl1 := lt_below hb1; obtain ⟨hc1, hf1⟩ := bcell hb1; (try (have hrc := row_cellA hrow; clear hc1 hf1)); (try have hrf := row_frozA hrow)))
            all_goals (try go_split_ands)
            all_goals (go_wp2_with fail; go_meet; refine ⟨_, rfl, rfl, ?_, ?_⟩)
            all_goals first | (with_reducible assumption) | (with_reducible exact heap_alloc_new _ _) | (with_reducible exact row_set3 (by assumption) _ _ _) | assumption | exact heap_alloc_new _ _ | exact row_set (by assumption) _ _
          case rest =>
            obtain ⟨gX1, rfl, rfl, hX1, hB⟩ := hcut
            obtain ⟨V22, rfl⟩ : ∃ V, V = wc := ⟨_, rfl⟩
            have X1 := Lib.hid hX1
            clear hX1
            clear S1_0 S1_1 S1_2 S1_3 S1_4 zS1
            replace S1 := Lib.hid (row_call hB S1.out)
            have B22 := Lib.hid (HB0.out.trans (hB.mono HB0.out.size))
            clear hB
            obtain ⟨S1_0, S1_1, S1_2, S1_3, S1_4⟩ := qw5 S1
            have zS1 := lt_of_heap S1.out
            obtain ⟨X1_0, X1_1, X1_2⟩ := qw3 X1
            have zX1 := lt_of_heap X1.out
            go_wp2_with fail
            refine (G2.out _ (by first | exact rd2_keep hM (B22.out) | exact rd2_keep hM ((B22.out).alloc (B22.out.size) _) | exact rd2_keep hM (((B22.out).alloc (B22.out.size) _).alloc (by have := B22.out.size; simp <;> omega) _) | exact rd2_keep hM ((((B22.out).alloc (B22.out.size) _).alloc (by have := B22.out.size; simp <;> omega) _).alloc (by have := B22.out.size; simp <;> omega) _))).mono ?_
            rintro e V23 ⟨rfl, hb23⟩
            clear S1_0 S1_1 S1_2 S1_3 S1_4 zS1 X1_0 X1_1 X1_2 zX1
            have B23 : Hid (Below w9.heap.size w9 V23) := nbx B22 hb23
            replace S1 := rcx hb23 S1
            replace X1 := rcx hb23 X1
            clear hb23
            obtain ⟨S1_0, S1_1, S1_2, S1_3, S1_4⟩ := qw5 S1
            obtain ⟨X1_0, X1_1, X1_2⟩ := qw3 X1
            have zS1 := lt_of_heap S1.out
            have zX1 := lt_of_heap X1.out
            have hbV : b < V23.heap.size := Nat.lt_of_lt_of_le hbw B23.out.size
            have hb9 : ¬ (b = V23.heap.size) := by omega
            have kk1 : V23.cell? ⟨b, o + k * 4 + 1, none⟩ = some (.int .i64 tf) := (B23.out.cell (p := ⟨b, o + k * 4 + 1, none⟩) hbw).trans K1
            have kk2 : V23.cell? ⟨b, o + k * 4 + 2, none⟩ = some (.bool td) := (B23.out.cell (p := ⟨b, o + k * 4 + 2, none⟩) hbw).trans K2
            have kk3 : V23.cell? ⟨b, o + k * 4 + 3, none⟩ = some (.string (bs tb)) := (B23.out.cell (p := ⟨b, o + k * 4 + 3, none⟩) hbw).trans K3
            have hx9 : ¬ (gX1 = V23.heap.size) := by have := zX1; omega
            have hBz := Lib.hid (fun q ob => dwn17 (B23.out.alloc B23.out.size ob) q)
            have hSz := Lib.hid (fun q ob => row_dwn17 (row_alloc S1.out ob) q)
            go_simp
            go_wp2_with fail
            go_quiet (fail)
            go_wp2
            go_roundw
            case rel => exact ⟨k + 1, by omega, by go_num, Lib.hid (hBz.out _ _), Lib.hid (hSz.out _ _)⟩
            case measure => simp [intOf]; omega
      · obtain rfl : k = L.length := by omega
        
        obtain ⟨S1_0, S1_1, S1_2, S1_3, S1_4⟩ := qw5 S1
        have zS1 := lt_of_heap S1.out
        go_wp2_with fail
        refine (H7.out _ (by first | exact rd2_keep hM (B20.out) | exact rd2_keep hM ((B20.out).alloc (B20.out.size) _) | exact rd2_keep hM (((B20.out).alloc (B20.out.size) _).alloc (by have := B20.out.size; simp <;> omega) _) | exact rd2_keep hM ((((B20.out).alloc (B20.out.size) _).alloc (by have := B20.out.size; simp <;> omega) _).alloc (by have := B20.out.size; simp <;> omega) _))).mono ?_
        rintro e V21 ⟨rfl, hb21⟩
        clear S1_0 S1_1 S1_2 S1_3 S1_4 zS1
        have B21 : Hid (Below w9.heap.size w9 V21) := nbx B20 hb21
        replace S1 := rcx hb21 S1
        clear hb21
        obtain ⟨S1_0, S1_1, S1_2, S1_3, S1_4⟩ := qw5 S1
        have zS1 := lt_of_heap S1.out
        go_simp
        go_wp2
        go_ret
        exact ⟨rfl, HB.out.trans (B21.out.mono HB.out.size)⟩
  · obtain rfl := hno.out hE L hP
    have fE : (E != 0) = true := bne_iff_ne.2 hE
    replace hE := Lib.hid hE
    clear hno hst hP
    
    go_simp
    go_wp2_with fail
    refine (H7.out _ (by first | exact rd2_keep hM (Below.refl w9.heap.size w9) | exact rd2_keep hM ((Below.refl w9.heap.size w9).alloc (Nat.le_refl _) _) | exact rd2_keep hM (((Below.refl w9.heap.size w9).alloc (Nat.le_refl _) _).alloc (by simp <;> omega) _) | exact rd2_keep hM ((((Below.refl w9.heap.size w9).alloc (Nat.le_refl _) _).alloc (by simp <;> omega) _).alloc (by simp <;> omega) _))).mono ?_
    rintro e V1 ⟨rfl, hb1⟩
    clear A9_0 A9_1 A9_2 A9_3 A9_4 zA9
    have B1 : Hid (Below w9.heap.size w9 V1) := by first | exact Lib.hid ((Below.refl w9.heap.size w9).trans (hb1.mono (by first | assumption | (simp <;> omega) | (simp; done)))) | exact Lib.hid (((Below.refl w9.heap.size w9).alloc (Nat.le_refl _) _).trans (hb1.mono (by first | assumption | (simp <;> omega) | (simp; done)))) | exact Lib.hid ((((Below.refl w9.heap.size w9).alloc (Nat.le_refl _) _).alloc (by simp <;> omega) _).trans (hb1.mono (by first | assumption | (simp <;> omega) | (simp; done)))) | exact Lib.hid (((((Below.refl w9.heap.size w9).alloc (Nat.le_refl _) _).alloc (by simp <;> omega) _).alloc (by simp <;> omega) _).trans (hb1.mono (by first | assumption | (simp <;> omega) | (simp; done))))
    replace A9 := rcx hb1 A9
    clear hb1
    obtain ⟨A9_0, A9_1, A9_2, A9_3, A9_4⟩ := qw5 A9
    have zA9 := lt_of_heap A9.out
    go_simp
    go_wp2
    go_ret
    exact ⟨rfl, HB.out.trans (B1.out.mono HB.out.size)⟩
set_option maxHeartbeats 3200000 in
set_option maxRecDepth 100000 in
theorem expandSteps_walk (z : Src) (A : Option Addr) (c : Nat) (y : Int) (w : World) (hR : Rd w A (linVs z.lns)) (hS : SB z) (hK : KX w) : Calls Tryz.prog 5 #[srcV z A c, .int .i64 y] w fun e w' => e = .returned (.bool true) ∧ Below w.heap.size w w' := by
  by_cases h : z.lns.length ≤ 100 ∧ -9999 ≤ y ∧ y ≤ 9999
  · obtain ⟨YF, hYF⟩ := yf_ex
    exact steps_main hYF z A c y h.2.1 h.2.2 h.1 w hR hS hK
  · have hM := Lib.hid (And.intro hK (And.intro hR hR))
    have H7 := Lib.hid (fun w (h : KX w ∧ Rd w A (linVs z.lns) ∧ Rd w A (linVs z.lns)) => awake17_any w h.1)
    have X0 := rFew17_any z A c hS.lns
    have key : decide (z.lns.length ≤ 100) = false ∨ (decide (z.lns.length ≤ 100) = true ∧ decide (y < -9999) = true) ∨ (decide (z.lns.length ≤ 100) = true ∧ decide (y < -9999) = false ∧ decide (9999 < y) = true) := by
      simp only [decide_eq_true_eq, decide_eq_false_iff_not]
      omega
    clear hR hK hS h
    rcases key with k0 | ⟨k0, k1⟩ | ⟨k0, k1, k2⟩
    all_goals
      rw [k0] at X0
      have H0 := Lib.hid X0
      clear X0 k0
      obtain ⟨nam, off, dst, abb, ls⟩ := z
      unfold srcV at *
      simp only at *
      go_enter Tryz.func5, Tryz.ntmps5
      go_wp2_with fail
      
      refine (H0.out _).mono ?_
      rintro e V1 ⟨rfl, hb1⟩
      have B1 := nby hb1
      have S1 := Lib.hid (row_call hb1 (heap_alloc_new _ _))
      clear hb1
      obtain ⟨S1_0, S1_1, S1_2, S1_3, S1_4⟩ := qw5 S1
      have zS1 := lt_of_heap S1.out
      go_simp
      go_wp2_with fail
      refine (H7.out _ (by first | exact rd2_keep hM (B1.out) | exact rd2_keep hM ((B1.out).alloc (B1.out.size) _) | exact rd2_keep hM (((B1.out).alloc (B1.out.size) _).alloc (by have := B1.out.size; simp <;> omega) _) | exact rd2_keep hM ((((B1.out).alloc (B1.out.size) _).alloc (by have := B1.out.size; simp <;> omega) _).alloc (by have := B1.out.size; simp <;> omega) _))).mono ?_
      rintro e V2 ⟨rfl, hb2⟩
      clear S1_0 S1_1 S1_2 S1_3 S1_4 zS1
      have B2 : Hid (Below w.heap.size w V2) := nbx B1 hb2
      replace S1 := rcx hb2 S1
      clear hb2
      obtain ⟨S1_0, S1_1, S1_2, S1_3, S1_4⟩ := qw5 S1
      have zS1 := lt_of_heap S1.out
      go_simp
      go_wp2
      go_ret
      exact ⟨rfl, by first | exact B2.out | exact B2.out.alloc B2.out.size _⟩
end Go.Proofs.YtacpcjdiljnlaaaGreatDoor
