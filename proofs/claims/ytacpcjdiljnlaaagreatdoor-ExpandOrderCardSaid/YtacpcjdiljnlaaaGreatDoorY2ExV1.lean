/- Several texts in one: ExV. -/
import Derived.Test.YtacpcjdiljnlaaaGreatDoorY2Sm
import Derived.Test.YtacpcjdiljnlaaaGreatDoorY2Rul2
import Derived.Test.YtacpcjdiljnlaaaGreatDoorY2ExO1
namespace Go.Proofs.YtacpcjdiljnlaaaGreatDoor
set_option linter.unusedVariables false
set_option linter.unusedSimpArgs false
open Go.ChangeShapes Go.WideShapes Go.ChangeAt Go.RowKit
set_option maxHeartbeats 6400000 in
set_option maxRecDepth 100000 in
theorem order_main {YF : Int → Int} (hYF : ∀ S, YIs S (YF S)) (z : Src) (A : Option Addr) (c : Nat) (y : Int) (tof : Int) (td : Bool) (tb : List UInt8) (htb : tb.length ≤ 9223372036854775807) (y1 : -9999 ≤ y) (y2 : y ≤ 9999) (hf : z.lns.length ≤ 100) (w : World) (hR : Rd w A (linVs z.lns)) (hS : SB z) (hK : KX w) :
    Calls Tryz.prog 6 #[srcV z A c, .int .i64 y, .agg #[.int .i64 tof, .bool td, .string (bs tb)]] w fun e w' => e = .returned (.bool true) ∧ Below w.heap.size w w' := by
  have X0 := rFew17_any z A c hS.lns
  rw [decide_eq_true hf] at X0
  have H0 := Lib.hid X0
  have H1 := Lib.hid (fun w (h : KX w ∧ Rd w A (linVs z.lns) ∧ Rd w A (linVs z.lns)) => pExEvents_any hYF z A c y y w h.1 h.2.1 hS)
  have HT := Lib.hid (rMayTri_any tof td tb htb)
  have HV := Lib.hid (fun z2 A2 c2 w hK hR hS => pExEvents_any hYF z2 A2 c2 y y w hK hR hS)
  have hM := Lib.hid (And.intro hK (And.intro hR hR))
  have hK0 := Lib.hid hK
  have hR0 := Lib.hid hR
  have hev := Lib.hid (fun he L (h : EvP YF z y y L) => order_ev hYF (z := z) (y := y) he (L := L) h)
  have d1 : decide (y < -9999) = false := decide_eq_false (by omega)
  have d2 : decide (9999 < y) = false := decide_eq_false (by omega)
  have hb100 := Lib.hid hf
  obtain ⟨i0, hi, hz0, hz1, hz2⟩ := info_parts infoLin
  clear X0 hR hK hS hf hYF
  obtain ⟨nam, off, dst, abb, ls⟩ := z
  unfold srcV at *
  simp only at *
  go_enter Tryz.func6, Tryz.ntmps6
  go_wp2_with fail
  
  refine (H0.out _).mono ?_
  rintro e V1 ⟨rfl, hb1⟩
  have B1 := Lib.hid ((((Below.refl w.heap.size w).alloc (Nat.le_refl _) _).alloc (by simp <;> omega) _).trans (hb1.mono (by first | assumption | (simp <;> omega) | (simp; done))))
  have S1 := Lib.hid (row_call hb1 (row_alloc (heap_alloc_new _ _) _))
  have T1 := Lib.hid (row_at (k' := w.heap.size + 1) (by simp) (row_call hb1 (heap_alloc_new _ _)))
  clear hb1
  obtain ⟨S1_0, S1_1, S1_2, S1_3, S1_4⟩ := qw5 S1
  obtain ⟨T1_0, T1_1, T1_2⟩ := qw3 T1
  have zS1 := lt_of_heap S1.out
  have zT1 := lt_of_heap T1.out
  go_simp
  go_wp2_with fail
  refine (H1.out _ (rd2_keep hM B1.out)).mono ?_
  rintro e w9 ⟨L, A2, c2, rfl, hR2, hP, hLlen, hb9⟩
  replace hLlen := Lib.hid hLlen
  have HB : Hid (Below w.heap.size w w9) := Lib.hid (B1.out.trans (hb9.mono B1.out.size))
  have A9 : Hid (w9.heap[w.heap.size]? = _) := Lib.hid (row_call hb9 S1.out)
  have T9 : Hid (w9.heap[w.heap.size + 1]? = _) := Lib.hid (row_call hb9 T1.out)
  replace hM : Hid (KX w9 ∧ Rd w9 A (linVs ls) ∧ Rd w9 A2 (chgVs L)) := Lib.hid ⟨(rd2_keep hM HB.out).1, (rd2_keep hM HB.out).2.1, hR2⟩
  have H7 := Lib.hid (fun w (h : KX w ∧ Rd w A (linVs ls) ∧ Rd w A2 (chgVs L)) => awake17_any w h.1)
  have hAw := Lib.hid (fun w (h : KX w) => awake17_any w h)
  clear hR2 hb9 S1 B1 H0 H1 S1_0 S1_1 S1_2 S1_3 S1_4 zS1 T1 T1_0 T1_1 T1_2 zT1
  
  obtain ⟨A9_0, A9_1, A9_2, A9_3, A9_4⟩ := qw5 A9
  have zA9 := lt_of_heap A9.out
  obtain ⟨T9_0, T9_1, T9_2⟩ := qw3 T9
  have zT9 := lt_of_heap T9.out
  
  by_cases hE : evE ⟨nam, off, dst, abb, ls⟩ y y = 0
  · obtain ⟨q1, q2, q3⟩ := hev.out hE L hP
    rw [hE]
    replace hE := Lib.hid hE
    replace q1 := Lib.hid q1
    replace q2 := Lib.hid q2
    replace q3 := Lib.hid q3
    clear hev hP
    go_simp
    go_wp2
    go_loopw [9] (fun i wr => ∃ j : Nat, (j = 0 ∨ j + 1 ≤ L.length) ∧ i = .int .i64 ((j : Int) + 1) ∧ Hid (Below w9.heap.size w9 wr) ∧ Hid (wr.heap[w.heap.size]? = some (.cells #[.string (bs nam), .int .i64 off, .bool dst, .string (bs abb), .slice A ls.length c] 26 (0, 0))) ∧ Hid (wr.heap[w.heap.size + 1]? = some (.cells #[.int .i64 tof, .bool td, .string (bs tb)] 23 (0, 0)))) (fun i _ => L.length - (intOf i).toNat)
    case atStart => exact ⟨0, Or.inl rfl, rfl, Lib.hid (Below.refl _ _), A9, T9⟩
    case round =>
      obtain ⟨j, hj, rfl, B20, S1, T1⟩ := hrel
      obtain ⟨V20, rfl⟩ : ∃ V, V = wr := ⟨_, rfl⟩
      clear A9 A9_0 A9_1 A9_2 A9_3 A9_4 zA9 T9 T9_0 T9_1 T9_2 zT9
      by_cases hlt : j + 1 < L.length
      · obtain ⟨b, o, rfl, hbw, hc⟩ := hM.out.2.2.chg (k := j) (by omega)
        have K0 := (hc j (by omega)).1
        have N0 := (hc (j + 1) hlt).1
        have hs := q1.out j hlt
        have d3 : decide ((j : Int) + 1 < (L.length : Int)) = true := decide_eq_true (by omega)
        have d3b : (j : Int) + 1 < (L.length : Int) := by omega
        have d3c : ((j : Int) + 1).toNat = j + 1 := by omega
        have d3d : (j : Int) < (L.length : Int) := by omega
        have hw1 : IntKind.i64.wrap ((j : Int) + 1 + 1) = (j : Int) + 1 + 1 := by
          rw [IntKind.wrap_i64]
          have := hLlen.out
          omega
        have hw2 : IntKind.i64.wrap (j : Int) = (j : Int) := by
          rw [IntKind.wrap_i64]
          have := hLlen.out
          omega
        have ib1 : (0 : Int) ≤ (j : Int) + 1 ∧ (j : Int) + 1 < (L.length : Int) := by omega
        clear hc
        generalize L[j].1 = sec at *
        generalize L[j + 1].1 = sec2 at *
        have d4 : decide (sec2 ≤ sec) = false := decide_eq_false (by omega)
        replace hs := Lib.hid hs
        replace hlt := Lib.hid hlt
        
        obtain ⟨S1_0, S1_1, S1_2, S1_3, S1_4⟩ := qw5 S1
        have zS1 := lt_of_heap S1.out
        obtain ⟨T1_0, T1_1, T1_2⟩ := qw3 T1
        have zT1 := lt_of_heap T1.out
        have k0 : V20.cell? ⟨b, o + j * 4, none⟩ = some (.int .i64 sec) := (B20.out.cell (p := ⟨b, o + j * 4, none⟩) hbw).trans K0
        have n0 : V20.cell? ⟨b, o + (j + 1) * 4, none⟩ = some (.int .i64 sec2) := (B20.out.cell (p := ⟨b, o + (j + 1) * 4, none⟩) hbw).trans N0
        have hBz := Lib.hid (fun q => dwn17 B20.out q)
        have hSz := Lib.hid (fun q => row_dwn17 S1.out q)
        have hTz := Lib.hid (fun q => row_dwn17 T1.out q)
        go_wp2_with fail
        go_quiet (fail)
        go_wp2
        go_roundw
        case rel => exact ⟨j + 1, Or.inr (by have := hlt.out; omega), by go_num, Lib.hid (hBz.out _), Lib.hid (hSz.out _), Lib.hid (hTz.out _)⟩
        case measure => simp [intOf]; have := hlt.out; omega
      · have d3 : decide ((j : Int) + 1 < (L.length : Int)) = false := decide_eq_false (by omega)
        have hj2 : L.length = 0 ∨ j + 1 = L.length := by omega
        replace hlt := Lib.hid hlt
        replace hj := Lib.hid hj
        replace hj2 := Lib.hid hj2
        
        have S1_f0 : V20.frozen? ⟨w.heap.size, 0, none⟩ = false := frx S1
        have S1_f1 : V20.frozen? ⟨w.heap.size, 1, none⟩ = false := frx S1
        have S1_f2 : V20.frozen? ⟨w.heap.size, 2, none⟩ = false := frx S1
        have S1_f3 : V20.frozen? ⟨w.heap.size, 3, none⟩ = false := frx S1
        have S1_f4 : V20.frozen? ⟨w.heap.size, 4, none⟩ = false := frx S1
        obtain ⟨S1_0, S1_1, S1_2, S1_3, S1_4⟩ := qw5 S1
        have zS1 := lt_of_heap S1.out
        obtain ⟨T1_0, T1_1, T1_2⟩ := qw3 T1
        have zT1 := lt_of_heap T1.out
        
        by_cases h0 : 0 < L.length
        · have n0 : ((L.length : Int) == 0) = false := by rw [beq_eq_false_iff_ne]; omega
          by_cases h16 : ls.length < 16
          · have n1 : decide ((16 : Int) ≤ (ls.length : Int)) = false := decide_eq_false (by omega)
            by_cases ht : triE tof tb = 0
            · have hls := q2.out h0
              obtain ⟨v1, v2, v3⟩ := q3.out h0 tof td tb h16 ht
              obtain ⟨b, o, rfl, hbw, hc⟩ := hM.out.2.2.chg (k := 0) h0
              have K0 := (hc 0 h0).1
              obtain ⟨kb, K3⟩ : ∃ x : Bool, w9.cell? ⟨b, o + 2, none⟩ = some (.bool x) := ⟨_, by simpa using (hc 0 h0).2.2.1⟩
              have X4 := HV.out ⟨nam, off, dst, abb, ls ++ [atL L[0].1 tof td tb]⟩
              generalize L[0].1 = s0 at *
              have HE2 : Hid (∀ g cap w, KX w → Rd w (some ⟨g, 0, none⟩) (linVs (ls ++ [atL s0 tof td tb])) → Calls Tryz.prog 13 #[.agg #[.string (bs nam), .int .i64 off, .bool dst, .string (bs abb), .slice (some ⟨g, 0, none⟩) (ls.length + 1) cap], .int .i64 y, .int .i64 y] w (RetChg (fun M => M.length = L.length ∧ ∃ h1 : 0 < M.length, M[0] = (s0, tof, td, tb)) 0 w)) := Lib.hid (fun g cap w hK hR => by
                have h5 := X4 (some ⟨g, 0, none⟩) cap w hK hR v2
                rw [v1] at h5
                simp only [List.length_append, List.length_cons, List.length_nil, Nat.zero_add] at h5
                exact h5.mono fun e w' h => h.mono v3)
              obtain ⟨bA, oA, rfl, hbA, _⟩ := hM.out.2.1.lin (k := 0) hls
              rw [ht] at HT
              clear X4 v1 v2 v3
              replace ht := Lib.hid ht
              replace h16 := Lib.hid h16
              replace hls := Lib.hid hls
              clear S1_0 S1_1 S1_2 S1_3 S1_4 S1_f0 S1_f1 S1_f2 S1_f3 S1_f4 zS1 T1_0 T1_1 T1_2 zT1
              
              have S1_f0 : V20.frozen? ⟨w.heap.size, 0, none⟩ = false := frx S1
              have S1_f1 : V20.frozen? ⟨w.heap.size, 1, none⟩ = false := frx S1
              have S1_f2 : V20.frozen? ⟨w.heap.size, 2, none⟩ = false := frx S1
              have S1_f3 : V20.frozen? ⟨w.heap.size, 3, none⟩ = false := frx S1
              have S1_f4 : V20.frozen? ⟨w.heap.size, 4, none⟩ = false := frx S1
              obtain ⟨S1_0, S1_1, S1_2, S1_3, S1_4⟩ := qw5 S1
              have zS1 := lt_of_heap S1.out
              obtain ⟨T1_0, T1_1, T1_2⟩ := qw3 T1
              have zT1 := lt_of_heap T1.out
              go_wp2_with fail
              refine (HT.out _).mono ?_
              rintro e V21 ⟨rfl, hb21⟩
              clear S1_f0 S1_f1 S1_f2 S1_f3 S1_f4 S1_0 S1_1 S1_2 S1_3 S1_4 zS1 T1_0 T1_1 T1_2 zT1
              have B21 : Hid (Below w9.heap.size w9 V21) := nbx B20 hb21
              replace S1 := rcx hb21 S1
              replace T1 := rcx hb21 T1
              clear hb21
              obtain ⟨S1_0, S1_1, S1_2, S1_3, S1_4⟩ := qw5 S1
              have S1_f0 : V21.frozen? ⟨w.heap.size, 0, none⟩ = false := by simp [World.frozen?, S1.out]
              have S1_f1 : V21.frozen? ⟨w.heap.size, 1, none⟩ = false := by simp [World.frozen?, S1.out]
              have S1_f2 : V21.frozen? ⟨w.heap.size, 2, none⟩ = false := by simp [World.frozen?, S1.out]
              have S1_f3 : V21.frozen? ⟨w.heap.size, 3, none⟩ = false := by simp [World.frozen?, S1.out]
              have S1_f4 : V21.frozen? ⟨w.heap.size, 4, none⟩ = false := by simp [World.frozen?, S1.out]
              obtain ⟨T1_0, T1_1, T1_2⟩ := qw3 T1
              have zS1 := lt_of_heap S1.out
              have zT1 := lt_of_heap T1.out
              have hwV := Lib.hid (HB.out.trans (B21.out.mono HB.out.size))
              have hRV := Lib.hid (hM.out.2.1.below B21.out (Nat.le_refl _))
              have hbV : b < V21.heap.size := Nat.lt_of_lt_of_le hbw B21.out.size
              have hbx : ¬ (b = V21.heap.size) := by omega
              have hsx : ¬ (w.heap.size = V21.heap.size) := by omega
              have htx : ¬ (w.heap.size + 1 = V21.heap.size) := by omega
              have k0 : V21.cell? ⟨b, o, none⟩ = some (.int .i64 s0) := (B21.out.cell (p := ⟨b, o, none⟩) hbw).trans (by simpa using K0)
              have k2 : V21.cell? ⟨b, o + 2, none⟩ = some (.bool kb) := (B21.out.cell (p := ⟨b, o + 2, none⟩) hbw).trans K3
              have hbS : b ≠ w.heap.size := by
                rintro rfl
                have e0 := (Lib.cell_of_heap S1.out (j := o)).symm.trans k0
                have e2 := (Lib.cell_of_heap S1.out (j := o + 2)).symm.trans k2
                match o, e0, e2 with
                | 0, e0, _ => simp at e0
                | 1, _, e2 => simp at e2
                | 2, e0, _ => simp at e0
                | 3, e0, _ => simp at e0
                | 4, e0, _ => simp at e0
                | n + 5, e0, _ => simp at e0
              have hBd : Hid (Below V21.heap.size V21 V21.drew) := Lib.hid (Below.refl _ _).drew
              have hBa : Hid (∀ ob, Below V21.heap.size V21 (V21.alloc ob).drew) := Lib.hid (fun ob => ((Below.refl _ _).alloc (Nat.le_refl _) ob).drew)
              clear K0 K3 hc k2
              replace hbS := Lib.hid hbS
              go_simp
              go_wp2_with fail
              go_cut [] (fun wx => ∃ g cap, Below w.heap.size w wx ∧ wx.heap[w.heap.size]? = some (.cells #[.string (bs nam), .int .i64 off, .bool dst, .string (bs abb), .slice (some ⟨g, 0, none⟩) (ls.length + 1) cap] 26 (0, 0)) ∧ Rd wx (some ⟨g, 0, none⟩) (linVs (ls ++ [atL s0 tof td tb])) ∧ (∀ k ob, k ≠ w.heap.size → V21.heap[k]? = some ob → wx.heap[k]? = some ob) ∧ V21.heap.size ≤ wx.heap.size)
              case first =>
                go_region_law (first | (refine step_append_lies _ (by rfl) _ _ _ (by rfl) V21.heap.size 49 i0 (.agg #[.int .i64 0, .int .i64 0, .int .i64 0, .int .i64 0, .int .i64 0, .int .i64 0, .int .i64 0, .int .i64 0, .int .i64 0, .int .i64 0, .int .i64 0, .bool false, .string ⟨#[]⟩]) 13 112 Tryz.underlying24 hi hz0 hz1 hz2 rfl (by omega) (.slice none 0 0) 0 [] (by rfl) ⟨rfl, Or.inl ⟨rfl, rfl⟩⟩ ⟨bA, oA, none⟩ ls.length c (linVs ls) (by rfl) (linVs_len ls) (rd_news hRV.out hBd.out) (linVs_one ls) hls.out (by unfold maxLen; have := hb100.out; omega) (by have := hb100.out; omega) (by first | exact Nat.le_refl _ | (show V21.heap.size ≤ (V21.alloc _).heap.size; simp)) _ rfl ?_; intro g1 cap1 w1 hown1 hgrow1 hat1 hlt1; (have HB1 := Lib.hid ((hBd.out).grown hgrow1 (by first | exact Nat.le_refl _ | (show V21.heap.size ≤ (V21.alloc _).heap.size; simp)) (by intro k hk; cases hk))); (simp only [Nat.zero_add, List.nil_append] at hown1); (have c41 : w1.cell? ⟨w.heap.size, 4, none⟩ = some (.slice (some ⟨bA, oA, none⟩) ls.length c) := (HB1.out.cell (p := ⟨w.heap.size, 4, none⟩) zS1).trans S1_4); (have f41 : w1.frozen? ⟨w.heap.size, 4, none⟩ = false := (World.frozen?_of_block (a := ⟨w.heap.size, 4, none⟩) (HB1.out.block _ zS1)).trans S1_f4); (have k01 : w1.cell? ⟨b, o, none⟩ = some (.int .i64 s0) := (HB1.out.cell (p := ⟨b, o, none⟩) hbV).trans k0); (have t01 : w1.cell? ⟨w.heap.size + 1, 0, none⟩ = some (.int .i64 tof) := (HB1.out.cell (p := ⟨w.heap.size + 1, 0, none⟩) zT1).trans T1_0); (have t11 : w1.cell? ⟨w.heap.size + 1, 1, none⟩ = some (.bool td) := (HB1.out.cell (p := ⟨w.heap.size + 1, 1, none⟩) zT1).trans T1_1); (have t21 : w1.cell? ⟨w.heap.size + 1, 2, none⟩ = some (.string (bs tb)) := (HB1.out.cell (p := ⟨w.heap.size + 1, 2, none⟩) zT1).trans T1_2)) | (refine step_append_lies _ (by rfl) _ _ _ (by rfl) V21.heap.size 49 i0 (.agg #[.int .i64 0, .int .i64 0, .int .i64 0, .int .i64 0, .int .i64 0, .int .i64 0, .int .i64 0, .int .i64 0, .int .i64 0, .int .i64 0, .int .i64 0, .bool false, .string ⟨#[]⟩]) 13 112 Tryz.underlying24 hi hz0 hz1 hz2 rfl (by omega) (.slice none 0 0) 0 [] (by rfl) ⟨rfl, Or.inl ⟨rfl, rfl⟩⟩ ⟨bA, oA, none⟩ ls.length c (linVs ls) (by rfl) (linVs_len ls) (rd_news hRV.out (hBa.out _)) (linVs_one ls) hls.out (by unfold maxLen; have := hb100.out; omega) (by have := hb100.out; omega) (by first | exact Nat.le_refl _ | (show V21.heap.size ≤ (V21.alloc _).heap.size; simp)) _ rfl ?_; intro g1 cap1 w1 hown1 hgrow1 hat1 hlt1; (have HB1 := Lib.hid (((hBa.out _)).grown hgrow1 (by first | exact Nat.le_refl _ | (show V21.heap.size ≤ (V21.alloc _).heap.size; simp)) (by intro k hk; cases hk))); (simp only [Nat.zero_add, List.nil_append] at hown1); (have c41 : w1.cell? ⟨w.heap.size, 4, none⟩ = some (.slice (some ⟨bA, oA, none⟩) ls.length c) := (HB1.out.cell (p := ⟨w.heap.size, 4, none⟩) zS1).trans S1_4); (have f41 : w1.frozen? ⟨w.heap.size, 4, none⟩ = false := (World.frozen?_of_block (a := ⟨w.heap.size, 4, none⟩) (HB1.out.block _ zS1)).trans S1_f4); (have k01 : w1.cell? ⟨b, o, none⟩ = some (.int .i64 s0) := (HB1.out.cell (p := ⟨b, o, none⟩) hbV).trans k0); (have t01 : w1.cell? ⟨w.heap.size + 1, 0, none⟩ = some (.int .i64 tof) := (HB1.out.cell (p := ⟨w.heap.size + 1, 0, none⟩) zT1).trans T1_0); (have t11 : w1.cell? ⟨w.heap.size + 1, 1, none⟩ = some (.bool td) := (HB1.out.cell (p := ⟨w.heap.size + 1, 1, none⟩) zT1).trans T1_1); (have t21 : w1.cell? ⟨w.heap.size + 1, 2, none⟩ = some (.string (bs tb)) := (HB1.out.cell (p := ⟨w.heap.size + 1, 2, none⟩) zT1).trans T1_2); (have hnb := Lib.hid ((hgrow1.block V21.heap.size (by show V21.heap.size < (V21.alloc _).heap.size; simp) (by intro h; cases h)).trans (heap_alloc_new V21 _)))) | (refine step_append_lies _ (by rfl) _ _ _ (by rfl) V21.heap.size 49 i0 (.agg #[.int .i64 0, .int .i64 0, .int .i64 0, .int .i64 0, .int .i64 0, .int .i64 0, .int .i64 0, .int .i64 0, .int .i64 0, .int .i64 0, .int .i64 0, .bool false, .string ⟨#[]⟩]) 13 112 Tryz.underlying24 hi hz0 hz1 hz2 rfl (by omega) (.slice (some ⟨g1, 0, none⟩) ls.length cap1) ls.length (linVs ls) (by rfl) (hown1.alloc _) ⟨w1.heap.size, 0, none⟩ 1 1 [.int .i64 1, .int .i64 s0, .int .i64 0, .int .i64 0, .int .i64 0, .int .i64 0, .int .i64 0, .int .i64 0, .int .i64 0, .int .i64 0, .int .i64 tof, .bool td, .string (bs tb)] (by rfl) (by rfl) (World.news_of_block (cs := #[Value.int .i64 1, Value.int .i64 s0, Value.int .i64 0, Value.int .i64 0, Value.int .i64 0, Value.int .i64 0, Value.int .i64 0, Value.int .i64 0, Value.int .i64 0, Value.int .i64 0, Value.int .i64 tof, Value.bool td, Value.string (bs tb)]) (t := 49) (fr := (0, 0)) (heap_alloc_new w1 _)) (by simp [Value.oneCell']) (by omega) (by unfold maxLen; have := hb100.out; omega) (by have := hb100.out; omega) (by first | exact HB1.out.size | (show V21.heap.size ≤ (w1.alloc _).heap.size; have := HB1.out.size; simp; omega)) _ rfl ?_; intro g2 cap2 w2 hown2 hgrow2 hat2 hlt2; (have HB2 := Lib.hid (bel_append HB1.out HB1.out.size hown1 hgrow2)); (have c42 : w2.cell? ⟨w.heap.size, 4, none⟩ = some (.slice (some ⟨bA, oA, none⟩) ls.length c) := (HB2.out.cell (p := ⟨w.heap.size, 4, none⟩) zS1).trans S1_4); (have f42 : w2.frozen? ⟨w.heap.size, 4, none⟩ = false := (World.frozen?_of_block (a := ⟨w.heap.size, 4, none⟩) (HB2.out.block _ zS1)).trans S1_f4)) | (refine step_append_lies _ (by rfl) _ _ _ (by rfl) V21.heap.size 49 i0 (.agg #[.int .i64 0, .int .i64 0, .int .i64 0, .int .i64 0, .int .i64 0, .int .i64 0, .int .i64 0, .int .i64 0, .int .i64 0, .int .i64 0, .int .i64 0, .bool false, .string ⟨#[]⟩]) 13 112 Tryz.underlying24 hi hz0 hz1 hz2 rfl (by omega) (.slice (some ⟨g1, 0, none⟩) ls.length cap1) ls.length (linVs ls) (by rfl) hown1 ⟨V21.heap.size, 0, none⟩ 1 1 [.int .i64 1, .int .i64 s0, .int .i64 0, .int .i64 0, .int .i64 0, .int .i64 0, .int .i64 0, .int .i64 0, .int .i64 0, .int .i64 0, .int .i64 tof, .bool td, .string (bs tb)] (by rfl) (by rfl) (World.news_of_block (cs := #[Value.int .i64 1, Value.int .i64 s0, Value.int .i64 0, Value.int .i64 0, Value.int .i64 0, Value.int .i64 0, Value.int .i64 0, Value.int .i64 0, Value.int .i64 0, Value.int .i64 0, Value.int .i64 tof, Value.bool td, Value.string (bs tb)]) (t := 49) (fr := (0, 0)) hnb.out) (by simp [Value.oneCell']) (by omega) (by unfold maxLen; have := hb100.out; omega) (by have := hb100.out; omega) (by first | exact HB1.out.size | (show V21.heap.size ≤ (w1.alloc _).heap.size; have := HB1.out.size; simp; omega)) _ rfl ?_; intro g2 cap2 w2 hown2 hgrow2 hat2 hlt2; (have HB2 := Lib.hid (HB1.out.grown hgrow2 HB1.out.size (fun k hk => (hown1.lt k hk).1))); (have c42 : w2.cell? ⟨w.heap.size, 4, none⟩ = some (.slice (some ⟨bA, oA, none⟩) ls.length c) := (HB2.out.cell (p := ⟨w.heap.size, 4, none⟩) zS1).trans S1_4); (have f42 : w2.frozen? ⟨w.heap.size, 4, none⟩ = false := (World.frozen?_of_block (a := ⟨w.heap.size, 4, none⟩) (HB2.out.block _ zS1)).trans S1_f4)))
                all_goals (go_wp2_with fail; go_meet)
                all_goals (exact ⟨g2, cap2, (order_done hwV.out (Nat.le_refl _) S1.out HB2.out hown2 (by omega) _).1, (order_done hwV.out (Nat.le_refl _) S1.out HB2.out hown2 (by omega) _).2.1, by rw [linVs_snoc]; exact (order_done hwV.out (Nat.le_refl _) S1.out HB2.out hown2 (by omega) _).2.2.1, (order_done hwV.out (Nat.le_refl _) S1.out HB2.out hown2 (by omega) _).2.2.2⟩)
              case rest =>
                obtain ⟨g, cap, hBw, hSr, hRg, hO, hsz⟩ := hcut
                clear hBd hBa hRV i0 hi hz0 hz1 hz2
                obtain ⟨V30, rfl⟩ : ∃ V, V = wc := ⟨_, rfl⟩
                have S2 := Lib.hid hSr
                have T2 := Lib.hid (hO _ _ (by omega) T1.out)
                have B30 := Lib.hid hBw
                have hKw := Lib.hid (And.intro hK0.out (And.intro hR0.out hR0.out))
                have kL : V30.cell? ⟨b, o, none⟩ = some (.int .i64 s0) := by
                  rw [← k0]
                  obtain ⟨ob, hob⟩ : ∃ ob, V21.heap[b]? = some ob := ⟨_, Array.getElem?_eq_getElem hbV⟩
                  exact World.cell?_of_block (a := ⟨b, o, none⟩) ((hO b ob hbS.out hob).trans hob.symm)
                have hbL : b < V30.heap.size := by omega
                have hcall := HE2.out g cap V30 (rd2_keep hKw B30.out).1 hRg
                clear hO hSr hBw hRg S1_0 S1_1 S1_2 S1_3 S1_4 S1_f0 S1_f1 S1_f2 S1_f3 S1_f4 zS1 T1_0 T1_1 T1_2 zT1 S1 T1 k0 hbV hbx hsx htx hsz hwV HE2 H7 HV HT q1 q2 q3
                
                obtain ⟨S2_0, S2_1, S2_2, S2_3, S2_4⟩ := qw5 S2
                have zS2 := lt_of_heap S2.out
                obtain ⟨T2_0, T2_1, T2_2⟩ := qw3 T2
                have zT2 := lt_of_heap T2.out
                go_wp2_with fail
                refine hcall.mono ?_
                rintro e w40 ⟨M, A3, c3, rfl, hR3, ⟨hM1, hM2, hM3⟩, hMl, hb40⟩
                obtain ⟨b3, o3, rfl, hb3, hc3⟩ := hR3.chg hM2
                have m4 := hc3 0 hM2
                rw [hM3, Nat.zero_mul, Nat.add_zero] at m4
                obtain ⟨m0, m1, m2, m3⟩ := m4
                obtain ⟨V41, rfl⟩ : ∃ V, V = w40 := ⟨_, rfl⟩
                have B41 := Lib.hid (B30.out.trans (hb40.mono B30.out.size))
                have T3 := Lib.hid (row_call hb40 T2.out)
                have kM : V41.cell? ⟨b, o, none⟩ = some (.int .i64 s0) := (hb40.cell (p := ⟨b, o, none⟩) hbL).trans kL
                have hbM : b < V41.heap.size := Nat.lt_of_lt_of_le hbL hb40.size
                have hM0 : 0 < M.length := hM2
                have hMe : ((M.length : Int) == (L.length : Int)) = true := by rw [hM1]; exact beq_self_eq_true _
                clear hcall hR3 hc3 hb40 hMl hM1 hM2 hM3 kL hbL S2 S2_0 S2_1 S2_2 S2_3 S2_4 zS2 T2_0 T2_1 T2_2 zT2 T2
                have hM := hKw
                have HA := Lib.hid (fun W (h : KX W ∧ Rd W (some ⟨bA, oA, none⟩) (linVs ls) ∧ Rd W (some ⟨bA, oA, none⟩) (linVs ls)) => hAw.out W h.1)
                
                obtain ⟨T3_0, T3_1, T3_2⟩ := qw3 T3
                have zT3 := lt_of_heap T3.out
                go_simp
                go_wp2_with fail
                clear T3_0 T3_1 T3_2 zT3
                obtain ⟨W0, hW0⟩ : ∃ W0, W0 = V41 := ⟨_, rfl⟩
                replace T3 := Lib.hid (row_by hW0 T3.out)
                have HB0 := Lib.hid (below_by hW0 (B41.out))
                have HW0 := Lib.hid hW0
                clear hW0
                obtain ⟨T3_0, T3_1, T3_2⟩ := qw3 T3
                have zT3 := lt_of_heap T3.out
                have xc0 : W0.cell? ⟨b, o, none⟩ = some (.int .i64 s0) := by ((rw [HW0.out]) <;> first | assumption | (simp; done) | (simp; assumption))
                have xl0 : b < W0.heap.size := World.block_lt_of_cell? W0 ⟨b, o, none⟩ xc0
                have xc1 : W0.cell? ⟨b3, o3, none⟩ = some (.int .i64 s0) := by ((rw [HW0.out]) <;> first | assumption | (simp; done) | (simp; assumption))
                have xl1 : b3 < W0.heap.size := World.block_lt_of_cell? W0 ⟨b3, o3, none⟩ xc1
                have xc2 : W0.cell? ⟨b3, o3 + 1, none⟩ = some (.int .i64 tof) := by ((rw [HW0.out]) <;> first | assumption | (simp; done) | (simp; assumption))
                have xc3 : W0.cell? ⟨b3, o3 + 2, none⟩ = some (.bool td) := by ((rw [HW0.out]) <;> first | assumption | (simp; done) | (simp; assumption))
                have xc4 : W0.cell? ⟨b3, o3 + 3, none⟩ = some (.string (bs tb)) := by ((rw [HW0.out]) <;> first | assumption | (simp; done) | (simp; assumption))
                try rw [← HW0.out]
                go_cut [6] (fun s6 wx => s6 = .bool true ∧ Below W0.heap.size W0 wx)
                case first =>
                  go_region_held3 (fun w' => Below W0.heap.size W0 w' ∧ w'.cell? ⟨w.heap.size + 1, 0, none⟩ = some (.int .i64 tof) ∧ w'.cell? ⟨w.heap.size + 1, 1, none⟩ = some (.bool td) ∧ w'.cell? ⟨w.heap.size + 1, 2, none⟩ = some (.string (bs tb)) ∧ w'.cell? ⟨b, o, none⟩ = some (.int .i64 s0) ∧ w'.cell? ⟨b3, o3, none⟩ = some (.int .i64 s0) ∧ w'.cell? ⟨b3, o3 + 1, none⟩ = some (.int .i64 tof) ∧ w'.cell? ⟨b3, o3 + 2, none⟩ = some (.bool td) ∧ w'.cell? ⟨b3, o3 + 3, none⟩ = some (.string (bs tb)))
    (first
      | ((try go_split_ands); refine ⟨(Below.refl _ _).drew, ?_, ?_, ?_, ?_, ?_, ?_, ?_, ?_⟩ <;> first | assumption | (rw [World.cell?_drew]; assumption))
      | ((try go_split_ands); refine ⟨keepS (W0 := W0) ?_ hb1, cellS (W0 := W0) ?_ hb1 ?_ ?_, cellS (W0 := W0) ?_ hb1 ?_ ?_, cellS (W0 := W0) ?_ hb1 ?_ ?_, cellS (W0 := W0) ?_ hb1 ?_ ?_, cellS (W0 := W0) ?_ hb1 ?_ ?_, cellS (W0 := W0) ?_ hb1 ?_ ?_, cellS (W0 := W0) ?_ hb1 ?_ ?_, cellS (W0 := W0) ?_ hb1 ?_ ?_⟩ <;> first | assumption | omega)
      | ((try go_split_ands); refine ⟨keepA (W0 := W0) ?_ _, cellA (W0 := W0) ?_ _ ?_ ?_, cellA (W0 := W0) ?_ _ ?_ ?_, cellA (W0 := W0) ?_ _ ?_ ?_, cellA (W0 := W0) ?_ _ ?_ ?_, cellA (W0 := W0) ?_ _ ?_ ?_, cellA (W0 := W0) ?_ _ ?_ ?_, cellA (W0 := W0) ?_ _ ?_ ?_, cellA (W0 := W0) ?_ _ ?_ ?_⟩ <;> first | assumption | omega)
      | ((try go_split_ands); refine ⟨keepAd (W0 := W0) ?_ _, cellAd (W0 := W0) ?_ _ ?_ ?_, cellAd (W0 := W0) ?_ _ ?_ ?_, cellAd (W0 := W0) ?_ _ ?_ ?_, cellAd (W0 := W0) ?_ _ ?_ ?_, cellAd (W0 := W0) ?_ _ ?_ ?_, cellAd (W0 := W0) ?_ _ ?_ ?_, cellAd (W0 := W0) ?_ _ ?_ ?_, cellAd (W0 := W0) ?_ _ ?_ ?_⟩ <;> first | assumption | omega | exact Below.refl _ _)
      | ((try go_split_ands); (with_reducible refine ⟨keep3 (W0 := W0) ?_ ?_ _ _ _, cell3 (W0 := W0) ?_ _ _ _ ?_ ?_, cell3 (W0 := W0) ?_ _ _ _ ?_ ?_, cell3 (W0 := W0) ?_ _ _ _ ?_ ?_, cell3 (W0 := W0) ?_ _ _ _ ?_ ?_, cell3 (W0 := W0) ?_ _ _ _ ?_ ?_, cell3 (W0 := W0) ?_ _ _ _ ?_ ?_, cell3 (W0 := W0) ?_ _ _ _ ?_ ?_, cell3 (W0 := W0) ?_ _ _ _ ?_ ?_⟩) <;> first | assumption | omega | exact Nat.le_refl _)
      | ((try go_split_ands); refine ⟨keep2 (W0 := W0) ?_ ?_ _ _, cell2 (W0 := W0) ?_ _ _ ?_ ?_, cell2 (W0 := W0) ?_ _ _ ?_ ?_, cell2 (W0 := W0) ?_ _ _ ?_ ?_, cell2 (W0 := W0) ?_ _ _ ?_ ?_, cell2 (W0 := W0) ?_ _ _ ?_ ?_, cell2 (W0 := W0) ?_ _ _ ?_ ?_, cell2 (W0 := W0) ?_ _ _ ?_ ?_, cell2 (W0 := W0) ?_ _ _ ?_ ?_⟩ <;> first | assumption | omega | exact Nat.le_refl _)
      | ((try go_split_ands); refine ⟨keepZ (W0 := W0) ?_ ?_ _, cellZ (W0 := W0) ?_ _ ?_ ?_, cellZ (W0 := W0) ?_ _ ?_ ?_, cellZ (W0 := W0) ?_ _ ?_ ?_, cellZ (W0 := W0) ?_ _ ?_ ?_, cellZ (W0 := W0) ?_ _ ?_ ?_, cellZ (W0 := W0) ?_ _ ?_ ?_, cellZ (W0 := W0) ?_ _ ?_ ?_, cellZ (W0 := W0) ?_ _ ?_ ?_⟩ <;> first | assumption | omega | exact Nat.le_refl _ | exact ⟨_, by assumption⟩))
    (first | (go_at_call 8; (with_reducible refine (HA.out _ ?_).mono ?_); (focus (refine rd2_keep (Lib.hid (rd2_keep hM HB0.out)) ?_; first | assumption | (with_reducible exact (Below.refl _ _).drew) | (go_split_ands; done) | ((try go_split_ands); assumption))); rintro e w1 ⟨rfl, hb1⟩; (try go_split_ands); have hge : W0.heap.size ≤ w1.heap.size := (by first | (refine (keepS (W0 := W0) ?_ hb1).size; assumption) | exact (hb1.size : W0.heap.size ≤ w1.heap.size)); (try have hrow := row_call hb1 hrow); (try have hrow := row_new hb1); (try have hrow := row_newd hb1); have hl1 := lt_below hb1; obtain ⟨hc1, hf1⟩ := bcell hb1; (try (have hrc := row_cellA hrow; clear hc1 hf1)); (try have hrf := row_frozA hrow)) | (go_at_call 8; refine (HA.out _ (by first | exact rd2_keep (Lib.hid (rd2_keep hM HB0.out)) (by assumption) | exact rd2_keep (Lib.hid (rd2_keep hM HB0.out)) (by (try go_split_ands); assumption) | exact rd2_keep (Lib.hid (rd2_keep hM HB0.out)) (Below.refl _ _).drew)).mono ?_; rintro e w1 ⟨rfl, hb1⟩; (try go_split_ands); have hge : W0.heap.size ≤ w1.heap.size := (by first | (refine (keepS (W0 := W0) ?_ hb1).size; assumption) | exact (hb1.size : W0.heap.size ≤ w1.heap.size)); (try have hrow := row_call hb1 hrow); (try have hrow := row_new hb1); (try have hrow := row_newd hb1); have hl1 := lt_below hb1; obtain ⟨hc1, hf1⟩ := bcell hb1; (try (have hrc := row_cellA hrow; clear hc1 hf1)); (try have hrf := row_frozA hrow)))
                  all_goals (try go_split_ands)
                  all_goals (go_wp2_with fail; go_meet; refine ⟨rfl, ?_⟩)
                  all_goals first | (with_reducible assumption) | (with_reducible exact heap_alloc_new _ _) | (with_reducible exact row_set3 (by assumption) _ _ _) | assumption | exact heap_alloc_new _ _ | exact row_set (by assumption) _ _
                case rest =>
                  obtain ⟨rfl, hB⟩ := hcut
                  obtain ⟨V42, rfl⟩ : ∃ V, V = wc := ⟨_, rfl⟩
                  clear T3_0 T3_1 T3_2 zT3
                  replace T3 := Lib.hid (row_call hB T3.out)
                  have B42 := Lib.hid (HB0.out.trans (hB.mono HB0.out.size))
                  clear hB
                  obtain ⟨T3_0, T3_1, T3_2⟩ := qw3 T3
                  have zT3 := lt_of_heap T3.out
                  go_wp2
                  go_ret
                  exact ⟨rfl, B42.out⟩
            · have n2 : (triE tof tb != 0) = true := bne_iff_ne.2 ht
              generalize triE tof tb = TE at *
              replace ht := Lib.hid ht
              replace h0 := Lib.hid h0
              replace h16 := Lib.hid h16
              
              go_wp2_with fail
              refine (HT.out _).mono ?_
              rintro e V21 ⟨rfl, hb21⟩
              clear S1_f0 S1_f1 S1_f2 S1_f3 S1_f4 S1_0 S1_1 S1_2 S1_3 S1_4 zS1 T1_0 T1_1 T1_2 zT1
              have B21 : Hid (Below w9.heap.size w9 V21) := nbx B20 hb21
              replace S1 := rcx hb21 S1
              replace T1 := rcx hb21 T1
              clear hb21
              obtain ⟨S1_0, S1_1, S1_2, S1_3, S1_4⟩ := qw5 S1
              have S1_f0 : V21.frozen? ⟨w.heap.size, 0, none⟩ = false := by simp [World.frozen?, S1.out]
              have S1_f1 : V21.frozen? ⟨w.heap.size, 1, none⟩ = false := by simp [World.frozen?, S1.out]
              have S1_f2 : V21.frozen? ⟨w.heap.size, 2, none⟩ = false := by simp [World.frozen?, S1.out]
              have S1_f3 : V21.frozen? ⟨w.heap.size, 3, none⟩ = false := by simp [World.frozen?, S1.out]
              have S1_f4 : V21.frozen? ⟨w.heap.size, 4, none⟩ = false := by simp [World.frozen?, S1.out]
              obtain ⟨T1_0, T1_1, T1_2⟩ := qw3 T1
              have zS1 := lt_of_heap S1.out
              have zT1 := lt_of_heap T1.out
              go_simp
              go_wp2_with fail
              refine (H7.out _ (by first | exact rd2_keep hM (B21.out) | exact rd2_keep hM ((B21.out).alloc (B21.out.size) _) | exact rd2_keep hM (((B21.out).alloc (B21.out.size) _).alloc (by have := B21.out.size; simp <;> omega) _) | exact rd2_keep hM ((((B21.out).alloc (B21.out.size) _).alloc (by have := B21.out.size; simp <;> omega) _).alloc (by have := B21.out.size; simp <;> omega) _))).mono ?_
              rintro e V22 ⟨rfl, hb22⟩
              clear S1_0 S1_1 S1_2 S1_3 S1_4 S1_f0 S1_f1 S1_f2 S1_f3 S1_f4 zS1 T1_0 T1_1 T1_2 zT1
              have B22 : Hid (Below w9.heap.size w9 V22) := nbx B21 hb22
              replace S1 := rcx hb22 S1
              replace T1 := rcx hb22 T1
              clear hb22
              obtain ⟨S1_0, S1_1, S1_2, S1_3, S1_4⟩ := qw5 S1
              have S1_f0 : V22.frozen? ⟨w.heap.size, 0, none⟩ = false := by simp [World.frozen?, S1.out]
              have S1_f1 : V22.frozen? ⟨w.heap.size, 1, none⟩ = false := by simp [World.frozen?, S1.out]
              have S1_f2 : V22.frozen? ⟨w.heap.size, 2, none⟩ = false := by simp [World.frozen?, S1.out]
              have S1_f3 : V22.frozen? ⟨w.heap.size, 3, none⟩ = false := by simp [World.frozen?, S1.out]
              have S1_f4 : V22.frozen? ⟨w.heap.size, 4, none⟩ = false := by simp [World.frozen?, S1.out]
              obtain ⟨T1_0, T1_1, T1_2⟩ := qw3 T1
              have zS1 := lt_of_heap S1.out
              have zT1 := lt_of_heap T1.out
              go_simp
              go_wp2
              go_ret
              exact ⟨rfl, HB.out.trans (B22.out.mono HB.out.size)⟩
          · have n1 : decide ((16 : Int) ≤ (ls.length : Int)) = true := decide_eq_true (by omega)
            replace h0 := Lib.hid h0
            replace h16 := Lib.hid h16
            
            go_wp2_with fail
            refine (H7.out _ (by first | exact rd2_keep hM (B20.out) | exact rd2_keep hM ((B20.out).alloc (B20.out.size) _) | exact rd2_keep hM (((B20.out).alloc (B20.out.size) _).alloc (by have := B20.out.size; simp <;> omega) _) | exact rd2_keep hM ((((B20.out).alloc (B20.out.size) _).alloc (by have := B20.out.size; simp <;> omega) _).alloc (by have := B20.out.size; simp <;> omega) _))).mono ?_
            rintro e V21 ⟨rfl, hb21⟩
            clear S1_f0 S1_f1 S1_f2 S1_f3 S1_f4 S1_0 S1_1 S1_2 S1_3 S1_4 zS1 T1_0 T1_1 T1_2 zT1
            have B21 : Hid (Below w9.heap.size w9 V21) := nbx B20 hb21
            replace S1 := rcx hb21 S1
            replace T1 := rcx hb21 T1
            clear hb21
            obtain ⟨S1_0, S1_1, S1_2, S1_3, S1_4⟩ := qw5 S1
            have S1_f0 : V21.frozen? ⟨w.heap.size, 0, none⟩ = false := by simp [World.frozen?, S1.out]
            have S1_f1 : V21.frozen? ⟨w.heap.size, 1, none⟩ = false := by simp [World.frozen?, S1.out]
            have S1_f2 : V21.frozen? ⟨w.heap.size, 2, none⟩ = false := by simp [World.frozen?, S1.out]
            have S1_f3 : V21.frozen? ⟨w.heap.size, 3, none⟩ = false := by simp [World.frozen?, S1.out]
            have S1_f4 : V21.frozen? ⟨w.heap.size, 4, none⟩ = false := by simp [World.frozen?, S1.out]
            obtain ⟨T1_0, T1_1, T1_2⟩ := qw3 T1
            have zS1 := lt_of_heap S1.out
            have zT1 := lt_of_heap T1.out
            go_simp
            go_wp2
            go_ret
            exact ⟨rfl, HB.out.trans (B21.out.mono HB.out.size)⟩
        · have n0 : ((L.length : Int) == 0) = true := by rw [beq_iff_eq]; omega
          replace h0 := Lib.hid h0
          
          go_wp2_with fail
          refine (H7.out _ (by first | exact rd2_keep hM (B20.out) | exact rd2_keep hM ((B20.out).alloc (B20.out.size) _) | exact rd2_keep hM (((B20.out).alloc (B20.out.size) _).alloc (by have := B20.out.size; simp <;> omega) _) | exact rd2_keep hM ((((B20.out).alloc (B20.out.size) _).alloc (by have := B20.out.size; simp <;> omega) _).alloc (by have := B20.out.size; simp <;> omega) _))).mono ?_
          rintro e V21 ⟨rfl, hb21⟩
          clear S1_f0 S1_f1 S1_f2 S1_f3 S1_f4 S1_0 S1_1 S1_2 S1_3 S1_4 zS1 T1_0 T1_1 T1_2 zT1
          have B21 : Hid (Below w9.heap.size w9 V21) := nbx B20 hb21
          replace S1 := rcx hb21 S1
          replace T1 := rcx hb21 T1
          clear hb21
          obtain ⟨S1_0, S1_1, S1_2, S1_3, S1_4⟩ := qw5 S1
          have S1_f0 : V21.frozen? ⟨w.heap.size, 0, none⟩ = false := by simp [World.frozen?, S1.out]
          have S1_f1 : V21.frozen? ⟨w.heap.size, 1, none⟩ = false := by simp [World.frozen?, S1.out]
          have S1_f2 : V21.frozen? ⟨w.heap.size, 2, none⟩ = false := by simp [World.frozen?, S1.out]
          have S1_f3 : V21.frozen? ⟨w.heap.size, 3, none⟩ = false := by simp [World.frozen?, S1.out]
          have S1_f4 : V21.frozen? ⟨w.heap.size, 4, none⟩ = false := by simp [World.frozen?, S1.out]
          obtain ⟨T1_0, T1_1, T1_2⟩ := qw3 T1
          have zS1 := lt_of_heap S1.out
          have zT1 := lt_of_heap T1.out
          go_simp
          go_wp2
          go_ret
          exact ⟨rfl, HB.out.trans (B21.out.mono HB.out.size)⟩
  · have fE : (evE ⟨nam, off, dst, abb, ls⟩ y y != 0) = true := bne_iff_ne.2 hE
    replace hE := Lib.hid hE
    clear hev hP
    generalize evE ⟨nam, off, dst, abb, ls⟩ y y = EE at *
    
    go_simp
    go_wp2_with fail
    refine (H7.out _ (by first | exact rd2_keep hM (Below.refl w9.heap.size w9) | exact rd2_keep hM ((Below.refl w9.heap.size w9).alloc (Nat.le_refl _) _) | exact rd2_keep hM (((Below.refl w9.heap.size w9).alloc (Nat.le_refl _) _).alloc (by simp <;> omega) _) | exact rd2_keep hM ((((Below.refl w9.heap.size w9).alloc (Nat.le_refl _) _).alloc (by simp <;> omega) _).alloc (by simp <;> omega) _))).mono ?_
    rintro e V1 ⟨rfl, hb1⟩
    clear A9_0 A9_1 A9_2 A9_3 A9_4 zA9 T9_0 T9_1 T9_2 zT9
    have B1 : Hid (Below w9.heap.size w9 V1) := by first | exact Lib.hid ((Below.refl w9.heap.size w9).trans (hb1.mono (by first | assumption | (simp <;> omega) | (simp; done)))) | exact Lib.hid (((Below.refl w9.heap.size w9).alloc (Nat.le_refl _) _).trans (hb1.mono (by first | assumption | (simp <;> omega) | (simp; done)))) | exact Lib.hid ((((Below.refl w9.heap.size w9).alloc (Nat.le_refl _) _).alloc (by simp <;> omega) _).trans (hb1.mono (by first | assumption | (simp <;> omega) | (simp; done)))) | exact Lib.hid (((((Below.refl w9.heap.size w9).alloc (Nat.le_refl _) _).alloc (by simp <;> omega) _).alloc (by simp <;> omega) _).trans (hb1.mono (by first | assumption | (simp <;> omega) | (simp; done))))
    replace A9 := rcx hb1 A9
    replace T9 := rcx hb1 T9
    clear hb1
    obtain ⟨A9_0, A9_1, A9_2, A9_3, A9_4⟩ := qw5 A9
    obtain ⟨T9_0, T9_1, T9_2⟩ := qw3 T9
    have zA9 := lt_of_heap A9.out
    have zT9 := lt_of_heap T9.out
    go_simp
    go_wp2
    go_ret
    exact ⟨rfl, HB.out.trans (B1.out.mono HB.out.size)⟩
set_option maxHeartbeats 3200000 in
set_option maxRecDepth 100000 in
theorem expandOrder_walk (z : Src) (A : Option Addr) (c : Nat) (y : Int) (tof : Int) (td : Bool) (tb : List UInt8) (htb : tb.length ≤ 9223372036854775807) (w : World) (hR : Rd w A (linVs z.lns)) (hS : SB z) (hK : KX w) : Calls Tryz.prog 6 #[srcV z A c, .int .i64 y, .agg #[.int .i64 tof, .bool td, .string (bs tb)]] w fun e w' => e = .returned (.bool true) ∧ Below w.heap.size w w' := by
  by_cases h : z.lns.length ≤ 100 ∧ -9999 ≤ y ∧ y ≤ 9999
  · obtain ⟨YF, hYF⟩ := yf_ex
    exact order_main hYF z A c y tof td tb htb h.2.1 h.2.2 h.1 w hR hS hK
  · have hM := Lib.hid (And.intro hK (And.intro hR hR))
    have H7 := Lib.hid (fun w (h : KX w ∧ Rd w A (linVs z.lns) ∧ Rd w A (linVs z.lns)) => awake17_any w h.1)
    have X0 := rFew17_any z A c hS.lns
    have key : decide (z.lns.length ≤ 100) = false ∨ (decide (z.lns.length ≤ 100) = true ∧ decide (y < -9999) = true) ∨ (decide (z.lns.length ≤ 100) = true ∧ decide (y < -9999) = false ∧ decide (9999 < y) = true) := by
      simp only [decide_eq_true_eq, decide_eq_false_iff_not]
      omega
    clear hR hK hS h
    rcases key with k0 | ⟨k0, k1⟩ | ⟨k0, k1, k2⟩
    all_goals
      rw [k0] at X0
      have H0 := Lib.hid X0
      clear X0 k0
      obtain ⟨nam, off, dst, abb, ls⟩ := z
      unfold srcV at *
      simp only at *
      go_enter Tryz.func6, Tryz.ntmps6
      go_wp2_with fail
      
      refine (H0.out _).mono ?_
      rintro e V1 ⟨rfl, hb1⟩
      have B1 := Lib.hid ((((Below.refl w.heap.size w).alloc (Nat.le_refl _) _).alloc (by simp <;> omega) _).trans (hb1.mono (by first | assumption | (simp <;> omega) | (simp; done))))
      have S1 := Lib.hid (row_call hb1 (row_alloc (heap_alloc_new _ _) _))
      have T1 := Lib.hid (row_at (k' := w.heap.size + 1) (by simp) (row_call hb1 (heap_alloc_new _ _)))
      clear hb1
      obtain ⟨S1_0, S1_1, S1_2, S1_3, S1_4⟩ := qw5 S1
      obtain ⟨T1_0, T1_1, T1_2⟩ := qw3 T1
      have zS1 := lt_of_heap S1.out
      have zT1 := lt_of_heap T1.out
      go_simp
      go_wp2_with fail
      refine (H7.out _ (by first | exact rd2_keep hM (B1.out) | exact rd2_keep hM ((B1.out).alloc (B1.out.size) _) | exact rd2_keep hM (((B1.out).alloc (B1.out.size) _).alloc (by have := B1.out.size; simp <;> omega) _) | exact rd2_keep hM ((((B1.out).alloc (B1.out.size) _).alloc (by have := B1.out.size; simp <;> omega) _).alloc (by have := B1.out.size; simp <;> omega) _))).mono ?_
      rintro e V2 ⟨rfl, hb2⟩
      clear S1_0 S1_1 S1_2 S1_3 S1_4 zS1 T1_0 T1_1 T1_2 zT1
      have B2 : Hid (Below w.heap.size w V2) := nbx B1 hb2
      replace S1 := rcx hb2 S1
      replace T1 := rcx hb2 T1
      clear hb2
      obtain ⟨S1_0, S1_1, S1_2, S1_3, S1_4⟩ := qw5 S1
      obtain ⟨T1_0, T1_1, T1_2⟩ := qw3 T1
      have zS1 := lt_of_heap S1.out
      have zT1 := lt_of_heap T1.out
      go_simp
      go_wp2
      go_ret
      exact ⟨rfl, by first | exact B2.out | exact B2.out.alloc B2.out.size _⟩
end Go.Proofs.YtacpcjdiljnlaaaGreatDoor
