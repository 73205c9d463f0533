/- The plain answers of layer 7: walks. -/
import Derived.Test.YtoghogpcgdcboaaDoorWkA
import Derived.Test.YtoghogpcgdcboaaDoorRowS
namespace Go.Proofs.YtoghogpcgdcboaaDoor
set_option linter.unusedVariables false
set_option linter.unusedSimpArgs false
open Go.ChangeShapes Go.WideShapes Go.ChangeAt Go.RowKit

theorem like_parts (y : Int) : (y.tmod 400 < 0 → likeI y = 2000 + (y.tmod 400 + 400)) ∧ (¬ y.tmod 400 < 0 → likeI y = 2000 + y.tmod 400) ∧ -400 < y.tmod 400 ∧ y.tmod 400 < 400 := by
  have h := Int.tmod_add_mul_tdiv y 400
  have h1 := Int.lt_tmod_of_pos y (show (0 : Int) < 400 by decide)
  have h2 := Int.tmod_lt_of_pos y (show (0 : Int) < 400 by decide)
  generalize y.tmod 400 = r at *
  generalize y.tdiv 400 = q at *
  unfold likeI
  exact ⟨fun _ => by omega, fun _ => by omega, by omega, h2⟩
set_option maxHeartbeats 1600000 in
theorem rLike_p (y : Int) (w : World) : Calls Tryd.prog 23 #[.int .i64 y] w fun e w' => e = .returned (.int .i64 (likeI y)) ∧ w = w' := by
  obtain ⟨h1, h2, h3, h4⟩ := like_parts y
  generalize hr : y.tmod 400 = r at *
  by_cases hn : r < 0
  · have E := Lib.hid (h1 hn)
    clear h1 h2
    go_enter Tryd.func23, Tryd.ntmps23
    go_wp2
    go_ret
    exact ⟨by rw [E.out]; try rfl, rfl⟩
  · have E := Lib.hid (h2 hn)
    clear h1 h2
    go_enter Tryd.func23, Tryd.ntmps23
    go_wp2
    go_ret
    exact ⟨by rw [E.out]; try rfl, rfl⟩
set_option maxHeartbeats 1600000 in
set_option maxRecDepth 100000 in
theorem rOne_any (y : Int) (y1 : 1900 ≤ y) (y2 : y ≤ 2500) (w : World) : Calls Tryd.prog 25 #[.int .i64 y] w fun e w' => e = .returned (.int .i64 (oneI y)) ∧ Below w.heap.size w w' := by
  have H1 := Lib.hid (rNumber_any y 1 4 (by omega) (by omega) (by omega))
  have H2 := Lib.hid (fun w => grow_of (rWeekday_p (dnI y 1 4) w))
  have E := Lib.hid (one_eq y).symm
  have b1 := dn_bd (y := y) (m := 1) (d := 4) (by omega) (by omega) (by omega)
  obtain ⟨b2, b3⟩ := b1
  have b4 : 1 ≤ wdI (dnI y 1 4) := by unfold wdI; omega
  have b5 : wdI (dnI y 1 4) ≤ 7 := by unfold wdI; omega
  generalize wdI (dnI y 1 4) = W at *
  generalize dnI y 1 4 = N at *
  go_enter Tryd.func25, Tryd.ntmps25
  go_wp2_with fail
  
  refine (H1.out _).mono ?_
  rintro e V1 ⟨rfl, hb1⟩
  have B1 : Hid (Below w.heap.size w V1) := by first | exact Lib.hid ((Below.refl w.heap.size w).trans (hb1.mono (by first | assumption | (simp <;> omega) | (simp; done)))) | exact Lib.hid (((Below.refl w.heap.size w).alloc (Nat.le_refl _) _).trans (hb1.mono (by first | assumption | (simp <;> omega) | (simp; done)))) | exact Lib.hid ((((Below.refl w.heap.size w).alloc (Nat.le_refl _) _).alloc (by simp <;> omega) _).trans (hb1.mono (by first | assumption | (simp <;> omega) | (simp; done)))) | exact Lib.hid (((((Below.refl w.heap.size w).alloc (Nat.le_refl _) _).alloc (by simp <;> omega) _).alloc (by simp <;> omega) _).trans (hb1.mono (by first | assumption | (simp <;> omega) | (simp; done))))
  clear hb1
  go_simp
  go_wp2_with fail
  refine (H2.out _).mono ?_
  rintro e V2 ⟨rfl, hb2⟩
  have B2 : Hid (Below w.heap.size w V2) := by first | exact Lib.hid ((B1.out).trans (hb2.mono (by have := B1.out.size; first | assumption | (simp <;> omega) | (simp; done)))) | exact Lib.hid (((B1.out).alloc (B1.out.size) _).trans (hb2.mono (by have := B1.out.size; first | assumption | (simp <;> omega) | (simp; done)))) | exact Lib.hid ((((B1.out).alloc (B1.out.size) _).alloc (by have := B1.out.size; simp <;> omega) _).trans (hb2.mono (by have := B1.out.size; first | assumption | (simp <;> omega) | (simp; done)))) | exact Lib.hid (((((B1.out).alloc (B1.out.size) _).alloc (by have := B1.out.size; simp <;> omega) _).alloc (by have := B1.out.size; simp <;> omega) _).trans (hb2.mono (by have := B1.out.size; first | assumption | (simp <;> omega) | (simp; done))))
  clear hb2
  go_simp
  go_wp2
  go_ret
  exact ⟨by rw [E.out]; try rfl, B2.out⟩
theorem one_bd (y : Int) (h : 1900 ≤ y ∧ y ≤ 2500) : -1000000 ≤ oneI y ∧ oneI y ≤ 1000000 := by unfold oneI yst; omega
set_option maxHeartbeats 1600000 in
set_option maxRecDepth 100000 in
theorem rWeeks_any (y : Int) (w : World) : Calls Tryd.prog 14 #[.int .i64 y] w fun e w' => e = .returned (.int .i64 (wksI y)) ∧ Below w.heap.size w w' := by
  have HL := Lib.hid (fun w => grow_of (rLike_p y w))
  obtain ⟨k, hk, _⟩ := like_eq y
  have l1 := (like_bd y).1
  have l2 := (like_bd y).2
  have e0 : wksI y = wksI (likeI y) := by rw [show wksI y = wksI (likeI y + 400 * k) by rw [← hk], wks_cycle]
  have E : Hid (wksI y = (oneI (likeI y + 1) - oneI (likeI y)) / 7) := Lib.hid (by rw [e0]; unfold wksI; rfl)
  have H1 := Lib.hid (rOne_any (likeI y) (by omega) (by omega))
  have H2 := Lib.hid (rOne_any (likeI y + 1) (by omega) (by omega))
  have n1 := (one_next (likeI y)).1
  have n2 := (one_next (likeI y)).2
  have b1 := one_bd (likeI y) (by omega)
  obtain ⟨b2, b3⟩ := b1
  have b4 : 0 ≤ oneI (likeI y + 1) - oneI (likeI y) := by omega
  have b5 : oneI (likeI y + 1) - oneI (likeI y) ≤ 400 := by omega
  clear hk n1 n2 e0
  generalize oneI (likeI y + 1) = B at *
  generalize oneI (likeI y) = A at *
  generalize likeI y = L at *
  go_enter Tryd.func14, Tryd.ntmps14
  go_wp2_with fail
  
  refine (HL.out _).mono ?_
  rintro e V1 ⟨rfl, hb1⟩
  have B1 : Hid (Below w.heap.size w V1) := by first | exact Lib.hid ((Below.refl w.heap.size w).trans (hb1.mono (by first | assumption | (simp <;> omega) | (simp; done)))) | exact Lib.hid (((Below.refl w.heap.size w).alloc (Nat.le_refl _) _).trans (hb1.mono (by first | assumption | (simp <;> omega) | (simp; done)))) | exact Lib.hid ((((Below.refl w.heap.size w).alloc (Nat.le_refl _) _).alloc (by simp <;> omega) _).trans (hb1.mono (by first | assumption | (simp <;> omega) | (simp; done)))) | exact Lib.hid (((((Below.refl w.heap.size w).alloc (Nat.le_refl _) _).alloc (by simp <;> omega) _).alloc (by simp <;> omega) _).trans (hb1.mono (by first | assumption | (simp <;> omega) | (simp; done))))
  clear hb1
  go_simp
  go_wp2_with fail
  refine (H2.out _).mono ?_
  rintro e V2 ⟨rfl, hb2⟩
  have B2 : Hid (Below w.heap.size w V2) := by first | exact Lib.hid ((B1.out).trans (hb2.mono (by have := B1.out.size; first | assumption | (simp <;> omega) | (simp; done)))) | exact Lib.hid (((B1.out).alloc (B1.out.size) _).trans (hb2.mono (by have := B1.out.size; first | assumption | (simp <;> omega) | (simp; done)))) | exact Lib.hid ((((B1.out).alloc (B1.out.size) _).alloc (by have := B1.out.size; simp <;> omega) _).trans (hb2.mono (by have := B1.out.size; first | assumption | (simp <;> omega) | (simp; done)))) | exact Lib.hid (((((B1.out).alloc (B1.out.size) _).alloc (by have := B1.out.size; simp <;> omega) _).alloc (by have := B1.out.size; simp <;> omega) _).trans (hb2.mono (by have := B1.out.size; first | assumption | (simp <;> omega) | (simp; done))))
  clear hb2
  go_simp
  go_wp2_with fail
  refine (HL.out _).mono ?_
  rintro e V3 ⟨rfl, hb3⟩
  have B3 : Hid (Below w.heap.size w V3) := by first | exact Lib.hid ((B2.out).trans (hb3.mono (by have := B2.out.size; first | assumption | (simp <;> omega) | (simp; done)))) | exact Lib.hid (((B2.out).alloc (B2.out.size) _).trans (hb3.mono (by have := B2.out.size; first | assumption | (simp <;> omega) | (simp; done)))) | exact Lib.hid ((((B2.out).alloc (B2.out.size) _).alloc (by have := B2.out.size; simp <;> omega) _).trans (hb3.mono (by have := B2.out.size; first | assumption | (simp <;> omega) | (simp; done)))) | exact Lib.hid (((((B2.out).alloc (B2.out.size) _).alloc (by have := B2.out.size; simp <;> omega) _).alloc (by have := B2.out.size; simp <;> omega) _).trans (hb3.mono (by have := B2.out.size; first | assumption | (simp <;> omega) | (simp; done))))
  clear hb3
  go_simp
  go_wp2_with fail
  refine (H1.out _).mono ?_
  rintro e V4 ⟨rfl, hb4⟩
  have B4 : Hid (Below w.heap.size w V4) := by first | exact Lib.hid ((B3.out).trans (hb4.mono (by have := B3.out.size; first | assumption | (simp <;> omega) | (simp; done)))) | exact Lib.hid (((B3.out).alloc (B3.out.size) _).trans (hb4.mono (by have := B3.out.size; first | assumption | (simp <;> omega) | (simp; done)))) | exact Lib.hid ((((B3.out).alloc (B3.out.size) _).alloc (by have := B3.out.size; simp <;> omega) _).trans (hb4.mono (by have := B3.out.size; first | assumption | (simp <;> omega) | (simp; done)))) | exact Lib.hid (((((B3.out).alloc (B3.out.size) _).alloc (by have := B3.out.size; simp <;> omega) _).alloc (by have := B3.out.size; simp <;> omega) _).trans (hb4.mono (by have := B3.out.size; first | assumption | (simp <;> omega) | (simp; done))))
  clear hb4
  go_simp
  go_wp2
  go_ret
  exact ⟨by rw [E.out]; try rfl, B4.out⟩
set_option maxHeartbeats 3200000 in
set_option maxRecDepth 100000 in
theorem rWOf_no (y m d : Int) (hc : ckC y m d ≠ 0) (w : World) : Calls Tryd.prog 9 #[.agg #[.int .i64 y, .int .i64 m, .int .i64 d]] w fun e w' => e = .returned (.tuple #[.int .i64 0, .int .i64 0, .int .i64 0, .int .i64 (ckC y m d)]) ∧ Below w.heap.size w w' := by
  have H1 := Lib.hid (rCkC_any y m d)
  generalize ckC y m d = E at *
  have f1 : (E != 0) = true := by rw [bne_iff_ne]; exact hc
  go_enter Tryd.func9, Tryd.ntmps9
  refine wp_shut ?_
  go_wp2_with fail
  
  refine (H1.out _).mono ?_
  rintro e V1 ⟨rfl, hb1⟩
  have B1 := Lib.hid (((Below.refl w.heap.size w).alloc (Nat.le_refl _) _).trans (hb1.mono (by first | assumption | (simp <;> omega) | (simp; done))))
  have A1 := Lib.hid (row_call hb1 (heap_alloc_new _ _))
  clear hb1
  have A1_0 : V1.cell? ⟨w.heap.size, 0, none⟩ = some (.int .i64 y) := cell_of_row _ _ _ _ _ _ A1.out
  have A1_1 : V1.cell? ⟨w.heap.size, 1, none⟩ = some (.int .i64 m) := cell_of_row _ _ _ _ _ _ A1.out
  have A1_2 : V1.cell? ⟨w.heap.size, 2, none⟩ = some (.int .i64 d) := cell_of_row _ _ _ _ _ _ A1.out
  have zA1 := lt_of_heap A1.out
  go_simp
  go_wp2
  refine shut_ret (v := .tuple #[.int .i64 0, .int .i64 0, .int .i64 0, .int .i64 E]) (by simp [results, Tryd.results9, go_sem]) rfl ⟨rfl, ?_⟩
  exact B1.out
theorem may_cycle (y k m d : Int) : mayB (y + 400 * k) m d = mayB y m d := by unfold mayB; rw [md_cycle]
/-- a date's week, from the year that is like its own. -/
theorem of_like {y m d L k : Int} (h : y = L + 400 * k) : woY y (dnI y m d) = y + woY L (dnI L m d) - L ∧ woW y (dnI y m d) = woW L (dnI L m d) ∧ wdI (dnI y m d) = wdI (dnI L m d) := by
  subst h
  rw [dn_cycle, woY_cycle, woW_cycle, wd_cycle]
  exact ⟨by omega, rfl, rfl⟩
set_option maxHeartbeats 6400000 in
set_option maxRecDepth 100000 in
theorem rWOf_any (y m d : Int) (hc : ckC y m d = 0) (w : World) : Calls Tryd.prog 9 #[.agg #[.int .i64 y, .int .i64 m, .int .i64 d]] w fun e w' => e = .returned (.tuple #[.int .i64 (woY y (dnI y m d)), .int .i64 (woW y (dnI y m d)), .int .i64 (wdI (dnI y m d)), .int .i64 0]) ∧ Below w.heap.size w w' := by
  have X1 := rCkC_any y m d
  obtain ⟨hm, y1, y2⟩ := of_ckC hc
  obtain ⟨p1, p2, p3, p4, p5⟩ := mayB_yes hm
  rw [hc] at X1
  have H1 := Lib.hid X1
  have HL := Lib.hid (fun w => grow_of (rLike_p y w))
  obtain ⟨k, hk, _⟩ := like_eq y
  have l1 := (like_bd y).1
  have l2 := (like_bd y).2
  obtain ⟨e1, e2, e3⟩ := of_like (m := m) (d := d) hk
  rw [e1, e2, e3]
  have hmL : mayB (likeI y) m d = true := by
    rw [← hm]
    have e := may_cycle (likeI y) k m d
    rw [← hk] at e
    exact e.symm
  clear e1 e2 e3 hk hc X1
  generalize likeI y = L at *
  have HN := Lib.hid (rNumber_any L m d (by omega) ⟨p3, p4⟩ ⟨p1, p5⟩)
  have HW := Lib.hid (fun w => grow_of (rWeekday_p (dnI L m d) w))
  have O1 := Lib.hid (rOne_any (L + 1) (by omega) (by omega))
  have O2 := Lib.hid (rOne_any L (by omega) (by omega))
  have O3 := Lib.hid (rOne_any (L - 1) (by omega) (by omega))
  obtain ⟨c1, c2⟩ := one_bd (L + 1) (by omega)
  obtain ⟨c3, c4⟩ := one_bd L (by omega)
  obtain ⟨c5, c6⟩ := one_bd (L - 1) (by omega)
  obtain ⟨c7, c8⟩ := dn_bd (y := L) (m := m) (d := d) (by omega) ⟨p3, p4⟩ ⟨p1, p5⟩
  obtain ⟨i1, i2, i3⟩ := dn_in hmL
  have i4 := yst_succ L
  have i5 := (wo_in (y := L) (n := dnI L m d) (by omega) (by omega)).1
  have wy : Hid (woW L (dnI L m d) = (dnI L m d - oneI (woY L (dnI L m d))) / 7 + 1) := Lib.hid (by unfold woW; rfl)
  have z1 := woY_up (y := L) (n := dnI L m d)
  have z2 := woY_mid (y := L) (n := dnI L m d)
  have z3 := woY_low (y := L) (n := dnI L m d)
  clear i1 i2 i3 i4 hmL hm p1 p2 p3 p4 p5
  generalize wdI (dnI L m d) = K at *
  generalize woW L (dnI L m d) = WW at *
  by_cases k1 : oneI (L + 1) ≤ dnI L m d
  · have E1 := Lib.hid (z1 k1)
    rw [E1.out] at wy i5
    have E2 := wy
    clear z1 z2 z3 wy O2 O3 i5 c3 c4 c5 c6
    generalize woY L (dnI L m d) = YY at *
    generalize hA1 : oneI (L + 1) = a1 at *
    generalize hN0 : dnI L m d = N at *
    clear hA1 hN0
    have g1 : 0 ≤ N - a1 := by omega
    have g2 : IntKind.i64.wrap (N - a1) = N - a1 := by rw [IntKind.wrap_i64]; omega
    have g3 : (N - a1).tdiv 7 = (N - a1) / 7 := Int.tdiv_eq_ediv_of_nonneg g1
    have g5 : IntKind.i64.wrap ((N - a1) / 7) = (N - a1) / 7 := by rw [IntKind.wrap_i64]; omega
    have g6 : IntKind.i64.wrap (y + (L + 1)) = y + (L + 1) := by rw [IntKind.wrap_i64]; omega
    have g7 : IntKind.i64.wrap (y + (L + 1) - L) = y + (L + 1) - L := by rw [IntKind.wrap_i64]; omega
    have g4 : IntKind.i64.wrap ((N - a1) / 7 + 1) = (N - a1) / 7 + 1 := by rw [IntKind.wrap_i64]; omega
    go_enter Tryd.func9, Tryd.ntmps9
    refine wp_shut ?_
    go_wp2_with fail
    
    refine (H1.out _).mono ?_
    rintro e V1 ⟨rfl, hb1⟩
    have B1 := Lib.hid (((Below.refl w.heap.size w).alloc (Nat.le_refl _) _).trans (hb1.mono (by first | assumption | (simp <;> omega) | (simp; done))))
    have A1 := Lib.hid (row_call hb1 (heap_alloc_new _ _))
    clear hb1
    have A1_0 : V1.cell? ⟨w.heap.size, 0, none⟩ = some (.int .i64 y) := cell_of_row _ _ _ _ _ _ A1.out
    have A1_1 : V1.cell? ⟨w.heap.size, 1, none⟩ = some (.int .i64 m) := cell_of_row _ _ _ _ _ _ A1.out
    have A1_2 : V1.cell? ⟨w.heap.size, 2, none⟩ = some (.int .i64 d) := cell_of_row _ _ _ _ _ _ A1.out
    have zA1 := lt_of_heap A1.out
    go_simp
    go_wp2_with fail
    refine (HL.out _).mono ?_
    rintro e V2 ⟨rfl, hb2⟩
    clear A1_0 A1_1 A1_2 zA1
    have nA1X1 := Lib.hid (lt_of_heap A1.out)
    have B2 := Lib.hid (((B1.out).alloc (B1.out.size) _).trans (hb2.mono (by have := B1.out.size; first | assumption | (simp <;> omega) | (simp; done))))
    replace A1 := Lib.hid (row_call hb2 (row_alloc A1.out _))
    have X1 := Lib.hid (row_call hb2 (heap_alloc_new _ _))
    clear hb2
    have A1_0 : V2.cell? ⟨w.heap.size, 0, none⟩ = some (.int .i64 y) := cell_of_row _ _ _ _ _ _ A1.out
    have A1_1 : V2.cell? ⟨w.heap.size, 1, none⟩ = some (.int .i64 m) := cell_of_row _ _ _ _ _ _ A1.out
    have A1_2 : V2.cell? ⟨w.heap.size, 2, none⟩ = some (.int .i64 d) := cell_of_row _ _ _ _ _ _ A1.out
    have X1_0 : V2.cell? ⟨V1.heap.size, 0, none⟩ = some (.int .i64 y) := cell_of_row _ _ _ _ _ _ X1.out
    have X1_1 : V2.cell? ⟨V1.heap.size, 1, none⟩ = some (.int .i64 m) := cell_of_row _ _ _ _ _ _ X1.out
    have X1_2 : V2.cell? ⟨V1.heap.size, 2, none⟩ = some (.int .i64 d) := cell_of_row _ _ _ _ _ _ X1.out
    have X1_f0 : V2.frozen? ⟨V1.heap.size, 0, none⟩ = false := by simp [World.frozen?, X1.out]
    have X1_f1 : V2.frozen? ⟨V1.heap.size, 1, none⟩ = false := by simp [World.frozen?, X1.out]
    have X1_f2 : V2.frozen? ⟨V1.heap.size, 2, none⟩ = false := by simp [World.frozen?, X1.out]
    have zA1 := lt_of_heap A1.out
    have zX1 := lt_of_heap X1.out
    go_simp
    go_wp2_with fail
    refine (HN.out _).mono ?_
    rintro e V3 ⟨rfl, hb3⟩
    clear A1_0 A1_1 A1_2 zA1 X1_0 X1_1 X1_2 X1_f0 X1_f1 X1_f2 zX1
    have B3 : Hid (Below w.heap.size w V3) := by first | exact Lib.hid ((keep1 (B2.out) (by have := B1.out.size; omega) 0 _).trans (hb3.mono (by have := B2.out.size; first | assumption | (simp <;> omega) | (simp; done)))) | exact Lib.hid (((keep1 (B2.out) (by have := B1.out.size; omega) 0 _).alloc (by have := B2.out.size; simp <;> omega) _).trans (hb3.mono (by have := B2.out.size; first | assumption | (simp <;> omega) | (simp; done)))) | exact Lib.hid ((((keep1 (B2.out) (by have := B1.out.size; omega) 0 _).alloc (by have := B2.out.size; simp <;> omega) _).alloc (by have := B2.out.size; simp <;> omega) _).trans (hb3.mono (by have := B2.out.size; first | assumption | (simp <;> omega) | (simp; done)))) | exact Lib.hid (((((keep1 (B2.out) (by have := B1.out.size; omega) 0 _).alloc (by have := B2.out.size; simp <;> omega) _).alloc (by have := B2.out.size; simp <;> omega) _).alloc (by have := B2.out.size; simp <;> omega) _).trans (hb3.mono (by have := B2.out.size; first | assumption | (simp <;> omega) | (simp; done))))
    first | replace A1 := Lib.hid (row_call hb3 (row_other1 (by have := nA1X1.out; omega) A1.out 0 _)) | replace A1 := Lib.hid (row_call hb3 (row_alloc (row_other1 (by have := nA1X1.out; omega) A1.out 0 _) _)) | replace A1 := Lib.hid (row_call hb3 (row_alloc (row_alloc (row_other1 (by have := nA1X1.out; omega) A1.out 0 _) _) _)) | replace A1 := Lib.hid (row_call hb3 (row_alloc (row_alloc (row_alloc (row_other1 (by have := nA1X1.out; omega) A1.out 0 _) _) _) _))
    first | replace X1 : Hid (V3.heap[V1.heap.size]? = some (.cells #[.int .i64 L, .int .i64 m, .int .i64 d] _ (0, 0))) := Lib.hid (row_call hb3 (row_set1 X1.out 0 _)) | replace X1 : Hid (V3.heap[V1.heap.size]? = some (.cells #[.int .i64 L, .int .i64 m, .int .i64 d] _ (0, 0))) := Lib.hid (row_call hb3 (row_alloc (row_set1 X1.out 0 _) _)) | replace X1 : Hid (V3.heap[V1.heap.size]? = some (.cells #[.int .i64 L, .int .i64 m, .int .i64 d] _ (0, 0))) := Lib.hid (row_call hb3 (row_alloc (row_alloc (row_set1 X1.out 0 _) _) _)) | replace X1 : Hid (V3.heap[V1.heap.size]? = some (.cells #[.int .i64 L, .int .i64 m, .int .i64 d] _ (0, 0))) := Lib.hid (row_call hb3 (row_alloc (row_alloc (row_alloc (row_set1 X1.out 0 _) _) _) _))
    clear hb3
    have A1_0 : V3.cell? ⟨w.heap.size, 0, none⟩ = some (.int .i64 y) := cell_of_row _ _ _ _ _ _ A1.out
    have A1_1 : V3.cell? ⟨w.heap.size, 1, none⟩ = some (.int .i64 m) := cell_of_row _ _ _ _ _ _ A1.out
    have A1_2 : V3.cell? ⟨w.heap.size, 2, none⟩ = some (.int .i64 d) := cell_of_row _ _ _ _ _ _ A1.out
    have X1_0 : V3.cell? ⟨V1.heap.size, 0, none⟩ = some (.int .i64 L) := cell_of_row _ _ _ _ _ _ X1.out
    have X1_1 : V3.cell? ⟨V1.heap.size, 1, none⟩ = some (.int .i64 m) := cell_of_row _ _ _ _ _ _ X1.out
    have X1_2 : V3.cell? ⟨V1.heap.size, 2, none⟩ = some (.int .i64 d) := cell_of_row _ _ _ _ _ _ X1.out
    have X1_f0 : V3.frozen? ⟨V1.heap.size, 0, none⟩ = false := by simp [World.frozen?, X1.out]
    have X1_f1 : V3.frozen? ⟨V1.heap.size, 1, none⟩ = false := by simp [World.frozen?, X1.out]
    have X1_f2 : V3.frozen? ⟨V1.heap.size, 2, none⟩ = false := by simp [World.frozen?, X1.out]
    have zA1 := lt_of_heap A1.out
    have zX1 := lt_of_heap X1.out
    go_simp
    go_wp2_with fail
    refine wp_loop_rounds 3 ?_
    rw [rounds_succ]
    go_wp2_with fail
    refine (O1.out _).mono ?_
    rintro e V4 ⟨rfl, hb4⟩
    clear A1_0 A1_1 A1_2 zA1 X1_0 X1_1 X1_2 X1_f0 X1_f1 X1_f2 zX1
    have B4 : Hid (Below w.heap.size w V4) := by first | exact Lib.hid ((B3.out).trans (hb4.mono (by have := B3.out.size; first | assumption | (simp <;> omega) | (simp; done)))) | exact Lib.hid (((B3.out).alloc (B3.out.size) _).trans (hb4.mono (by have := B3.out.size; first | assumption | (simp <;> omega) | (simp; done)))) | exact Lib.hid ((((B3.out).alloc (B3.out.size) _).alloc (by have := B3.out.size; simp <;> omega) _).trans (hb4.mono (by have := B3.out.size; first | assumption | (simp <;> omega) | (simp; done)))) | exact Lib.hid (((((B3.out).alloc (B3.out.size) _).alloc (by have := B3.out.size; simp <;> omega) _).alloc (by have := B3.out.size; simp <;> omega) _).trans (hb4.mono (by have := B3.out.size; first | assumption | (simp <;> omega) | (simp; done))))
    first | replace A1 := Lib.hid (row_call hb4 A1.out) | replace A1 := Lib.hid (row_call hb4 (row_alloc A1.out _)) | replace A1 := Lib.hid (row_call hb4 (row_alloc (row_alloc A1.out _) _)) | replace A1 := Lib.hid (row_call hb4 (row_alloc (row_alloc (row_alloc A1.out _) _) _))
    first | replace X1 := Lib.hid (row_call hb4 X1.out) | replace X1 := Lib.hid (row_call hb4 (row_alloc X1.out _)) | replace X1 := Lib.hid (row_call hb4 (row_alloc (row_alloc X1.out _) _)) | replace X1 := Lib.hid (row_call hb4 (row_alloc (row_alloc (row_alloc X1.out _) _) _))
    clear hb4
    have A1_0 : V4.cell? ⟨w.heap.size, 0, none⟩ = some (.int .i64 y) := cell_of_row _ _ _ _ _ _ A1.out
    have A1_1 : V4.cell? ⟨w.heap.size, 1, none⟩ = some (.int .i64 m) := cell_of_row _ _ _ _ _ _ A1.out
    have A1_2 : V4.cell? ⟨w.heap.size, 2, none⟩ = some (.int .i64 d) := cell_of_row _ _ _ _ _ _ A1.out
    have X1_0 : V4.cell? ⟨V1.heap.size, 0, none⟩ = some (.int .i64 L) := cell_of_row _ _ _ _ _ _ X1.out
    have X1_1 : V4.cell? ⟨V1.heap.size, 1, none⟩ = some (.int .i64 m) := cell_of_row _ _ _ _ _ _ X1.out
    have X1_2 : V4.cell? ⟨V1.heap.size, 2, none⟩ = some (.int .i64 d) := cell_of_row _ _ _ _ _ _ X1.out
    have X1_f0 : V4.frozen? ⟨V1.heap.size, 0, none⟩ = false := by simp [World.frozen?, X1.out]
    have X1_f1 : V4.frozen? ⟨V1.heap.size, 1, none⟩ = false := by simp [World.frozen?, X1.out]
    have X1_f2 : V4.frozen? ⟨V1.heap.size, 2, none⟩ = false := by simp [World.frozen?, X1.out]
    have zA1 := lt_of_heap A1.out
    have zX1 := lt_of_heap X1.out
    go_simp
    go_wp2_with fail
    clear A1_0 A1_1 A1_2 zA1 X1_0 X1_1 X1_2 X1_f0 X1_f1 X1_f2 zX1
    obtain ⟨W0, hW0⟩ : ∃ W0, W0 = V4 := ⟨_, rfl⟩
    replace A1 := Lib.hid (row_by hW0 A1.out)
    replace X1 := Lib.hid (row_by hW0 X1.out)
    have HB0 := Lib.hid (below_by hW0 (B4.out))
    have HW0 := Lib.hid hW0
    clear hW0
    have A1_0 : W0.cell? ⟨w.heap.size, 0, none⟩ = some (.int .i64 y) := cell_of_row _ _ _ _ _ _ A1.out
    have A1_1 : W0.cell? ⟨w.heap.size, 1, none⟩ = some (.int .i64 m) := cell_of_row _ _ _ _ _ _ A1.out
    have A1_2 : W0.cell? ⟨w.heap.size, 2, none⟩ = some (.int .i64 d) := cell_of_row _ _ _ _ _ _ A1.out
    have zA1 := lt_of_heap A1.out
    have X1_0 : W0.cell? ⟨V1.heap.size, 0, none⟩ = some (.int .i64 L) := cell_of_row _ _ _ _ _ _ X1.out
    have X1_1 : W0.cell? ⟨V1.heap.size, 1, none⟩ = some (.int .i64 m) := cell_of_row _ _ _ _ _ _ X1.out
    have X1_2 : W0.cell? ⟨V1.heap.size, 2, none⟩ = some (.int .i64 d) := cell_of_row _ _ _ _ _ _ X1.out
    have X1_f0 : W0.frozen? ⟨V1.heap.size, 0, none⟩ = false := (by simp [World.frozen?, X1.out])
    have X1_f1 : W0.frozen? ⟨V1.heap.size, 1, none⟩ = false := (by simp [World.frozen?, X1.out])
    have X1_f2 : W0.frozen? ⟨V1.heap.size, 2, none⟩ = false := (by simp [World.frozen?, X1.out])
    have zX1 := lt_of_heap X1.out
    try rw [← HW0.out]
    go_cut [2, 3, 4, 5] (fun s2 s3 s4 s5 wx => s2 = .int .i64 (y + (L + 1) - L) ∧ s3 = .int .i64 ((N - a1) / 7 + 1) ∧ s4 = .int .i64 K ∧ s5 = .int .i64 0 ∧ Below W0.heap.size W0 wx)
    case first =>
      go_region_held3 (fun w' => Below W0.heap.size W0 w' ∧ w'.cell? ⟨w.heap.size, 0, none⟩ = some (.int .i64 y) ∧ w'.cell? ⟨w.heap.size, 1, none⟩ = some (.int .i64 m) ∧ w'.cell? ⟨w.heap.size, 2, none⟩ = some (.int .i64 d) ∧ w'.cell? ⟨V1.heap.size, 0, none⟩ = some (.int .i64 L) ∧ w'.cell? ⟨V1.heap.size, 1, none⟩ = some (.int .i64 m) ∧ w'.cell? ⟨V1.heap.size, 2, none⟩ = some (.int .i64 d))
    (first
      | ((try go_split_ands); refine ⟨(Below.refl _ _).drew, ?_, ?_, ?_, ?_, ?_, ?_⟩ <;> first | assumption | (rw [World.cell?_drew]; assumption))
      | ((try go_split_ands); refine ⟨keepS (W0 := W0) ?_ hb1, cellS (W0 := W0) ?_ hb1 ?_ ?_, cellS (W0 := W0) ?_ hb1 ?_ ?_, cellS (W0 := W0) ?_ hb1 ?_ ?_, cellS (W0 := W0) ?_ hb1 ?_ ?_, cellS (W0 := W0) ?_ hb1 ?_ ?_, cellS (W0 := W0) ?_ hb1 ?_ ?_⟩ <;> first | assumption | omega)
      | ((try go_split_ands); refine ⟨keepA (W0 := W0) ?_ _, cellA (W0 := W0) ?_ _ ?_ ?_, cellA (W0 := W0) ?_ _ ?_ ?_, cellA (W0 := W0) ?_ _ ?_ ?_, cellA (W0 := W0) ?_ _ ?_ ?_, cellA (W0 := W0) ?_ _ ?_ ?_, cellA (W0 := W0) ?_ _ ?_ ?_⟩ <;> first | assumption | omega)
      | ((try go_split_ands); refine ⟨keepAd (W0 := W0) ?_ _, cellAd (W0 := W0) ?_ _ ?_ ?_, cellAd (W0 := W0) ?_ _ ?_ ?_, cellAd (W0 := W0) ?_ _ ?_ ?_, cellAd (W0 := W0) ?_ _ ?_ ?_, cellAd (W0 := W0) ?_ _ ?_ ?_, cellAd (W0 := W0) ?_ _ ?_ ?_⟩ <;> first | assumption | omega | exact Below.refl _ _)
      | ((try go_split_ands); (with_reducible refine ⟨keep3 (W0 := W0) ?_ ?_ _ _ _, cell3 (W0 := W0) ?_ _ _ _ ?_ ?_, cell3 (W0 := W0) ?_ _ _ _ ?_ ?_, cell3 (W0 := W0) ?_ _ _ _ ?_ ?_, cell3 (W0 := W0) ?_ _ _ _ ?_ ?_, cell3 (W0 := W0) ?_ _ _ _ ?_ ?_, cell3 (W0 := W0) ?_ _ _ _ ?_ ?_⟩) <;> first | assumption | omega | exact Nat.le_refl _)
      | ((try go_split_ands); refine ⟨keep2 (W0 := W0) ?_ ?_ _ _, cell2 (W0 := W0) ?_ _ _ ?_ ?_, cell2 (W0 := W0) ?_ _ _ ?_ ?_, cell2 (W0 := W0) ?_ _ _ ?_ ?_, cell2 (W0 := W0) ?_ _ _ ?_ ?_, cell2 (W0 := W0) ?_ _ _ ?_ ?_, cell2 (W0 := W0) ?_ _ _ ?_ ?_⟩ <;> first | assumption | omega | exact Nat.le_refl _)
      | ((try go_split_ands); refine ⟨keepZ (W0 := W0) ?_ ?_ _, cellZ (W0 := W0) ?_ _ ?_ ?_, cellZ (W0 := W0) ?_ _ ?_ ?_, cellZ (W0 := W0) ?_ _ ?_ ?_, cellZ (W0 := W0) ?_ _ ?_ ?_, cellZ (W0 := W0) ?_ _ ?_ ?_, cellZ (W0 := W0) ?_ _ ?_ ?_⟩ <;> first | assumption | omega | exact Nat.le_refl _ | exact ⟨_, by assumption⟩))
    (first | (go_at_call 25; (with_reducible refine (O1.out _).mono ?_); rintro e w1 ⟨rfl, hb1⟩; (try go_split_ands); have hge : W0.heap.size ≤ w1.heap.size := (by first | (refine (keepS (W0 := W0) ?_ hb1).size; assumption) | exact (hb1.size : W0.heap.size ≤ w1.heap.size)); (try have hrow := row_call hb1 hrow); (try have hrow := row_new hb1); (try have hrow := row_newd hb1); have hl1 := lt_below hb1; obtain ⟨hc1, hf1⟩ := bcell hb1; (try (have hrc := row_cellA hrow; clear hc1 hf1)); (try have hrf := row_frozA hrow)) | (go_at_call 26; (with_reducible refine (HW.out _).mono ?_); rintro e w1 ⟨rfl, hb1⟩; (try go_split_ands); have hge : W0.heap.size ≤ w1.heap.size := (by first | (refine (keepS (W0 := W0) ?_ hb1).size; assumption) | exact (hb1.size : W0.heap.size ≤ w1.heap.size)); (try have hrow := row_call hb1 hrow); (try have hrow := row_new hb1); (try have hrow := row_newd hb1); have hl1 := lt_below hb1; obtain ⟨hc1, hf1⟩ := bcell hb1; (try (have hrc := row_cellA hrow; clear hc1 hf1)); (try have hrf := row_frozA hrow)))
      all_goals (try go_split_ands)
      all_goals (go_wp2_with fail; go_meet; refine ⟨rfl, rfl, rfl, rfl, ?_⟩)
      all_goals first | (with_reducible assumption) | (with_reducible exact heap_alloc_new _ _) | (with_reducible exact row_set3 (by assumption) _ _ _) | assumption | exact heap_alloc_new _ _ | exact row_set (by assumption) _ _
    case rest =>
      obtain ⟨rfl, rfl, rfl, rfl, hB⟩ := hcut
      obtain ⟨V5, rfl⟩ : ∃ V, V = wc := ⟨_, rfl⟩
      clear A1_0 A1_1 A1_2 zA1 X1_0 X1_1 X1_2 X1_f0 X1_f1 X1_f2 zX1
      replace A1 := Lib.hid (row_call hB A1.out)
      replace X1 := Lib.hid (row_call hB X1.out)
      have B5 := Lib.hid (HB0.out.trans (hB.mono HB0.out.size))
      clear hB
      have A1_0 : V5.cell? ⟨w.heap.size, 0, none⟩ = some (.int .i64 y) := cell_of_row _ _ _ _ _ _ A1.out
      have A1_1 : V5.cell? ⟨w.heap.size, 1, none⟩ = some (.int .i64 m) := cell_of_row _ _ _ _ _ _ A1.out
      have A1_2 : V5.cell? ⟨w.heap.size, 2, none⟩ = some (.int .i64 d) := cell_of_row _ _ _ _ _ _ A1.out
      have zA1 := lt_of_heap A1.out
      have X1_0 : V5.cell? ⟨V1.heap.size, 0, none⟩ = some (.int .i64 L) := cell_of_row _ _ _ _ _ _ X1.out
      have X1_1 : V5.cell? ⟨V1.heap.size, 1, none⟩ = some (.int .i64 m) := cell_of_row _ _ _ _ _ _ X1.out
      have X1_2 : V5.cell? ⟨V1.heap.size, 2, none⟩ = some (.int .i64 d) := cell_of_row _ _ _ _ _ _ X1.out
      have X1_f0 : V5.frozen? ⟨V1.heap.size, 0, none⟩ = false := (by simp [World.frozen?, X1.out])
      have X1_f1 : V5.frozen? ⟨V1.heap.size, 1, none⟩ = false := (by simp [World.frozen?, X1.out])
      have X1_f2 : V5.frozen? ⟨V1.heap.size, 2, none⟩ = false := (by simp [World.frozen?, X1.out])
      have zX1 := lt_of_heap X1.out
      go_wp2
      refine shut_ret (v := .tuple #[.int .i64 (y + (L + 1) - L), .int .i64 ((N - a1) / 7 + 1), .int .i64 K, .int .i64 0]) (by simp [results, Tryd.results9, go_sem]) rfl ⟨by rw [E1.out, E2.out], ?_⟩
      exact B5.out
  · by_cases k2 : oneI L ≤ dnI L m d
    · have E1 := Lib.hid (z2 k1 k2)
      rw [E1.out] at wy i5
      have E2 := wy
      clear z1 z2 z3 wy O3 i5 c5 c6
      generalize woY L (dnI L m d) = YY at *
      generalize hA1 : oneI (L + 1) = a1 at *
      generalize hA2 : oneI L = a2 at *
      generalize hN0 : dnI L m d = N at *
      clear hA1 hA2 hN0
      have g1 : 0 ≤ N - a2 := by omega
      have g2 : IntKind.i64.wrap (N - a2) = N - a2 := by rw [IntKind.wrap_i64]; omega
      have g3 : (N - a2).tdiv 7 = (N - a2) / 7 := Int.tdiv_eq_ediv_of_nonneg g1
      have g5 : IntKind.i64.wrap ((N - a2) / 7) = (N - a2) / 7 := by rw [IntKind.wrap_i64]; omega
      have g6 : IntKind.i64.wrap (y + (L)) = y + (L) := by rw [IntKind.wrap_i64]; omega
      have g7 : IntKind.i64.wrap y = y := by rw [IntKind.wrap_i64]; omega
      have g4 : IntKind.i64.wrap ((N - a2) / 7 + 1) = (N - a2) / 7 + 1 := by rw [IntKind.wrap_i64]; omega
      go_enter Tryd.func9, Tryd.ntmps9
      refine wp_shut ?_
      go_wp2_with fail
      
      refine (H1.out _).mono ?_
      rintro e V1 ⟨rfl, hb1⟩
      have B1 := Lib.hid (((Below.refl w.heap.size w).alloc (Nat.le_refl _) _).trans (hb1.mono (by first | assumption | (simp <;> omega) | (simp; done))))
      have A1 := Lib.hid (row_call hb1 (heap_alloc_new _ _))
      clear hb1
      have A1_0 : V1.cell? ⟨w.heap.size, 0, none⟩ = some (.int .i64 y) := cell_of_row _ _ _ _ _ _ A1.out
      have A1_1 : V1.cell? ⟨w.heap.size, 1, none⟩ = some (.int .i64 m) := cell_of_row _ _ _ _ _ _ A1.out
      have A1_2 : V1.cell? ⟨w.heap.size, 2, none⟩ = some (.int .i64 d) := cell_of_row _ _ _ _ _ _ A1.out
      have zA1 := lt_of_heap A1.out
      go_simp
      go_wp2_with fail
      refine (HL.out _).mono ?_
      rintro e V2 ⟨rfl, hb2⟩
      clear A1_0 A1_1 A1_2 zA1
      have nA1X1 := Lib.hid (lt_of_heap A1.out)
      have B2 := Lib.hid (((B1.out).alloc (B1.out.size) _).trans (hb2.mono (by have := B1.out.size; first | assumption | (simp <;> omega) | (simp; done))))
      replace A1 := Lib.hid (row_call hb2 (row_alloc A1.out _))
      have X1 := Lib.hid (row_call hb2 (heap_alloc_new _ _))
      clear hb2
      have A1_0 : V2.cell? ⟨w.heap.size, 0, none⟩ = some (.int .i64 y) := cell_of_row _ _ _ _ _ _ A1.out
      have A1_1 : V2.cell? ⟨w.heap.size, 1, none⟩ = some (.int .i64 m) := cell_of_row _ _ _ _ _ _ A1.out
      have A1_2 : V2.cell? ⟨w.heap.size, 2, none⟩ = some (.int .i64 d) := cell_of_row _ _ _ _ _ _ A1.out
      have X1_0 : V2.cell? ⟨V1.heap.size, 0, none⟩ = some (.int .i64 y) := cell_of_row _ _ _ _ _ _ X1.out
      have X1_1 : V2.cell? ⟨V1.heap.size, 1, none⟩ = some (.int .i64 m) := cell_of_row _ _ _ _ _ _ X1.out
      have X1_2 : V2.cell? ⟨V1.heap.size, 2, none⟩ = some (.int .i64 d) := cell_of_row _ _ _ _ _ _ X1.out
      have X1_f0 : V2.frozen? ⟨V1.heap.size, 0, none⟩ = false := by simp [World.frozen?, X1.out]
      have X1_f1 : V2.frozen? ⟨V1.heap.size, 1, none⟩ = false := by simp [World.frozen?, X1.out]
      have X1_f2 : V2.frozen? ⟨V1.heap.size, 2, none⟩ = false := by simp [World.frozen?, X1.out]
      have zA1 := lt_of_heap A1.out
      have zX1 := lt_of_heap X1.out
      go_simp
      go_wp2_with fail
      refine (HN.out _).mono ?_
      rintro e V3 ⟨rfl, hb3⟩
      clear A1_0 A1_1 A1_2 zA1 X1_0 X1_1 X1_2 X1_f0 X1_f1 X1_f2 zX1
      have B3 : Hid (Below w.heap.size w V3) := by first | exact Lib.hid ((keep1 (B2.out) (by have := B1.out.size; omega) 0 _).trans (hb3.mono (by have := B2.out.size; first | assumption | (simp <;> omega) | (simp; done)))) | exact Lib.hid (((keep1 (B2.out) (by have := B1.out.size; omega) 0 _).alloc (by have := B2.out.size; simp <;> omega) _).trans (hb3.mono (by have := B2.out.size; first | assumption | (simp <;> omega) | (simp; done)))) | exact Lib.hid ((((keep1 (B2.out) (by have := B1.out.size; omega) 0 _).alloc (by have := B2.out.size; simp <;> omega) _).alloc (by have := B2.out.size; simp <;> omega) _).trans (hb3.mono (by have := B2.out.size; first | assumption | (simp <;> omega) | (simp; done)))) | exact Lib.hid (((((keep1 (B2.out) (by have := B1.out.size; omega) 0 _).alloc (by have := B2.out.size; simp <;> omega) _).alloc (by have := B2.out.size; simp <;> omega) _).alloc (by have := B2.out.size; simp <;> omega) _).trans (hb3.mono (by have := B2.out.size; first | assumption | (simp <;> omega) | (simp; done))))
      first | replace A1 := Lib.hid (row_call hb3 (row_other1 (by have := nA1X1.out; omega) A1.out 0 _)) | replace A1 := Lib.hid (row_call hb3 (row_alloc (row_other1 (by have := nA1X1.out; omega) A1.out 0 _) _)) | replace A1 := Lib.hid (row_call hb3 (row_alloc (row_alloc (row_other1 (by have := nA1X1.out; omega) A1.out 0 _) _) _)) | replace A1 := Lib.hid (row_call hb3 (row_alloc (row_alloc (row_alloc (row_other1 (by have := nA1X1.out; omega) A1.out 0 _) _) _) _))
      first | replace X1 : Hid (V3.heap[V1.heap.size]? = some (.cells #[.int .i64 L, .int .i64 m, .int .i64 d] _ (0, 0))) := Lib.hid (row_call hb3 (row_set1 X1.out 0 _)) | replace X1 : Hid (V3.heap[V1.heap.size]? = some (.cells #[.int .i64 L, .int .i64 m, .int .i64 d] _ (0, 0))) := Lib.hid (row_call hb3 (row_alloc (row_set1 X1.out 0 _) _)) | replace X1 : Hid (V3.heap[V1.heap.size]? = some (.cells #[.int .i64 L, .int .i64 m, .int .i64 d] _ (0, 0))) := Lib.hid (row_call hb3 (row_alloc (row_alloc (row_set1 X1.out 0 _) _) _)) | replace X1 : Hid (V3.heap[V1.heap.size]? = some (.cells #[.int .i64 L, .int .i64 m, .int .i64 d] _ (0, 0))) := Lib.hid (row_call hb3 (row_alloc (row_alloc (row_alloc (row_set1 X1.out 0 _) _) _) _))
      clear hb3
      have A1_0 : V3.cell? ⟨w.heap.size, 0, none⟩ = some (.int .i64 y) := cell_of_row _ _ _ _ _ _ A1.out
      have A1_1 : V3.cell? ⟨w.heap.size, 1, none⟩ = some (.int .i64 m) := cell_of_row _ _ _ _ _ _ A1.out
      have A1_2 : V3.cell? ⟨w.heap.size, 2, none⟩ = some (.int .i64 d) := cell_of_row _ _ _ _ _ _ A1.out
      have X1_0 : V3.cell? ⟨V1.heap.size, 0, none⟩ = some (.int .i64 L) := cell_of_row _ _ _ _ _ _ X1.out
      have X1_1 : V3.cell? ⟨V1.heap.size, 1, none⟩ = some (.int .i64 m) := cell_of_row _ _ _ _ _ _ X1.out
      have X1_2 : V3.cell? ⟨V1.heap.size, 2, none⟩ = some (.int .i64 d) := cell_of_row _ _ _ _ _ _ X1.out
      have X1_f0 : V3.frozen? ⟨V1.heap.size, 0, none⟩ = false := by simp [World.frozen?, X1.out]
      have X1_f1 : V3.frozen? ⟨V1.heap.size, 1, none⟩ = false := by simp [World.frozen?, X1.out]
      have X1_f2 : V3.frozen? ⟨V1.heap.size, 2, none⟩ = false := by simp [World.frozen?, X1.out]
      have zA1 := lt_of_heap A1.out
      have zX1 := lt_of_heap X1.out
      go_simp
      go_wp2_with fail
      refine wp_loop_rounds 3 ?_
      rw [rounds_succ]
      go_wp2_with fail
      refine (O1.out _).mono ?_
      rintro e V4 ⟨rfl, hb4⟩
      clear A1_0 A1_1 A1_2 zA1 X1_0 X1_1 X1_2 X1_f0 X1_f1 X1_f2 zX1
      have B4 : Hid (Below w.heap.size w V4) := by first | exact Lib.hid ((B3.out).trans (hb4.mono (by have := B3.out.size; first | assumption | (simp <;> omega) | (simp; done)))) | exact Lib.hid (((B3.out).alloc (B3.out.size) _).trans (hb4.mono (by have := B3.out.size; first | assumption | (simp <;> omega) | (simp; done)))) | exact Lib.hid ((((B3.out).alloc (B3.out.size) _).alloc (by have := B3.out.size; simp <;> omega) _).trans (hb4.mono (by have := B3.out.size; first | assumption | (simp <;> omega) | (simp; done)))) | exact Lib.hid (((((B3.out).alloc (B3.out.size) _).alloc (by have := B3.out.size; simp <;> omega) _).alloc (by have := B3.out.size; simp <;> omega) _).trans (hb4.mono (by have := B3.out.size; first | assumption | (simp <;> omega) | (simp; done))))
      first | replace A1 := Lib.hid (row_call hb4 A1.out) | replace A1 := Lib.hid (row_call hb4 (row_alloc A1.out _)) | replace A1 := Lib.hid (row_call hb4 (row_alloc (row_alloc A1.out _) _)) | replace A1 := Lib.hid (row_call hb4 (row_alloc (row_alloc (row_alloc A1.out _) _) _))
      first | replace X1 := Lib.hid (row_call hb4 X1.out) | replace X1 := Lib.hid (row_call hb4 (row_alloc X1.out _)) | replace X1 := Lib.hid (row_call hb4 (row_alloc (row_alloc X1.out _) _)) | replace X1 := Lib.hid (row_call hb4 (row_alloc (row_alloc (row_alloc X1.out _) _) _))
      clear hb4
      have A1_0 : V4.cell? ⟨w.heap.size, 0, none⟩ = some (.int .i64 y) := cell_of_row _ _ _ _ _ _ A1.out
      have A1_1 : V4.cell? ⟨w.heap.size, 1, none⟩ = some (.int .i64 m) := cell_of_row _ _ _ _ _ _ A1.out
      have A1_2 : V4.cell? ⟨w.heap.size, 2, none⟩ = some (.int .i64 d) := cell_of_row _ _ _ _ _ _ A1.out
      have X1_0 : V4.cell? ⟨V1.heap.size, 0, none⟩ = some (.int .i64 L) := cell_of_row _ _ _ _ _ _ X1.out
      have X1_1 : V4.cell? ⟨V1.heap.size, 1, none⟩ = some (.int .i64 m) := cell_of_row _ _ _ _ _ _ X1.out
      have X1_2 : V4.cell? ⟨V1.heap.size, 2, none⟩ = some (.int .i64 d) := cell_of_row _ _ _ _ _ _ X1.out
      have X1_f0 : V4.frozen? ⟨V1.heap.size, 0, none⟩ = false := by simp [World.frozen?, X1.out]
      have X1_f1 : V4.frozen? ⟨V1.heap.size, 1, none⟩ = false := by simp [World.frozen?, X1.out]
      have X1_f2 : V4.frozen? ⟨V1.heap.size, 2, none⟩ = false := by simp [World.frozen?, X1.out]
      have zA1 := lt_of_heap A1.out
      have zX1 := lt_of_heap X1.out
      go_simp
      go_wp2_with fail
      rw [rounds_succ]
      go_wp2_with fail
      refine (O2.out _).mono ?_
      rintro e V5 ⟨rfl, hb5⟩
      clear A1_0 A1_1 A1_2 zA1 X1_0 X1_1 X1_2 X1_f0 X1_f1 X1_f2 zX1
      have B5 : Hid (Below w.heap.size w V5) := by first | exact Lib.hid ((B4.out).trans (hb5.mono (by have := B4.out.size; first | assumption | (simp <;> omega) | (simp; done)))) | exact Lib.hid (((B4.out).alloc (B4.out.size) _).trans (hb5.mono (by have := B4.out.size; first | assumption | (simp <;> omega) | (simp; done)))) | exact Lib.hid ((((B4.out).alloc (B4.out.size) _).alloc (by have := B4.out.size; simp <;> omega) _).trans (hb5.mono (by have := B4.out.size; first | assumption | (simp <;> omega) | (simp; done)))) | exact Lib.hid (((((B4.out).alloc (B4.out.size) _).alloc (by have := B4.out.size; simp <;> omega) _).alloc (by have := B4.out.size; simp <;> omega) _).trans (hb5.mono (by have := B4.out.size; first | assumption | (simp <;> omega) | (simp; done))))
      first | replace A1 := Lib.hid (row_call hb5 A1.out) | replace A1 := Lib.hid (row_call hb5 (row_alloc A1.out _)) | replace A1 := Lib.hid (row_call hb5 (row_alloc (row_alloc A1.out _) _)) | replace A1 := Lib.hid (row_call hb5 (row_alloc (row_alloc (row_alloc A1.out _) _) _))
      first | replace X1 := Lib.hid (row_call hb5 X1.out) | replace X1 := Lib.hid (row_call hb5 (row_alloc X1.out _)) | replace X1 := Lib.hid (row_call hb5 (row_alloc (row_alloc X1.out _) _)) | replace X1 := Lib.hid (row_call hb5 (row_alloc (row_alloc (row_alloc X1.out _) _) _))
      clear hb5
      have A1_0 : V5.cell? ⟨w.heap.size, 0, none⟩ = some (.int .i64 y) := cell_of_row _ _ _ _ _ _ A1.out
      have A1_1 : V5.cell? ⟨w.heap.size, 1, none⟩ = some (.int .i64 m) := cell_of_row _ _ _ _ _ _ A1.out
      have A1_2 : V5.cell? ⟨w.heap.size, 2, none⟩ = some (.int .i64 d) := cell_of_row _ _ _ _ _ _ A1.out
      have X1_0 : V5.cell? ⟨V1.heap.size, 0, none⟩ = some (.int .i64 L) := cell_of_row _ _ _ _ _ _ X1.out
      have X1_1 : V5.cell? ⟨V1.heap.size, 1, none⟩ = some (.int .i64 m) := cell_of_row _ _ _ _ _ _ X1.out
      have X1_2 : V5.cell? ⟨V1.heap.size, 2, none⟩ = some (.int .i64 d) := cell_of_row _ _ _ _ _ _ X1.out
      have X1_f0 : V5.frozen? ⟨V1.heap.size, 0, none⟩ = false := by simp [World.frozen?, X1.out]
      have X1_f1 : V5.frozen? ⟨V1.heap.size, 1, none⟩ = false := by simp [World.frozen?, X1.out]
      have X1_f2 : V5.frozen? ⟨V1.heap.size, 2, none⟩ = false := by simp [World.frozen?, X1.out]
      have zA1 := lt_of_heap A1.out
      have zX1 := lt_of_heap X1.out
      go_simp
      go_wp2_with fail
      clear A1_0 A1_1 A1_2 zA1 X1_0 X1_1 X1_2 X1_f0 X1_f1 X1_f2 zX1
      obtain ⟨W0, hW0⟩ : ∃ W0, W0 = V5 := ⟨_, rfl⟩
      replace A1 := Lib.hid (row_by hW0 A1.out)
      replace X1 := Lib.hid (row_by hW0 X1.out)
      have HB0 := Lib.hid (below_by hW0 (B5.out))
      have HW0 := Lib.hid hW0
      clear hW0
      have A1_0 : W0.cell? ⟨w.heap.size, 0, none⟩ = some (.int .i64 y) := cell_of_row _ _ _ _ _ _ A1.out
      have A1_1 : W0.cell? ⟨w.heap.size, 1, none⟩ = some (.int .i64 m) := cell_of_row _ _ _ _ _ _ A1.out
      have A1_2 : W0.cell? ⟨w.heap.size, 2, none⟩ = some (.int .i64 d) := cell_of_row _ _ _ _ _ _ A1.out
      have zA1 := lt_of_heap A1.out
      have X1_0 : W0.cell? ⟨V1.heap.size, 0, none⟩ = some (.int .i64 L) := cell_of_row _ _ _ _ _ _ X1.out
      have X1_1 : W0.cell? ⟨V1.heap.size, 1, none⟩ = some (.int .i64 m) := cell_of_row _ _ _ _ _ _ X1.out
      have X1_2 : W0.cell? ⟨V1.heap.size, 2, none⟩ = some (.int .i64 d) := cell_of_row _ _ _ _ _ _ X1.out
      have X1_f0 : W0.frozen? ⟨V1.heap.size, 0, none⟩ = false := (by simp [World.frozen?, X1.out])
      have X1_f1 : W0.frozen? ⟨V1.heap.size, 1, none⟩ = false := (by simp [World.frozen?, X1.out])
      have X1_f2 : W0.frozen? ⟨V1.heap.size, 2, none⟩ = false := (by simp [World.frozen?, X1.out])
      have zX1 := lt_of_heap X1.out
      try rw [← HW0.out]
      go_cut [2, 3, 4, 5] (fun s2 s3 s4 s5 wx => s2 = .int .i64 y ∧ s3 = .int .i64 ((N - a2) / 7 + 1) ∧ s4 = .int .i64 K ∧ s5 = .int .i64 0 ∧ Below W0.heap.size W0 wx)
      case first =>
        go_region_held3 (fun w' => Below W0.heap.size W0 w' ∧ w'.cell? ⟨w.heap.size, 0, none⟩ = some (.int .i64 y) ∧ w'.cell? ⟨w.heap.size, 1, none⟩ = some (.int .i64 m) ∧ w'.cell? ⟨w.heap.size, 2, none⟩ = some (.int .i64 d) ∧ w'.cell? ⟨V1.heap.size, 0, none⟩ = some (.int .i64 L) ∧ w'.cell? ⟨V1.heap.size, 1, none⟩ = some (.int .i64 m) ∧ w'.cell? ⟨V1.heap.size, 2, none⟩ = some (.int .i64 d))
    (first
      | ((try go_split_ands); refine ⟨(Below.refl _ _).drew, ?_, ?_, ?_, ?_, ?_, ?_⟩ <;> first | assumption | (rw [World.cell?_drew]; assumption))
      | ((try go_split_ands); refine ⟨keepS (W0 := W0) ?_ hb1, cellS (W0 := W0) ?_ hb1 ?_ ?_, cellS (W0 := W0) ?_ hb1 ?_ ?_, cellS (W0 := W0) ?_ hb1 ?_ ?_, cellS (W0 := W0) ?_ hb1 ?_ ?_, cellS (W0 := W0) ?_ hb1 ?_ ?_, cellS (W0 := W0) ?_ hb1 ?_ ?_⟩ <;> first | assumption | omega)
      | ((try go_split_ands); refine ⟨keepA (W0 := W0) ?_ _, cellA (W0 := W0) ?_ _ ?_ ?_, cellA (W0 := W0) ?_ _ ?_ ?_, cellA (W0 := W0) ?_ _ ?_ ?_, cellA (W0 := W0) ?_ _ ?_ ?_, cellA (W0 := W0) ?_ _ ?_ ?_, cellA (W0 := W0) ?_ _ ?_ ?_⟩ <;> first | assumption | omega)
      | ((try go_split_ands); refine ⟨keepAd (W0 := W0) ?_ _, cellAd (W0 := W0) ?_ _ ?_ ?_, cellAd (W0 := W0) ?_ _ ?_ ?_, cellAd (W0 := W0) ?_ _ ?_ ?_, cellAd (W0 := W0) ?_ _ ?_ ?_, cellAd (W0 := W0) ?_ _ ?_ ?_, cellAd (W0 := W0) ?_ _ ?_ ?_⟩ <;> first | assumption | omega | exact Below.refl _ _)
      | ((try go_split_ands); (with_reducible refine ⟨keep3 (W0 := W0) ?_ ?_ _ _ _, cell3 (W0 := W0) ?_ _ _ _ ?_ ?_, cell3 (W0 := W0) ?_ _ _ _ ?_ ?_, cell3 (W0 := W0) ?_ _ _ _ ?_ ?_, cell3 (W0 := W0) ?_ _ _ _ ?_ ?_, cell3 (W0 := W0) ?_ _ _ _ ?_ ?_, cell3 (W0 := W0) ?_ _ _ _ ?_ ?_⟩) <;> first | assumption | omega | exact Nat.le_refl _)
      | ((try go_split_ands); refine ⟨keep2 (W0 := W0) ?_ ?_ _ _, cell2 (W0 := W0) ?_ _ _ ?_ ?_, cell2 (W0 := W0) ?_ _ _ ?_ ?_, cell2 (W0 := W0) ?_ _ _ ?_ ?_, cell2 (W0 := W0) ?_ _ _ ?_ ?_, cell2 (W0 := W0) ?_ _ _ ?_ ?_, cell2 (W0 := W0) ?_ _ _ ?_ ?_⟩ <;> first | assumption | omega | exact Nat.le_refl _)
      | ((try go_split_ands); refine ⟨keepZ (W0 := W0) ?_ ?_ _, cellZ (W0 := W0) ?_ _ ?_ ?_, cellZ (W0 := W0) ?_ _ ?_ ?_, cellZ (W0 := W0) ?_ _ ?_ ?_, cellZ (W0 := W0) ?_ _ ?_ ?_, cellZ (W0 := W0) ?_ _ ?_ ?_, cellZ (W0 := W0) ?_ _ ?_ ?_⟩ <;> first | assumption | omega | exact Nat.le_refl _ | exact ⟨_, by assumption⟩))
    (first | (go_at_call 25; (with_reducible refine (O2.out _).mono ?_); rintro e w1 ⟨rfl, hb1⟩; (try go_split_ands); have hge : W0.heap.size ≤ w1.heap.size := (by first | (refine (keepS (W0 := W0) ?_ hb1).size; assumption) | exact (hb1.size : W0.heap.size ≤ w1.heap.size)); (try have hrow := row_call hb1 hrow); (try have hrow := row_new hb1); (try have hrow := row_newd hb1); have hl1 := lt_below hb1; obtain ⟨hc1, hf1⟩ := bcell hb1; (try (have hrc := row_cellA hrow; clear hc1 hf1)); (try have hrf := row_frozA hrow)) | (go_at_call 26; (with_reducible refine (HW.out _).mono ?_); rintro e w1 ⟨rfl, hb1⟩; (try go_split_ands); have hge : W0.heap.size ≤ w1.heap.size := (by first | (refine (keepS (W0 := W0) ?_ hb1).size; assumption) | exact (hb1.size : W0.heap.size ≤ w1.heap.size)); (try have hrow := row_call hb1 hrow); (try have hrow := row_new hb1); (try have hrow := row_newd hb1); have hl1 := lt_below hb1; obtain ⟨hc1, hf1⟩ := bcell hb1; (try (have hrc := row_cellA hrow; clear hc1 hf1)); (try have hrf := row_frozA hrow)))
        all_goals (try go_split_ands)
        all_goals (go_wp2_with fail; go_meet; refine ⟨rfl, rfl, rfl, rfl, ?_⟩)
        all_goals first | (with_reducible assumption) | (with_reducible exact heap_alloc_new _ _) | (with_reducible exact row_set3 (by assumption) _ _ _) | assumption | exact heap_alloc_new _ _ | exact row_set (by assumption) _ _
      case rest =>
        obtain ⟨rfl, rfl, rfl, rfl, hB⟩ := hcut
        obtain ⟨V6, rfl⟩ : ∃ V, V = wc := ⟨_, rfl⟩
        clear A1_0 A1_1 A1_2 zA1 X1_0 X1_1 X1_2 X1_f0 X1_f1 X1_f2 zX1
        replace A1 := Lib.hid (row_call hB A1.out)
        replace X1 := Lib.hid (row_call hB X1.out)
        have B6 := Lib.hid (HB0.out.trans (hB.mono HB0.out.size))
        clear hB
        have A1_0 : V6.cell? ⟨w.heap.size, 0, none⟩ = some (.int .i64 y) := cell_of_row _ _ _ _ _ _ A1.out
        have A1_1 : V6.cell? ⟨w.heap.size, 1, none⟩ = some (.int .i64 m) := cell_of_row _ _ _ _ _ _ A1.out
        have A1_2 : V6.cell? ⟨w.heap.size, 2, none⟩ = some (.int .i64 d) := cell_of_row _ _ _ _ _ _ A1.out
        have zA1 := lt_of_heap A1.out
        have X1_0 : V6.cell? ⟨V1.heap.size, 0, none⟩ = some (.int .i64 L) := cell_of_row _ _ _ _ _ _ X1.out
        have X1_1 : V6.cell? ⟨V1.heap.size, 1, none⟩ = some (.int .i64 m) := cell_of_row _ _ _ _ _ _ X1.out
        have X1_2 : V6.cell? ⟨V1.heap.size, 2, none⟩ = some (.int .i64 d) := cell_of_row _ _ _ _ _ _ X1.out
        have X1_f0 : V6.frozen? ⟨V1.heap.size, 0, none⟩ = false := (by simp [World.frozen?, X1.out])
        have X1_f1 : V6.frozen? ⟨V1.heap.size, 1, none⟩ = false := (by simp [World.frozen?, X1.out])
        have X1_f2 : V6.frozen? ⟨V1.heap.size, 2, none⟩ = false := (by simp [World.frozen?, X1.out])
        have zX1 := lt_of_heap X1.out
        go_wp2
        refine shut_ret (v := .tuple #[.int .i64 y, .int .i64 ((N - a2) / 7 + 1), .int .i64 K, .int .i64 0]) (by simp [results, Tryd.results9, go_sem]) rfl ⟨by rw [E1.out, E2.out, show y + L - L = y by omega], ?_⟩
        exact B6.out
    · have E1 := Lib.hid (z3 k1 k2)
      rw [E1.out] at wy i5
      have E2 := wy
      clear z1 z2 z3 wy
      generalize woY L (dnI L m d) = YY at *
      generalize hA1 : oneI (L + 1) = a1 at *
      generalize hA2 : oneI L = a2 at *
      generalize hA3 : oneI (L - 1) = a3 at *
      generalize hN0 : dnI L m d = N at *
      clear hA1 hA2 hA3 hN0
      have g1 : 0 ≤ N - a3 := by omega
      have g2 : IntKind.i64.wrap (N - a3) = N - a3 := by rw [IntKind.wrap_i64]; omega
      have g3 : (N - a3).tdiv 7 = (N - a3) / 7 := Int.tdiv_eq_ediv_of_nonneg g1
      have g5 : IntKind.i64.wrap ((N - a3) / 7) = (N - a3) / 7 := by rw [IntKind.wrap_i64]; omega
      have g6 : IntKind.i64.wrap (y + (L - 1)) = y + (L - 1) := by rw [IntKind.wrap_i64]; omega
      have g7 : IntKind.i64.wrap (y + (L - 1) - L) = y + (L - 1) - L := by rw [IntKind.wrap_i64]; omega
      have g4 : IntKind.i64.wrap ((N - a3) / 7 + 1) = (N - a3) / 7 + 1 := by rw [IntKind.wrap_i64]; omega
      go_enter Tryd.func9, Tryd.ntmps9
      refine wp_shut ?_
      go_wp2_with fail
      
      refine (H1.out _).mono ?_
      rintro e V1 ⟨rfl, hb1⟩
      have B1 := Lib.hid (((Below.refl w.heap.size w).alloc (Nat.le_refl _) _).trans (hb1.mono (by first | assumption | (simp <;> omega) | (simp; done))))
      have A1 := Lib.hid (row_call hb1 (heap_alloc_new _ _))
      clear hb1
      have A1_0 : V1.cell? ⟨w.heap.size, 0, none⟩ = some (.int .i64 y) := cell_of_row _ _ _ _ _ _ A1.out
      have A1_1 : V1.cell? ⟨w.heap.size, 1, none⟩ = some (.int .i64 m) := cell_of_row _ _ _ _ _ _ A1.out
      have A1_2 : V1.cell? ⟨w.heap.size, 2, none⟩ = some (.int .i64 d) := cell_of_row _ _ _ _ _ _ A1.out
      have zA1 := lt_of_heap A1.out
      go_simp
      go_wp2_with fail
      refine (HL.out _).mono ?_
      rintro e V2 ⟨rfl, hb2⟩
      clear A1_0 A1_1 A1_2 zA1
      have nA1X1 := Lib.hid (lt_of_heap A1.out)
      have B2 := Lib.hid (((B1.out).alloc (B1.out.size) _).trans (hb2.mono (by have := B1.out.size; first | assumption | (simp <;> omega) | (simp; done))))
      replace A1 := Lib.hid (row_call hb2 (row_alloc A1.out _))
      have X1 := Lib.hid (row_call hb2 (heap_alloc_new _ _))
      clear hb2
      have A1_0 : V2.cell? ⟨w.heap.size, 0, none⟩ = some (.int .i64 y) := cell_of_row _ _ _ _ _ _ A1.out
      have A1_1 : V2.cell? ⟨w.heap.size, 1, none⟩ = some (.int .i64 m) := cell_of_row _ _ _ _ _ _ A1.out
      have A1_2 : V2.cell? ⟨w.heap.size, 2, none⟩ = some (.int .i64 d) := cell_of_row _ _ _ _ _ _ A1.out
      have X1_0 : V2.cell? ⟨V1.heap.size, 0, none⟩ = some (.int .i64 y) := cell_of_row _ _ _ _ _ _ X1.out
      have X1_1 : V2.cell? ⟨V1.heap.size, 1, none⟩ = some (.int .i64 m) := cell_of_row _ _ _ _ _ _ X1.out
      have X1_2 : V2.cell? ⟨V1.heap.size, 2, none⟩ = some (.int .i64 d) := cell_of_row _ _ _ _ _ _ X1.out
      have X1_f0 : V2.frozen? ⟨V1.heap.size, 0, none⟩ = false := by simp [World.frozen?, X1.out]
      have X1_f1 : V2.frozen? ⟨V1.heap.size, 1, none⟩ = false := by simp [World.frozen?, X1.out]
      have X1_f2 : V2.frozen? ⟨V1.heap.size, 2, none⟩ = false := by simp [World.frozen?, X1.out]
      have zA1 := lt_of_heap A1.out
      have zX1 := lt_of_heap X1.out
      go_simp
      go_wp2_with fail
      refine (HN.out _).mono ?_
      rintro e V3 ⟨rfl, hb3⟩
      clear A1_0 A1_1 A1_2 zA1 X1_0 X1_1 X1_2 X1_f0 X1_f1 X1_f2 zX1
      have B3 : Hid (Below w.heap.size w V3) := by first | exact Lib.hid ((keep1 (B2.out) (by have := B1.out.size; omega) 0 _).trans (hb3.mono (by have := B2.out.size; first | assumption | (simp <;> omega) | (simp; done)))) | exact Lib.hid (((keep1 (B2.out) (by have := B1.out.size; omega) 0 _).alloc (by have := B2.out.size; simp <;> omega) _).trans (hb3.mono (by have := B2.out.size; first | assumption | (simp <;> omega) | (simp; done)))) | exact Lib.hid ((((keep1 (B2.out) (by have := B1.out.size; omega) 0 _).alloc (by have := B2.out.size; simp <;> omega) _).alloc (by have := B2.out.size; simp <;> omega) _).trans (hb3.mono (by have := B2.out.size; first | assumption | (simp <;> omega) | (simp; done)))) | exact Lib.hid (((((keep1 (B2.out) (by have := B1.out.size; omega) 0 _).alloc (by have := B2.out.size; simp <;> omega) _).alloc (by have := B2.out.size; simp <;> omega) _).alloc (by have := B2.out.size; simp <;> omega) _).trans (hb3.mono (by have := B2.out.size; first | assumption | (simp <;> omega) | (simp; done))))
      first | replace A1 := Lib.hid (row_call hb3 (row_other1 (by have := nA1X1.out; omega) A1.out 0 _)) | replace A1 := Lib.hid (row_call hb3 (row_alloc (row_other1 (by have := nA1X1.out; omega) A1.out 0 _) _)) | replace A1 := Lib.hid (row_call hb3 (row_alloc (row_alloc (row_other1 (by have := nA1X1.out; omega) A1.out 0 _) _) _)) | replace A1 := Lib.hid (row_call hb3 (row_alloc (row_alloc (row_alloc (row_other1 (by have := nA1X1.out; omega) A1.out 0 _) _) _) _))
      first | replace X1 : Hid (V3.heap[V1.heap.size]? = some (.cells #[.int .i64 L, .int .i64 m, .int .i64 d] _ (0, 0))) := Lib.hid (row_call hb3 (row_set1 X1.out 0 _)) | replace X1 : Hid (V3.heap[V1.heap.size]? = some (.cells #[.int .i64 L, .int .i64 m, .int .i64 d] _ (0, 0))) := Lib.hid (row_call hb3 (row_alloc (row_set1 X1.out 0 _) _)) | replace X1 : Hid (V3.heap[V1.heap.size]? = some (.cells #[.int .i64 L, .int .i64 m, .int .i64 d] _ (0, 0))) := Lib.hid (row_call hb3 (row_alloc (row_alloc (row_set1 X1.out 0 _) _) _)) | replace X1 : Hid (V3.heap[V1.heap.size]? = some (.cells #[.int .i64 L, .int .i64 m, .int .i64 d] _ (0, 0))) := Lib.hid (row_call hb3 (row_alloc (row_alloc (row_alloc (row_set1 X1.out 0 _) _) _) _))
      clear hb3
      have A1_0 : V3.cell? ⟨w.heap.size, 0, none⟩ = some (.int .i64 y) := cell_of_row _ _ _ _ _ _ A1.out
      have A1_1 : V3.cell? ⟨w.heap.size, 1, none⟩ = some (.int .i64 m) := cell_of_row _ _ _ _ _ _ A1.out
      have A1_2 : V3.cell? ⟨w.heap.size, 2, none⟩ = some (.int .i64 d) := cell_of_row _ _ _ _ _ _ A1.out
      have X1_0 : V3.cell? ⟨V1.heap.size, 0, none⟩ = some (.int .i64 L) := cell_of_row _ _ _ _ _ _ X1.out
      have X1_1 : V3.cell? ⟨V1.heap.size, 1, none⟩ = some (.int .i64 m) := cell_of_row _ _ _ _ _ _ X1.out
      have X1_2 : V3.cell? ⟨V1.heap.size, 2, none⟩ = some (.int .i64 d) := cell_of_row _ _ _ _ _ _ X1.out
      have X1_f0 : V3.frozen? ⟨V1.heap.size, 0, none⟩ = false := by simp [World.frozen?, X1.out]
      have X1_f1 : V3.frozen? ⟨V1.heap.size, 1, none⟩ = false := by simp [World.frozen?, X1.out]
      have X1_f2 : V3.frozen? ⟨V1.heap.size, 2, none⟩ = false := by simp [World.frozen?, X1.out]
      have zA1 := lt_of_heap A1.out
      have zX1 := lt_of_heap X1.out
      go_simp
      go_wp2_with fail
      refine wp_loop_rounds 3 ?_
      rw [rounds_succ]
      go_wp2_with fail
      refine (O1.out _).mono ?_
      rintro e V4 ⟨rfl, hb4⟩
      clear A1_0 A1_1 A1_2 zA1 X1_0 X1_1 X1_2 X1_f0 X1_f1 X1_f2 zX1
      have B4 : Hid (Below w.heap.size w V4) := by first | exact Lib.hid ((B3.out).trans (hb4.mono (by have := B3.out.size; first | assumption | (simp <;> omega) | (simp; done)))) | exact Lib.hid (((B3.out).alloc (B3.out.size) _).trans (hb4.mono (by have := B3.out.size; first | assumption | (simp <;> omega) | (simp; done)))) | exact Lib.hid ((((B3.out).alloc (B3.out.size) _).alloc (by have := B3.out.size; simp <;> omega) _).trans (hb4.mono (by have := B3.out.size; first | assumption | (simp <;> omega) | (simp; done)))) | exact Lib.hid (((((B3.out).alloc (B3.out.size) _).alloc (by have := B3.out.size; simp <;> omega) _).alloc (by have := B3.out.size; simp <;> omega) _).trans (hb4.mono (by have := B3.out.size; first | assumption | (simp <;> omega) | (simp; done))))
      first | replace A1 := Lib.hid (row_call hb4 A1.out) | replace A1 := Lib.hid (row_call hb4 (row_alloc A1.out _)) | replace A1 := Lib.hid (row_call hb4 (row_alloc (row_alloc A1.out _) _)) | replace A1 := Lib.hid (row_call hb4 (row_alloc (row_alloc (row_alloc A1.out _) _) _))
      first | replace X1 := Lib.hid (row_call hb4 X1.out) | replace X1 := Lib.hid (row_call hb4 (row_alloc X1.out _)) | replace X1 := Lib.hid (row_call hb4 (row_alloc (row_alloc X1.out _) _)) | replace X1 := Lib.hid (row_call hb4 (row_alloc (row_alloc (row_alloc X1.out _) _) _))
      clear hb4
      have A1_0 : V4.cell? ⟨w.heap.size, 0, none⟩ = some (.int .i64 y) := cell_of_row _ _ _ _ _ _ A1.out
      have A1_1 : V4.cell? ⟨w.heap.size, 1, none⟩ = some (.int .i64 m) := cell_of_row _ _ _ _ _ _ A1.out
      have A1_2 : V4.cell? ⟨w.heap.size, 2, none⟩ = some (.int .i64 d) := cell_of_row _ _ _ _ _ _ A1.out
      have X1_0 : V4.cell? ⟨V1.heap.size, 0, none⟩ = some (.int .i64 L) := cell_of_row _ _ _ _ _ _ X1.out
      have X1_1 : V4.cell? ⟨V1.heap.size, 1, none⟩ = some (.int .i64 m) := cell_of_row _ _ _ _ _ _ X1.out
      have X1_2 : V4.cell? ⟨V1.heap.size, 2, none⟩ = some (.int .i64 d) := cell_of_row _ _ _ _ _ _ X1.out
      have X1_f0 : V4.frozen? ⟨V1.heap.size, 0, none⟩ = false := by simp [World.frozen?, X1.out]
      have X1_f1 : V4.frozen? ⟨V1.heap.size, 1, none⟩ = false := by simp [World.frozen?, X1.out]
      have X1_f2 : V4.frozen? ⟨V1.heap.size, 2, none⟩ = false := by simp [World.frozen?, X1.out]
      have zA1 := lt_of_heap A1.out
      have zX1 := lt_of_heap X1.out
      go_simp
      go_wp2_with fail
      rw [rounds_succ]
      go_wp2_with fail
      refine (O2.out _).mono ?_
      rintro e V5 ⟨rfl, hb5⟩
      clear A1_0 A1_1 A1_2 zA1 X1_0 X1_1 X1_2 X1_f0 X1_f1 X1_f2 zX1
      have B5 : Hid (Below w.heap.size w V5) := by first | exact Lib.hid ((B4.out).trans (hb5.mono (by have := B4.out.size; first | assumption | (simp <;> omega) | (simp; done)))) | exact Lib.hid (((B4.out).alloc (B4.out.size) _).trans (hb5.mono (by have := B4.out.size; first | assumption | (simp <;> omega) | (simp; done)))) | exact Lib.hid ((((B4.out).alloc (B4.out.size) _).alloc (by have := B4.out.size; simp <;> omega) _).trans (hb5.mono (by have := B4.out.size; first | assumption | (simp <;> omega) | (simp; done)))) | exact Lib.hid (((((B4.out).alloc (B4.out.size) _).alloc (by have := B4.out.size; simp <;> omega) _).alloc (by have := B4.out.size; simp <;> omega) _).trans (hb5.mono (by have := B4.out.size; first | assumption | (simp <;> omega) | (simp; done))))
      first | replace A1 := Lib.hid (row_call hb5 A1.out) | replace A1 := Lib.hid (row_call hb5 (row_alloc A1.out _)) | replace A1 := Lib.hid (row_call hb5 (row_alloc (row_alloc A1.out _) _)) | replace A1 := Lib.hid (row_call hb5 (row_alloc (row_alloc (row_alloc A1.out _) _) _))
      first | replace X1 := Lib.hid (row_call hb5 X1.out) | replace X1 := Lib.hid (row_call hb5 (row_alloc X1.out _)) | replace X1 := Lib.hid (row_call hb5 (row_alloc (row_alloc X1.out _) _)) | replace X1 := Lib.hid (row_call hb5 (row_alloc (row_alloc (row_alloc X1.out _) _) _))
      clear hb5
      have A1_0 : V5.cell? ⟨w.heap.size, 0, none⟩ = some (.int .i64 y) := cell_of_row _ _ _ _ _ _ A1.out
      have A1_1 : V5.cell? ⟨w.heap.size, 1, none⟩ = some (.int .i64 m) := cell_of_row _ _ _ _ _ _ A1.out
      have A1_2 : V5.cell? ⟨w.heap.size, 2, none⟩ = some (.int .i64 d) := cell_of_row _ _ _ _ _ _ A1.out
      have X1_0 : V5.cell? ⟨V1.heap.size, 0, none⟩ = some (.int .i64 L) := cell_of_row _ _ _ _ _ _ X1.out
      have X1_1 : V5.cell? ⟨V1.heap.size, 1, none⟩ = some (.int .i64 m) := cell_of_row _ _ _ _ _ _ X1.out
      have X1_2 : V5.cell? ⟨V1.heap.size, 2, none⟩ = some (.int .i64 d) := cell_of_row _ _ _ _ _ _ X1.out
      have X1_f0 : V5.frozen? ⟨V1.heap.size, 0, none⟩ = false := by simp [World.frozen?, X1.out]
      have X1_f1 : V5.frozen? ⟨V1.heap.size, 1, none⟩ = false := by simp [World.frozen?, X1.out]
      have X1_f2 : V5.frozen? ⟨V1.heap.size, 2, none⟩ = false := by simp [World.frozen?, X1.out]
      have zA1 := lt_of_heap A1.out
      have zX1 := lt_of_heap X1.out
      go_simp
      go_wp2_with fail
      rw [rounds_succ]
      go_wp2_with fail
      refine (O3.out _).mono ?_
      rintro e V6 ⟨rfl, hb6⟩
      clear A1_0 A1_1 A1_2 zA1 X1_0 X1_1 X1_2 X1_f0 X1_f1 X1_f2 zX1
      have B6 : Hid (Below w.heap.size w V6) := by first | exact Lib.hid ((B5.out).trans (hb6.mono (by have := B5.out.size; first | assumption | (simp <;> omega) | (simp; done)))) | exact Lib.hid (((B5.out).alloc (B5.out.size) _).trans (hb6.mono (by have := B5.out.size; first | assumption | (simp <;> omega) | (simp; done)))) | exact Lib.hid ((((B5.out).alloc (B5.out.size) _).alloc (by have := B5.out.size; simp <;> omega) _).trans (hb6.mono (by have := B5.out.size; first | assumption | (simp <;> omega) | (simp; done)))) | exact Lib.hid (((((B5.out).alloc (B5.out.size) _).alloc (by have := B5.out.size; simp <;> omega) _).alloc (by have := B5.out.size; simp <;> omega) _).trans (hb6.mono (by have := B5.out.size; first | assumption | (simp <;> omega) | (simp; done))))
      first | replace A1 := Lib.hid (row_call hb6 A1.out) | replace A1 := Lib.hid (row_call hb6 (row_alloc A1.out _)) | replace A1 := Lib.hid (row_call hb6 (row_alloc (row_alloc A1.out _) _)) | replace A1 := Lib.hid (row_call hb6 (row_alloc (row_alloc (row_alloc A1.out _) _) _))
      first | replace X1 := Lib.hid (row_call hb6 X1.out) | replace X1 := Lib.hid (row_call hb6 (row_alloc X1.out _)) | replace X1 := Lib.hid (row_call hb6 (row_alloc (row_alloc X1.out _) _)) | replace X1 := Lib.hid (row_call hb6 (row_alloc (row_alloc (row_alloc X1.out _) _) _))
      clear hb6
      have A1_0 : V6.cell? ⟨w.heap.size, 0, none⟩ = some (.int .i64 y) := cell_of_row _ _ _ _ _ _ A1.out
      have A1_1 : V6.cell? ⟨w.heap.size, 1, none⟩ = some (.int .i64 m) := cell_of_row _ _ _ _ _ _ A1.out
      have A1_2 : V6.cell? ⟨w.heap.size, 2, none⟩ = some (.int .i64 d) := cell_of_row _ _ _ _ _ _ A1.out
      have X1_0 : V6.cell? ⟨V1.heap.size, 0, none⟩ = some (.int .i64 L) := cell_of_row _ _ _ _ _ _ X1.out
      have X1_1 : V6.cell? ⟨V1.heap.size, 1, none⟩ = some (.int .i64 m) := cell_of_row _ _ _ _ _ _ X1.out
      have X1_2 : V6.cell? ⟨V1.heap.size, 2, none⟩ = some (.int .i64 d) := cell_of_row _ _ _ _ _ _ X1.out
      have X1_f0 : V6.frozen? ⟨V1.heap.size, 0, none⟩ = false := by simp [World.frozen?, X1.out]
      have X1_f1 : V6.frozen? ⟨V1.heap.size, 1, none⟩ = false := by simp [World.frozen?, X1.out]
      have X1_f2 : V6.frozen? ⟨V1.heap.size, 2, none⟩ = false := by simp [World.frozen?, X1.out]
      have zA1 := lt_of_heap A1.out
      have zX1 := lt_of_heap X1.out
      go_simp
      go_wp2_with fail
      clear A1_0 A1_1 A1_2 zA1 X1_0 X1_1 X1_2 X1_f0 X1_f1 X1_f2 zX1
      obtain ⟨W0, hW0⟩ : ∃ W0, W0 = V6 := ⟨_, rfl⟩
      replace A1 := Lib.hid (row_by hW0 A1.out)
      replace X1 := Lib.hid (row_by hW0 X1.out)
      have HB0 := Lib.hid (below_by hW0 (B6.out))
      have HW0 := Lib.hid hW0
      clear hW0
      have A1_0 : W0.cell? ⟨w.heap.size, 0, none⟩ = some (.int .i64 y) := cell_of_row _ _ _ _ _ _ A1.out
      have A1_1 : W0.cell? ⟨w.heap.size, 1, none⟩ = some (.int .i64 m) := cell_of_row _ _ _ _ _ _ A1.out
      have A1_2 : W0.cell? ⟨w.heap.size, 2, none⟩ = some (.int .i64 d) := cell_of_row _ _ _ _ _ _ A1.out
      have zA1 := lt_of_heap A1.out
      have X1_0 : W0.cell? ⟨V1.heap.size, 0, none⟩ = some (.int .i64 L) := cell_of_row _ _ _ _ _ _ X1.out
      have X1_1 : W0.cell? ⟨V1.heap.size, 1, none⟩ = some (.int .i64 m) := cell_of_row _ _ _ _ _ _ X1.out
      have X1_2 : W0.cell? ⟨V1.heap.size, 2, none⟩ = some (.int .i64 d) := cell_of_row _ _ _ _ _ _ X1.out
      have X1_f0 : W0.frozen? ⟨V1.heap.size, 0, none⟩ = false := (by simp [World.frozen?, X1.out])
      have X1_f1 : W0.frozen? ⟨V1.heap.size, 1, none⟩ = false := (by simp [World.frozen?, X1.out])
      have X1_f2 : W0.frozen? ⟨V1.heap.size, 2, none⟩ = false := (by simp [World.frozen?, X1.out])
      have zX1 := lt_of_heap X1.out
      try rw [← HW0.out]
      go_cut [2, 3, 4, 5] (fun s2 s3 s4 s5 wx => s2 = .int .i64 (y + (L - 1) - L) ∧ s3 = .int .i64 ((N - a3) / 7 + 1) ∧ s4 = .int .i64 K ∧ s5 = .int .i64 0 ∧ Below W0.heap.size W0 wx)
      case first =>
        go_region_held3 (fun w' => Below W0.heap.size W0 w' ∧ w'.cell? ⟨w.heap.size, 0, none⟩ = some (.int .i64 y) ∧ w'.cell? ⟨w.heap.size, 1, none⟩ = some (.int .i64 m) ∧ w'.cell? ⟨w.heap.size, 2, none⟩ = some (.int .i64 d) ∧ w'.cell? ⟨V1.heap.size, 0, none⟩ = some (.int .i64 L) ∧ w'.cell? ⟨V1.heap.size, 1, none⟩ = some (.int .i64 m) ∧ w'.cell? ⟨V1.heap.size, 2, none⟩ = some (.int .i64 d))
    (first
      | ((try go_split_ands); refine ⟨(Below.refl _ _).drew, ?_, ?_, ?_, ?_, ?_, ?_⟩ <;> first | assumption | (rw [World.cell?_drew]; assumption))
      | ((try go_split_ands); refine ⟨keepS (W0 := W0) ?_ hb1, cellS (W0 := W0) ?_ hb1 ?_ ?_, cellS (W0 := W0) ?_ hb1 ?_ ?_, cellS (W0 := W0) ?_ hb1 ?_ ?_, cellS (W0 := W0) ?_ hb1 ?_ ?_, cellS (W0 := W0) ?_ hb1 ?_ ?_, cellS (W0 := W0) ?_ hb1 ?_ ?_⟩ <;> first | assumption | omega)
      | ((try go_split_ands); refine ⟨keepA (W0 := W0) ?_ _, cellA (W0 := W0) ?_ _ ?_ ?_, cellA (W0 := W0) ?_ _ ?_ ?_, cellA (W0 := W0) ?_ _ ?_ ?_, cellA (W0 := W0) ?_ _ ?_ ?_, cellA (W0 := W0) ?_ _ ?_ ?_, cellA (W0 := W0) ?_ _ ?_ ?_⟩ <;> first | assumption | omega)
      | ((try go_split_ands); refine ⟨keepAd (W0 := W0) ?_ _, cellAd (W0 := W0) ?_ _ ?_ ?_, cellAd (W0 := W0) ?_ _ ?_ ?_, cellAd (W0 := W0) ?_ _ ?_ ?_, cellAd (W0 := W0) ?_ _ ?_ ?_, cellAd (W0 := W0) ?_ _ ?_ ?_, cellAd (W0 := W0) ?_ _ ?_ ?_⟩ <;> first | assumption | omega | exact Below.refl _ _)
      | ((try go_split_ands); (with_reducible refine ⟨keep3 (W0 := W0) ?_ ?_ _ _ _, cell3 (W0 := W0) ?_ _ _ _ ?_ ?_, cell3 (W0 := W0) ?_ _ _ _ ?_ ?_, cell3 (W0 := W0) ?_ _ _ _ ?_ ?_, cell3 (W0 := W0) ?_ _ _ _ ?_ ?_, cell3 (W0 := W0) ?_ _ _ _ ?_ ?_, cell3 (W0 := W0) ?_ _ _ _ ?_ ?_⟩) <;> first | assumption | omega | exact Nat.le_refl _)
      | ((try go_split_ands); refine ⟨keep2 (W0 := W0) ?_ ?_ _ _, cell2 (W0 := W0) ?_ _ _ ?_ ?_, cell2 (W0 := W0) ?_ _ _ ?_ ?_, cell2 (W0 := W0) ?_ _ _ ?_ ?_, cell2 (W0 := W0) ?_ _ _ ?_ ?_, cell2 (W0 := W0) ?_ _ _ ?_ ?_, cell2 (W0 := W0) ?_ _ _ ?_ ?_⟩ <;> first | assumption | omega | exact Nat.le_refl _)
      | ((try go_split_ands); refine ⟨keepZ (W0 := W0) ?_ ?_ _, cellZ (W0 := W0) ?_ _ ?_ ?_, cellZ (W0 := W0) ?_ _ ?_ ?_, cellZ (W0 := W0) ?_ _ ?_ ?_, cellZ (W0 := W0) ?_ _ ?_ ?_, cellZ (W0 := W0) ?_ _ ?_ ?_, cellZ (W0 := W0) ?_ _ ?_ ?_⟩ <;> first | assumption | omega | exact Nat.le_refl _ | exact ⟨_, by assumption⟩))
    (first | (go_at_call 25; (with_reducible refine (O3.out _).mono ?_); rintro e w1 ⟨rfl, hb1⟩; (try go_split_ands); have hge : W0.heap.size ≤ w1.heap.size := (by first | (refine (keepS (W0 := W0) ?_ hb1).size; assumption) | exact (hb1.size : W0.heap.size ≤ w1.heap.size)); (try have hrow := row_call hb1 hrow); (try have hrow := row_new hb1); (try have hrow := row_newd hb1); have hl1 := lt_below hb1; obtain ⟨hc1, hf1⟩ := bcell hb1; (try (have hrc := row_cellA hrow; clear hc1 hf1)); (try have hrf := row_frozA hrow)) | (go_at_call 26; (with_reducible refine (HW.out _).mono ?_); rintro e w1 ⟨rfl, hb1⟩; (try go_split_ands); have hge : W0.heap.size ≤ w1.heap.size := (by first | (refine (keepS (W0 := W0) ?_ hb1).size; assumption) | exact (hb1.size : W0.heap.size ≤ w1.heap.size)); (try have hrow := row_call hb1 hrow); (try have hrow := row_new hb1); (try have hrow := row_newd hb1); have hl1 := lt_below hb1; obtain ⟨hc1, hf1⟩ := bcell hb1; (try (have hrc := row_cellA hrow; clear hc1 hf1)); (try have hrf := row_frozA hrow)))
        all_goals (try go_split_ands)
        all_goals (go_wp2_with fail; go_meet; refine ⟨rfl, rfl, rfl, rfl, ?_⟩)
        all_goals first | (with_reducible assumption) | (with_reducible exact heap_alloc_new _ _) | (with_reducible exact row_set3 (by assumption) _ _ _) | assumption | exact heap_alloc_new _ _ | exact row_set (by assumption) _ _
      case rest =>
        obtain ⟨rfl, rfl, rfl, rfl, hB⟩ := hcut
        obtain ⟨V7, rfl⟩ : ∃ V, V = wc := ⟨_, rfl⟩
        clear A1_0 A1_1 A1_2 zA1 X1_0 X1_1 X1_2 X1_f0 X1_f1 X1_f2 zX1
        replace A1 := Lib.hid (row_call hB A1.out)
        replace X1 := Lib.hid (row_call hB X1.out)
        have B7 := Lib.hid (HB0.out.trans (hB.mono HB0.out.size))
        clear hB
        have A1_0 : V7.cell? ⟨w.heap.size, 0, none⟩ = some (.int .i64 y) := cell_of_row _ _ _ _ _ _ A1.out
        have A1_1 : V7.cell? ⟨w.heap.size, 1, none⟩ = some (.int .i64 m) := cell_of_row _ _ _ _ _ _ A1.out
        have A1_2 : V7.cell? ⟨w.heap.size, 2, none⟩ = some (.int .i64 d) := cell_of_row _ _ _ _ _ _ A1.out
        have zA1 := lt_of_heap A1.out
        have X1_0 : V7.cell? ⟨V1.heap.size, 0, none⟩ = some (.int .i64 L) := cell_of_row _ _ _ _ _ _ X1.out
        have X1_1 : V7.cell? ⟨V1.heap.size, 1, none⟩ = some (.int .i64 m) := cell_of_row _ _ _ _ _ _ X1.out
        have X1_2 : V7.cell? ⟨V1.heap.size, 2, none⟩ = some (.int .i64 d) := cell_of_row _ _ _ _ _ _ X1.out
        have X1_f0 : V7.frozen? ⟨V1.heap.size, 0, none⟩ = false := (by simp [World.frozen?, X1.out])
        have X1_f1 : V7.frozen? ⟨V1.heap.size, 1, none⟩ = false := (by simp [World.frozen?, X1.out])
        have X1_f2 : V7.frozen? ⟨V1.heap.size, 2, none⟩ = false := (by simp [World.frozen?, X1.out])
        have zX1 := lt_of_heap X1.out
        go_wp2
        refine shut_ret (v := .tuple #[.int .i64 (y + (L - 1) - L), .int .i64 ((N - a3) / 7 + 1), .int .i64 K, .int .i64 0]) (by simp [results, Tryd.results9, go_sem]) rfl ⟨by rw [E1.out, E2.out], ?_⟩
        exact B7.out
end Go.Proofs.YtoghogpcgdcboaaDoor
