/- Package weeks: the year's first Thursday, its weeks, a date's week. -/
import Derived.Test.YtoghogpcgdcboaaDoorWkC
import Derived.Test.YtoghogpcgdcboaaDoorCivI
namespace Go.Proofs.YtoghogpcgdcboaaDoor
set_option linter.unusedVariables false
set_option linter.unusedSimpArgs false
open Go.ChangeShapes Go.WideShapes Go.ChangeAt Go.RowKit

/-- which day of its year the first Thursday is. -/
@[irreducible] def ftI (y : Int) : Int := oneI y - yst y + 4
theorem ft_bd (y : Int) : 1 ≤ ftI y ∧ ftI y ≤ 7 := by unfold ftI oneI; omega
theorem ft_wd (y : Int) : ftI y = (11 - wdI (yst y)) % 7 + 1 := by unfold ftI oneI wdI; omega
theorem ft_cycle (y k : Int) : ftI (y + 400 * k) = ftI y := by unfold ftI; rw [one_cycle, yst_cycle]; omega
theorem ft_year (y : Int) : ∃ c : Int, 2000 + y.tmod 400 = y + 400 * c ∧ -400 < y.tmod 400 ∧ y.tmod 400 < 400 := by
  have h := Int.tmod_add_mul_tdiv y 400
  have h1 := Int.lt_tmod_of_pos y (show (0 : Int) < 400 by decide)
  have h2 := Int.tmod_lt_of_pos y (show (0 : Int) < 400 by decide)
  exact ⟨5 - y.tdiv 400, by omega, by omega, by omega⟩
theorem ft_weeks (y : Int) : (wksI y = 52 ∨ wksI y = 53) ∧ (wksI y = 53 ↔ ftI y + 364 ≤ ydI y) ∧ ftI y + 7 * (wksI y - 1) ≤ ydI y := by
  have h := one_next y
  have h1 := yst_succ y
  have b := ydI_bd y
  have e1 : oneI y = yst y + 3 - (yst y + 6) % 7 := by unfold oneI; rfl
  have e2 : oneI (y + 1) = yst (y + 1) + 3 - (yst (y + 1) + 6) % 7 := by unfold oneI; rfl
  have e3 : ftI y = oneI y - yst y + 4 := by unfold ftI; rfl
  omega
theorem jan_one (y : Int) : mayB y 1 1 = true ∧ dnI y 1 1 = yst y := by
  refine ⟨may_of (by decide) (by rw [mdI_1]; decide), ?_⟩
  have e : cmN y (1 - 1 : Int).toNat = 0 := rfl
  unfold dnI
  rw [e]; omega
theorem jan_days {y : Int} (h1 : -9999 ≤ y) (h2 : y ≤ 9999) : dyV y 1 1 = yst y ∧ ckC y 1 1 = 0 := by
  have c := ckC_ok (jan_one y).1 (by omega)
  exact ⟨(dy_ok c).1.trans (jan_one y).2, c⟩
set_option maxHeartbeats 1600000 in
theorem pYearDays_p (y : Int) (w : World) : Calls Tryd.prog 29 #[.int .i64 y] w fun e w' => e = .returned (.int .i64 (ydI y)) ∧ w = w' := by
  have X1 := pLeap_p y
  rcases ydI_eq y with ⟨hl, E⟩ | ⟨hl, E⟩
  all_goals
    rw [hl] at X1
    have H1 := Lib.hid X1
    replace E := Lib.hid E
    clear X1 hl
    go_enter Tryd.func29, Tryd.ntmps29
    go_wp2_with fail
    refine (H1.out _).mono ?_
    rintro e w1 ⟨rfl, rfl⟩
    go_wp2
    go_ret
    exact ⟨by rw [E.out]; try rfl, rfl⟩
set_option maxHeartbeats 1600000 in
set_option maxRecDepth 100000 in
theorem pFirstThu_any (y : Int) (w : World) (hM : MD w) : Calls Tryd.prog 28 #[.int .i64 y] w fun e w' => e = .returned (.int .i64 (ftI y)) ∧ Below w.heap.size w w' := by
  obtain ⟨c, hc, r1, r2⟩ := ft_year y
  generalize hr : y.tmod 400 = r at *
  have X1 := pDays_any (2000 + r) 1 1
  rw [(jan_days (y := 2000 + r) (by omega) (by omega)).1, (jan_days (y := 2000 + r) (by omega) (by omega)).2] at X1
  have H1 := Lib.hid X1
  have H2 := Lib.hid (fun w => grow_of (pWeekday_p (yst (2000 + r)) w))
  have E : Hid (ftI y = (11 - wdI (yst (2000 + r))) % 7 + 1) := Lib.hid (by rw [← ft_wd, hc, ft_cycle])
  have b4 : 1 ≤ wdI (yst (2000 + r)) := by unfold wdI; omega
  have b5 : wdI (yst (2000 + r)) ≤ 7 := by unfold wdI; omega
  clear X1 hc
  generalize wdI (yst (2000 + r)) = W at *
  generalize yst (2000 + r) = N at *
  have b6 : 0 ≤ 11 - W := by omega
  replace hM := Lib.hid hM
  go_enter Tryd.func28, Tryd.ntmps28
  go_wp2_with fail
  
  refine (H1.out _ (by first | exact md_keep hM (Below.refl w.heap.size w) | exact md_keep hM ((Below.refl w.heap.size w).alloc (Nat.le_refl _) _) | exact md_keep hM (((Below.refl w.heap.size w).alloc (Nat.le_refl _) _).alloc (by simp <;> omega) _) | exact md_keep hM ((((Below.refl w.heap.size w).alloc (Nat.le_refl _) _).alloc (by simp <;> omega) _).alloc (by simp <;> omega) _))).mono ?_
  rintro e V1 ⟨rfl, hb1⟩
  have B1 : Hid (Below w.heap.size w V1) := by first | exact Lib.hid ((Below.refl w.heap.size w).trans (hb1.mono (by first | assumption | (simp <;> omega) | (simp; done)))) | exact Lib.hid (((Below.refl w.heap.size w).alloc (Nat.le_refl _) _).trans (hb1.mono (by first | assumption | (simp <;> omega) | (simp; done)))) | exact Lib.hid ((((Below.refl w.heap.size w).alloc (Nat.le_refl _) _).alloc (by simp <;> omega) _).trans (hb1.mono (by first | assumption | (simp <;> omega) | (simp; done)))) | exact Lib.hid (((((Below.refl w.heap.size w).alloc (Nat.le_refl _) _).alloc (by simp <;> omega) _).alloc (by simp <;> omega) _).trans (hb1.mono (by first | assumption | (simp <;> omega) | (simp; done))))
  clear hb1
  go_simp
  go_wp2_with fail
  refine (H2.out _).mono ?_
  rintro e V2 ⟨rfl, hb2⟩
  have B2 : Hid (Below w.heap.size w V2) := by first | exact Lib.hid ((B1.out).trans (hb2.mono (by have := B1.out.size; first | assumption | (simp <;> omega) | (simp; done)))) | exact Lib.hid (((B1.out).alloc (B1.out.size) _).trans (hb2.mono (by have := B1.out.size; first | assumption | (simp <;> omega) | (simp; done)))) | exact Lib.hid ((((B1.out).alloc (B1.out.size) _).alloc (by have := B1.out.size; simp <;> omega) _).trans (hb2.mono (by have := B1.out.size; first | assumption | (simp <;> omega) | (simp; done)))) | exact Lib.hid (((((B1.out).alloc (B1.out.size) _).alloc (by have := B1.out.size; simp <;> omega) _).alloc (by have := B1.out.size; simp <;> omega) _).trans (hb2.mono (by have := B1.out.size; first | assumption | (simp <;> omega) | (simp; done))))
  clear hb2
  go_simp
  go_wp2
  go_ret
  exact ⟨by rw [E.out]; try rfl, B2.out⟩
set_option maxHeartbeats 3200000 in
set_option maxRecDepth 100000 in
theorem pWeeks_any (y : Int) (w : World) (hM : MD w) : Calls Tryd.prog 13 #[.int .i64 y] w fun e w' => e = .returned (.int .i64 (wksI y)) ∧ Below w.heap.size w w' := by
  have H1 := Lib.hid (pFirstThu_any y)
  have H2 := Lib.hid (fun w => grow_of (pYearDays_p y w))
  obtain ⟨k1, k2, k3⟩ := ft_weeks y
  obtain ⟨f1, f2⟩ := ft_bd y
  obtain ⟨g1, g2⟩ := ydI_bd y
  generalize ftI y = F at *
  generalize ydI y = D at *
  generalize wksI y = W at *
  replace k1 := Lib.hid k1
  replace k2 := Lib.hid k2
  replace k3 := Lib.hid k3
  replace hM := Lib.hid hM
  go_enter Tryd.func13, Tryd.ntmps13
  go_wp2_with fail
  
  refine (H1.out _ (by first | exact md_keep hM (Below.refl w.heap.size w) | exact md_keep hM ((Below.refl w.heap.size w).alloc (Nat.le_refl _) _) | exact md_keep hM (((Below.refl w.heap.size w).alloc (Nat.le_refl _) _).alloc (by simp <;> omega) _) | exact md_keep hM ((((Below.refl w.heap.size w).alloc (Nat.le_refl _) _).alloc (by simp <;> omega) _).alloc (by simp <;> omega) _))).mono ?_
  rintro e V1 ⟨rfl, hb1⟩
  have B1 : Hid (Below w.heap.size w V1) := by first | exact Lib.hid ((Below.refl w.heap.size w).trans (hb1.mono (by first | assumption | (simp <;> omega) | (simp; done)))) | exact Lib.hid (((Below.refl w.heap.size w).alloc (Nat.le_refl _) _).trans (hb1.mono (by first | assumption | (simp <;> omega) | (simp; done)))) | exact Lib.hid ((((Below.refl w.heap.size w).alloc (Nat.le_refl _) _).alloc (by simp <;> omega) _).trans (hb1.mono (by first | assumption | (simp <;> omega) | (simp; done)))) | exact Lib.hid (((((Below.refl w.heap.size w).alloc (Nat.le_refl _) _).alloc (by simp <;> omega) _).alloc (by simp <;> omega) _).trans (hb1.mono (by first | assumption | (simp <;> omega) | (simp; done))))
  clear hb1
  go_simp
  go_wp2_with fail
  refine (H2.out _).mono ?_
  rintro e V2 ⟨rfl, hb2⟩
  have B2 : Hid (Below w.heap.size w V2) := by first | exact Lib.hid ((B1.out).trans (hb2.mono (by have := B1.out.size; first | assumption | (simp <;> omega) | (simp; done)))) | exact Lib.hid (((B1.out).alloc (B1.out.size) _).trans (hb2.mono (by have := B1.out.size; first | assumption | (simp <;> omega) | (simp; done)))) | exact Lib.hid ((((B1.out).alloc (B1.out.size) _).alloc (by have := B1.out.size; simp <;> omega) _).trans (hb2.mono (by have := B1.out.size; first | assumption | (simp <;> omega) | (simp; done)))) | exact Lib.hid (((((B1.out).alloc (B1.out.size) _).alloc (by have := B1.out.size; simp <;> omega) _).alloc (by have := B1.out.size; simp <;> omega) _).trans (hb2.mono (by have := B1.out.size; first | assumption | (simp <;> omega) | (simp; done))))
  clear hb2
  go_simp
  go_wp2
  go_loop [5, 11] (fun n t => ∃ k : Nat, k ≤ 53 ∧ t = .int .i64 (k : Int) ∧ ((k ≤ 52 ∧ n = .int .i64 (k : Int)) ∨ (k = 53 ∧ n = .int .i64 W))) (fun _ t => (53 - intOf t).toNat)
  case atStart => exact ⟨0, by omega, rfl, Or.inl ⟨by omega, rfl⟩⟩
  case round =>
    obtain ⟨k, hk, rfl, hn⟩ := hrel
    rcases hn with ⟨hk2, rfl⟩ | ⟨rfl, rfl⟩
    · have c0 : (k : Int) < 53 := by omega
      by_cases hq : F + 7 * (k : Int) ≤ D
      · go_wp2
        go_round
        case rel =>
          refine ⟨k + 1, by omega, by go_num, ?_⟩
          by_cases h52 : k = 52
          · subst h52
            exact Or.inr ⟨rfl, by rw [k2.out.2 (by omega)]; rfl⟩
          · exact Or.inl ⟨by omega, by go_num⟩
        case measure => simp [intOf]; omega
      · go_wp2
        go_round
        case rel =>
          have h52 : k = 52 := by omega
          subst h52
          refine ⟨53, by omega, by go_num, Or.inr ⟨rfl, ?_⟩⟩
          have e : W = 52 := by
            rcases k1.out with h | h
            · exact h
            · exfalso; have := k2.out.1 h; omega
          rw [e]; rfl
        case measure => simp [intOf]; omega
    · go_wp2
      go_ret
      exact ⟨rfl, B2.out⟩
/-- the week's Thursday. -/
theorem thu_in {y n : Int} (h1 : yst y ≤ n) (h2 : n < yst (y + 1)) :
    yst (woY y n) ≤ n - wdI n + 4 ∧ n - wdI n + 4 < yst (woY y n + 1) ∧ woW y n = (n - wdI n + 4 - yst (woY y n)) / 7 + 1 := by
  have h := wo_in h1 h2
  have h3 := one_next (woY y n)
  have e1 : oneI (woY y n) = yst (woY y n) + 3 - (yst (woY y n) + 6) % 7 := by unfold oneI; rfl
  have e2 : oneI (woY y n + 1) = yst (woY y n + 1) + 3 - (yst (woY y n + 1) + 6) % 7 := by unfold oneI; rfl
  have e : woW y n = (n - oneI (woY y n)) / 7 + 1 := by unfold woW; rfl
  generalize woY y n = Y at *
  generalize woW y n = W at *
  unfold wdI
  omega
/-- a date's week's Thursday is a date. -/
theorem thu_date {y m d : Int} (hm : mayB y m d = true) (y1 : -9999 ≤ y) (y2 : y ≤ 9999) : ∃ m' d', mayB (woY y (dnI y m d)) m' d' = true ∧ -9999 ≤ woY y (dnI y m d) ∧ woY y (dnI y m d) ≤ 9999 ∧
    dnI (woY y (dnI y m d)) m' d' = dnI y m d - wdI (dnI y m d) + 4 := by
  have e := dn_in hm
  have s1 := yst_mono y1
  have s3 := yst_succ y
  have s4 := yst_bounds
  have p := mayB_yes hm
  have s8 := yst_mono (show y + 1 ≤ 10000 by omega)
  have n1 : -4371587 ≤ dnI y m d := by omega
  have n2 : dnI y m d ≤ 2932896 := by omega
  obtain ⟨t1, t2, _⟩ := thu_in (y := y) (n := dnI y m d) (by omega) (by omega)
  have r1 : -4371587 ≤ dnI y m d - wdI (dnI y m d) + 4 := by unfold wdI; omega
  have r2 : dnI y m d - wdI (dnI y m d) + 4 ≤ 2932896 := by unfold wdI; omega
  obtain ⟨y', m', d', k1, k2, k3, k4⟩ := date_ex _ r1 r2
  have e' := dn_in k1
  have s' := yst_succ y'
  have p' := mayB_yes k1
  have : y' = woY y (dnI y m d) := year_one (n := dnI y' m' d') (by omega) (by omega) (by omega) (by omega)
  subst this
  exact ⟨m', d', k1, k2, k3, k4⟩
set_option maxHeartbeats 3200000 in
set_option maxRecDepth 100000 in
theorem pWOf_no (y m d : Int) (hc : ckC y m d ≠ 0) (w : World) (hM : MD w) : Calls Tryd.prog 8 #[.agg #[.int .i64 y, .int .i64 m, .int .i64 d]] w fun e w' => e = .returned (.tuple #[.int .i64 0, .int .i64 0, .int .i64 0, .int .i64 (ckC y m d)]) ∧ Below w.heap.size w w' := by
  have X1 := pDays_any y m d
  rw [(dy_no hc).1] at X1
  have H1 := Lib.hid X1
  clear X1
  generalize ckC y m d = E at *
  have f1 : (E != 0) = true := by rw [bne_iff_ne]; exact hc
  replace hM := Lib.hid hM
  go_enter Tryd.func8, Tryd.ntmps8
  refine wp_shut ?_
  go_wp2_with fail
  
  refine (H1.out _ (by first | exact md_keep hM ((Below.refl w.heap.size w).alloc (Nat.le_refl _) _))).mono ?_
  rintro e V1 ⟨rfl, hb1⟩
  have B1 := Lib.hid (((Below.refl w.heap.size w).alloc (Nat.le_refl _) _).trans (hb1.mono (by first | assumption | (simp <;> omega) | (simp; done))))
  have A1 := Lib.hid (row_call hb1 (heap_alloc_new _ _))
  clear hb1
  have A1_0 : V1.cell? ⟨w.heap.size, 0, none⟩ = some (.int .i64 y) := cell_of_row _ _ _ _ _ _ A1.out
  have A1_1 : V1.cell? ⟨w.heap.size, 1, none⟩ = some (.int .i64 m) := cell_of_row _ _ _ _ _ _ A1.out
  have A1_2 : V1.cell? ⟨w.heap.size, 2, none⟩ = some (.int .i64 d) := cell_of_row _ _ _ _ _ _ A1.out
  have zA1 := lt_of_heap A1.out
  go_simp
  go_wp2
  refine shut_ret (v := .tuple #[.int .i64 0, .int .i64 0, .int .i64 0, .int .i64 E]) (by simp [results, Tryd.results8, go_sem]) rfl ⟨rfl, ?_⟩
  exact B1.out
set_option maxHeartbeats 3200000 in
set_option maxRecDepth 100000 in
theorem pWOf_any (y m d : Int) (hc : ckC y m d = 0) (w : World) (hM : MD w) : Calls Tryd.prog 8 #[.agg #[.int .i64 y, .int .i64 m, .int .i64 d]] w fun e w' => e = .returned (.tuple #[.int .i64 (woY y (dnI y m d)), .int .i64 (woW y (dnI y m d)), .int .i64 (wdI (dnI y m d)), .int .i64 0]) ∧ Below w.heap.size w w' := by
  have X1 := pDays_any y m d
  obtain ⟨hm, y1, y2⟩ := of_ckC hc
  rw [hc, (dy_ok hc).1] at X1
  obtain ⟨m', d', k1, k2, k3, k4⟩ := thu_date hm y1 y2
  have e := dn_in hm
  have s1 := yst_mono y1
  have s3 := yst_succ y
  have s4 := yst_bounds
  have p := mayB_yes hm
  have s8 := yst_mono (show y + 1 ≤ 10000 by omega)
  have n1 : -4371587 ≤ dnI y m d := by omega
  have n2 : dnI y m d ≤ 2932896 := by omega
  obtain ⟨t1, t2, t3⟩ := thu_in (y := y) (n := dnI y m d) (by omega) (by omega)
  have X3 := pDateOf_any _ m' d' k1 k2 k3
  have X4 := pOrdinal_any (woY y (dnI y m d)) m' d'
  have c4 := ckC_ok k1 (by omega)
  rw [c4, (dy_ok c4).2, k4] at X4
  rw [k4] at X3
  have ws := yst_succ (woY y (dnI y m d))
  have wb := ydI_bd (woY y (dnI y m d))
  have w1 : 1 ≤ wdI (dnI y m d) := by unfold wdI; omega
  have w2 : wdI (dnI y m d) ≤ 7 := by unfold wdI; omega
  have H2 := Lib.hid (fun w => grow_of (pWeekday_p (dnI y m d) w))
  generalize woW y (dnI y m d) = WW at *
  generalize woY y (dnI y m d) = YY at *
  generalize wdI (dnI y m d) = K at *
  generalize dnI y m d = N at *
  generalize yst YY = S at *
  have o1 : 0 ≤ N - K + 4 - S := by omega
  have o2 : N - K + 4 - S ≤ 400 := by omega
  have E : Hid (WW = (N - K + 4 - S) / 7 + 1) := Lib.hid t3
  have H1 := Lib.hid X1
  have H3 := Lib.hid X3
  have H4 := Lib.hid X4
  clear X1 X3 X4 hc hm y1 y2 k1 k2 k3 k4 e s1 s3 s4 p s8 t1 t2 t3 c4 ws wb
  generalize N - K + 4 - S = O at *
  have o3 : 0 ≤ O + 1 - 1 := by omega
  have o4 : IntKind.i64.wrap (O + 1 - 1) = O := by rw [IntKind.wrap_i64]; omega
  have o5 : O.tdiv 7 = O / 7 := Int.tdiv_eq_ediv_of_nonneg o1
  replace hM := Lib.hid hM
  go_enter Tryd.func8, Tryd.ntmps8
  refine wp_shut ?_
  go_wp2_with fail
  
  refine (H1.out _ (by first | exact md_keep hM ((Below.refl w.heap.size w).alloc (Nat.le_refl _) _))).mono ?_
  rintro e V1 ⟨rfl, hb1⟩
  have B1 := Lib.hid (((Below.refl w.heap.size w).alloc (Nat.le_refl _) _).trans (hb1.mono (by first | assumption | (simp <;> omega) | (simp; done))))
  have A1 := Lib.hid (row_call hb1 (heap_alloc_new _ _))
  clear hb1
  have A1_0 : V1.cell? ⟨w.heap.size, 0, none⟩ = some (.int .i64 y) := cell_of_row _ _ _ _ _ _ A1.out
  have A1_1 : V1.cell? ⟨w.heap.size, 1, none⟩ = some (.int .i64 m) := cell_of_row _ _ _ _ _ _ A1.out
  have A1_2 : V1.cell? ⟨w.heap.size, 2, none⟩ = some (.int .i64 d) := cell_of_row _ _ _ _ _ _ A1.out
  have zA1 := lt_of_heap A1.out
  go_simp
  go_wp2_with fail
  refine (H2.out _).mono ?_
  rintro e V2 ⟨rfl, hb2⟩
  clear A1_0 A1_1 A1_2 zA1
  have B2 : Hid (Below w.heap.size w V2) := by first | exact Lib.hid ((B1.out).trans (hb2.mono (by have := B1.out.size; first | assumption | (simp <;> omega) | (simp; done)))) | exact Lib.hid (((B1.out).alloc (B1.out.size) _).trans (hb2.mono (by have := B1.out.size; first | assumption | (simp <;> omega) | (simp; done)))) | exact Lib.hid ((((B1.out).alloc (B1.out.size) _).alloc (by have := B1.out.size; simp <;> omega) _).trans (hb2.mono (by have := B1.out.size; first | assumption | (simp <;> omega) | (simp; done)))) | exact Lib.hid (((((B1.out).alloc (B1.out.size) _).alloc (by have := B1.out.size; simp <;> omega) _).alloc (by have := B1.out.size; simp <;> omega) _).trans (hb2.mono (by have := B1.out.size; first | assumption | (simp <;> omega) | (simp; done))))
  first | replace A1 := Lib.hid (row_call hb2 A1.out) | replace A1 := Lib.hid (row_call hb2 (row_alloc A1.out _)) | replace A1 := Lib.hid (row_call hb2 (row_alloc (row_alloc A1.out _) _)) | replace A1 := Lib.hid (row_call hb2 (row_alloc (row_alloc (row_alloc A1.out _) _) _))
  clear hb2
  have A1_0 : V2.cell? ⟨w.heap.size, 0, none⟩ = some (.int .i64 y) := cell_of_row _ _ _ _ _ _ A1.out
  have A1_1 : V2.cell? ⟨w.heap.size, 1, none⟩ = some (.int .i64 m) := cell_of_row _ _ _ _ _ _ A1.out
  have A1_2 : V2.cell? ⟨w.heap.size, 2, none⟩ = some (.int .i64 d) := cell_of_row _ _ _ _ _ _ A1.out
  have zA1 := lt_of_heap A1.out
  go_simp
  go_wp2_with fail
  refine (H3.out _ (by first | exact md_keep hM (B2.out) | exact md_keep hM ((B2.out).alloc (B2.out.size) _) | exact md_keep hM (((B2.out).alloc (B2.out.size) _).alloc (by have := B2.out.size; simp <;> omega) _) | exact md_keep hM ((((B2.out).alloc (B2.out.size) _).alloc (by have := B2.out.size; simp <;> omega) _).alloc (by have := B2.out.size; simp <;> omega) _))).mono ?_
  rintro e V3 ⟨rfl, hb3⟩
  clear A1_0 A1_1 A1_2 zA1
  have B3 : Hid (Below w.heap.size w V3) := by first | exact Lib.hid ((B2.out).trans (hb3.mono (by have := B2.out.size; first | assumption | (simp <;> omega) | (simp; done)))) | exact Lib.hid (((B2.out).alloc (B2.out.size) _).trans (hb3.mono (by have := B2.out.size; first | assumption | (simp <;> omega) | (simp; done)))) | exact Lib.hid ((((B2.out).alloc (B2.out.size) _).alloc (by have := B2.out.size; simp <;> omega) _).trans (hb3.mono (by have := B2.out.size; first | assumption | (simp <;> omega) | (simp; done)))) | exact Lib.hid (((((B2.out).alloc (B2.out.size) _).alloc (by have := B2.out.size; simp <;> omega) _).alloc (by have := B2.out.size; simp <;> omega) _).trans (hb3.mono (by have := B2.out.size; first | assumption | (simp <;> omega) | (simp; done))))
  first | replace A1 := Lib.hid (row_call hb3 A1.out) | replace A1 := Lib.hid (row_call hb3 (row_alloc A1.out _)) | replace A1 := Lib.hid (row_call hb3 (row_alloc (row_alloc A1.out _) _)) | replace A1 := Lib.hid (row_call hb3 (row_alloc (row_alloc (row_alloc A1.out _) _) _))
  clear hb3
  have A1_0 : V3.cell? ⟨w.heap.size, 0, none⟩ = some (.int .i64 y) := cell_of_row _ _ _ _ _ _ A1.out
  have A1_1 : V3.cell? ⟨w.heap.size, 1, none⟩ = some (.int .i64 m) := cell_of_row _ _ _ _ _ _ A1.out
  have A1_2 : V3.cell? ⟨w.heap.size, 2, none⟩ = some (.int .i64 d) := cell_of_row _ _ _ _ _ _ A1.out
  have zA1 := lt_of_heap A1.out
  go_simp
  go_wp2_with fail
  refine (H4.out _ (by first | exact md_keep hM ((B3.out).alloc (B3.out.size) _))).mono ?_
  rintro e V4 ⟨rfl, hb4⟩
  clear A1_0 A1_1 A1_2 zA1
  have nA1M1 := Lib.hid (lt_of_heap A1.out)
  have B4 := Lib.hid (((B3.out).alloc (B3.out.size) _).trans (hb4.mono (by have := B3.out.size; first | assumption | (simp <;> omega) | (simp; done))))
  replace A1 := Lib.hid (row_call hb4 (row_alloc A1.out _))
  have M1 := Lib.hid (row_call hb4 (heap_alloc_new _ _))
  clear hb4
  have A1_0 : V4.cell? ⟨w.heap.size, 0, none⟩ = some (.int .i64 y) := cell_of_row _ _ _ _ _ _ A1.out
  have A1_1 : V4.cell? ⟨w.heap.size, 1, none⟩ = some (.int .i64 m) := cell_of_row _ _ _ _ _ _ A1.out
  have A1_2 : V4.cell? ⟨w.heap.size, 2, none⟩ = some (.int .i64 d) := cell_of_row _ _ _ _ _ _ A1.out
  have M1_0 : V4.cell? ⟨V3.heap.size, 0, none⟩ = some (.int .i64 YY) := cell_of_row _ _ _ _ _ _ M1.out
  have M1_1 : V4.cell? ⟨V3.heap.size, 1, none⟩ = some (.int .i64 m') := cell_of_row _ _ _ _ _ _ M1.out
  have M1_2 : V4.cell? ⟨V3.heap.size, 2, none⟩ = some (.int .i64 d') := cell_of_row _ _ _ _ _ _ M1.out
  have zA1 := lt_of_heap A1.out
  have zM1 := lt_of_heap M1.out
  go_simp
  go_wp2
  refine shut_ret (v := .tuple #[.int .i64 YY, .int .i64 (O / 7 + 1), .int .i64 K, .int .i64 0]) (by simp [results, Tryd.results8, go_sem]) rfl ⟨by rw [E.out], ?_⟩
  exact B4.out
end Go.Proofs.YtoghogpcgdcboaaDoor
