/- Several texts in one: YrA, YrC. -/
import Derived.Test.YtafecnlaodgmkaaGreatDoorY2Sm
import Derived.Test.YtafecnlaodgmkaaGreatDoorY2RowS1
import Derived.Test.YtafecnlaodgmkaaGreatDoorY2Civ1
import Derived.LoopN
import Derived.BigQuiet
namespace Go.Proofs.YtafecnlaodgmkaaGreatDoor
set_option linter.unusedVariables false
set_option linter.unusedSimpArgs false
open Go.ChangeShapes Go.WideShapes Go.ChangeAt Go.RowKit
def okW (w : Int) : Bool := decide (1 ≤ w) && decide (w ≤ 7)
def okN (n : Int) : Bool := decide (1 ≤ n) && decide (n ≤ 31)
@[irreducible] def mayD (k n w : Int) : Bool := if k = 0 then okN n && decide (w = 0) else if k = 1 then okW w && decide (n = 0) else if k = 2 ∨ k = 3 then okW w && okN n else false
set_option maxHeartbeats 3200000 in
set_option maxRecDepth 100000 in
theorem rMayDay_any (k n wd : Int) (w : World) : Calls Tryz.prog 40 #[.agg #[.int .i64 k, .int .i64 n, .int .i64 wd]] w fun e w' => e = .returned (.bool (mayD k n wd)) ∧ Below w.heap.size w w' := by
  by_cases h0 : k = 0
  · subst h0
    have E : Hid (mayD 0 n wd = (okN n && decide (wd = 0))) := Lib.hid (by unfold mayD; rfl)
    go_enter Tryz.func40, Tryz.ntmps40
    go_wp2
    all_goals (go_ret; exact ⟨by rw [E.out]; first | rfl | (simp [okN, okW]; done) | (simp [okN, okW]; omega) | (simp [okN, okW]; rw [Bool.eq_iff_iff]; simp; omega), (Below.refl _ _).alloc (Nat.le_refl _) _⟩)
  · have b0 : (k == 0) = false := beq_eq_false_iff_ne.2 h0
    by_cases h1 : k = 1
    · subst h1
      have E : Hid (mayD 1 n wd = (okW wd && decide (n = 0))) := Lib.hid (by unfold mayD; rfl)
      clear h0 b0
      go_enter Tryz.func40, Tryz.ntmps40
      go_wp2
      all_goals (go_ret; exact ⟨by rw [E.out]; first | rfl | (simp [okN, okW]; done) | (simp [okN, okW]; omega) | (simp [okN, okW]; rw [Bool.eq_iff_iff]; simp; omega), (Below.refl _ _).alloc (Nat.le_refl _) _⟩)
    · have b1 : (k == 1) = false := beq_eq_false_iff_ne.2 h1
      by_cases h2 : k = 2
      · subst h2
        have E : Hid (mayD 2 n wd = (okW wd && okN n)) := Lib.hid (by unfold mayD; rfl)
        clear h0 b0 h1 b1
        go_enter Tryz.func40, Tryz.ntmps40
        go_wp2
        all_goals (go_ret; exact ⟨by rw [E.out]; first | rfl | (simp [okN, okW]; done) | (simp [okN, okW]; omega) | (simp [okN, okW]; rw [Bool.eq_iff_iff]; simp; omega), (Below.refl _ _).alloc (Nat.le_refl _) _⟩)
      · have b2 : (k == 2) = false := beq_eq_false_iff_ne.2 h2
        by_cases h3 : k = 3
        · subst h3
          have E : Hid (mayD 3 n wd = (okW wd && okN n)) := Lib.hid (by unfold mayD; rfl)
          clear h0 b0 h1 b1 h2 b2
          go_enter Tryz.func40, Tryz.ntmps40
          go_wp2
          all_goals (go_ret; exact ⟨by rw [E.out]; first | rfl | (simp [okN, okW]; done) | (simp [okN, okW]; omega) | (simp [okN, okW]; rw [Bool.eq_iff_iff]; simp; omega), (Below.refl _ _).alloc (Nat.le_refl _) _⟩)
        · have b3 : (k == 3) = false := beq_eq_false_iff_ne.2 h3
          have E : Hid (mayD k n wd = false) := Lib.hid (by unfold mayD; rw [if_neg h0, if_neg h1, if_neg (by omega)])
          replace h0 := Lib.hid h0
          replace h1 := Lib.hid h1
          replace h2 := Lib.hid h2
          replace h3 := Lib.hid h3
          go_enter Tryz.func40, Tryz.ntmps40
          go_wp2
          all_goals (go_ret; exact ⟨by rw [E.out]; first | rfl | (simp [okN, okW]; done) | (simp [okN, okW]; omega) | (simp [okN, okW]; rw [Bool.eq_iff_iff]; simp; omega), (Below.refl _ _).alloc (Nat.le_refl _) _⟩)
@[irreducible] def upTo (a w : Int) : Int := a + (w - wdI a) % 7
@[irreducible] def downTo (a w : Int) : Int := a - (wdI a - w) % 7
@[irreducible] def yrE (k n w y m : Int) : Int := if mayD k n w = false ∨ m < 1 ∨ 12 < m then 5 else if k = 0 ∧ mdI y m < n then 7 else if y < -9999 ∨ 10000 < y then 8 else 0
@[irreducible] def yrN (k n w y m : Int) : Int := if k = 0 then dnI y m 1 + n - 1 else if k = 1 then downTo (dnI y m 1 + mdI y m - 1) w else if k = 2 then upTo (dnI y m 1 + n - 1) w else downTo (dnI y m 1 + n - 1) w
def yrV (k n w y m : Int) : Int := if yrE k n w y m = 0 then yrN k n w y m else 0
theorem may_parts {k n w : Int} (h : mayD k n w = true) : (k = 0 ∧ 1 ≤ n ∧ n ≤ 31 ∧ w = 0) ∨ (k = 1 ∧ 1 ≤ w ∧ w ≤ 7 ∧ n = 0) ∨ ((k = 2 ∨ k = 3) ∧ 1 ≤ w ∧ w ≤ 7 ∧ 1 ≤ n ∧ n ≤ 31) := by
  unfold mayD okW okN at h
  split at h
  · left; simp at h; omega
  · split at h
    · right; left; simp at h; omega
    · split at h
      · right; right; simp at h; omega
      · cases h
theorem yr_bad {k n w y m : Int} (h : mayD k n w = false ∨ m < 1 ∨ 12 < m) : yrE k n w y m = 5 ∧ yrV k n w y m = 0 := by
  have e : yrE k n w y m = 5 := by unfold yrE; exact if_pos h
  exact ⟨e, by unfold yrV; rw [e]; rfl⟩
theorem yr_day {k n w y m : Int} (h : ¬ (mayD k n w = false ∨ m < 1 ∨ 12 < m)) (h2 : k = 0 ∧ mdI y m < n) : yrE k n w y m = 7 ∧ yrV k n w y m = 0 := by
  have e : yrE k n w y m = 7 := by unfold yrE; rw [if_neg h]; exact if_pos h2
  exact ⟨e, by unfold yrV; rw [e]; rfl⟩
theorem yr_range {k n w y m : Int} (h : ¬ (mayD k n w = false ∨ m < 1 ∨ 12 < m)) (h2 : ¬ (k = 0 ∧ mdI y m < n)) (h3 : y < -9999 ∨ 10000 < y) : yrE k n w y m = 8 ∧ yrV k n w y m = 0 := by
  have e : yrE k n w y m = 8 := by unfold yrE; rw [if_neg h, if_neg h2]; exact if_pos h3
  exact ⟨e, by unfold yrV; rw [e]; rfl⟩
theorem yr_ok {k n w y m : Int} (h : ¬ (mayD k n w = false ∨ m < 1 ∨ 12 < m)) (h2 : ¬ (k = 0 ∧ mdI y m < n)) (h3 : ¬ (y < -9999 ∨ 10000 < y)) : yrE k n w y m = 0 ∧ yrV k n w y m = yrN k n w y m := by
  have e : yrE k n w y m = 0 := by unfold yrE; rw [if_neg h, if_neg h2]; exact if_neg h3
  exact ⟨e, by unfold yrV; rw [if_pos e]⟩
end Go.Proofs.YtafecnlaodgmkaaGreatDoor
namespace Go.Proofs.YtafecnlaodgmkaaGreatDoor
set_option linter.unusedVariables false
set_option linter.unusedSimpArgs false
open Go.ChangeShapes Go.WideShapes Go.ChangeAt Go.RowKit
@[irreducible] def wiB (n lo hi : Int) : Bool := decide (lo ≤ n) && decide (n ≤ hi)
theorem wiB_yes {n lo hi : Int} (h1 : lo ≤ n) (h2 : n ≤ hi) : wiB n lo hi = true := by unfold wiB; rw [decide_eq_true h1, decide_eq_true h2]; rfl
theorem wiB_no {n lo hi : Int} (h : n < lo ∨ hi < n) : wiB n lo hi = false := by
  unfold wiB
  rcases h with h | h
  · rw [decide_eq_false (show ¬ lo ≤ n by omega)]; rfl
  · rw [decide_eq_false (show ¬ n ≤ hi by omega), Bool.and_false]
set_option maxHeartbeats 1600000 in
theorem yWithin_p (n lo hi : Int) (w : World) : Calls Tryz.prog 77 #[.int .i64 n, .int .i64 lo, .int .i64 hi] w fun e w' => e = .returned (.bool (wiB n lo hi)) ∧ w = w' := by
  by_cases h1 : lo ≤ n
  · by_cases h2 : n ≤ hi
    · have E := Lib.hid (wiB_yes h1 h2)
      go_enter Tryz.func77, Tryz.ntmps77
      go_wp2
      go_ret
      exact ⟨by rw [E.out]; simp [*], rfl⟩
    · have E := Lib.hid (wiB_no (n := n) (lo := lo) (hi := hi) (Or.inr (by omega)))
      go_enter Tryz.func77, Tryz.ntmps77
      go_wp2
      go_ret
      exact ⟨by rw [E.out]; simp [*], rfl⟩
  · have E := Lib.hid (wiB_no (n := n) (lo := lo) (hi := hi) (Or.inl (by omega)))
    go_enter Tryz.func77, Tryz.ntmps77
    go_wp2
    go_ret
    exact ⟨by rw [E.out]; simp [*], rfl⟩
@[irreducible] def hasB (f : Bool) (n most : Int) : Bool := if f = true then wiB n 1 most else n == 0
set_option maxHeartbeats 1600000 in
theorem yHas_p (f : Bool) (n most : Int) (w : World) : Calls Tryz.prog 108 #[.bool f, .int .i64 n, .int .i64 most] w fun e w' => e = .returned (.bool (hasB f n most)) ∧ w = w' := by
  have H1 := Lib.hid (yWithin_p n 1 most)
  cases f
  · have E : Hid (hasB false n most = (n == 0)) := Lib.hid (by unfold hasB; rfl)
    go_enter Tryz.func108, Tryz.ntmps108
    go_wp2
    all_goals (go_ret; exact ⟨by rw [E.out]; rfl, rfl⟩)
  · have E : Hid (hasB true n most = wiB n 1 most) := Lib.hid (by unfold hasB; rfl)
    generalize wiB n 1 most = b at *
    go_enter Tryz.func108, Tryz.ntmps108
    go_wp2_with fail
    refine (H1.out _).mono ?_
    rintro e w1 ⟨rfl, rfl⟩
    go_wp2
    go_ret
    exact ⟨by rw [E.out]; rfl, rfl⟩
theorem may_has {k n w : Int} {b1 b2 : Bool} (h : (k = 0 ∧ b1 = true ∧ b2 = false) ∨ (k = 1 ∧ b1 = false ∧ b2 = true) ∨ (k = 2 ∧ b1 = true ∧ b2 = true) ∨ (k = 3 ∧ b1 = true ∧ b2 = true)) : mayD k n w = (hasB b1 n 31 && hasB b2 w 7) := by
  unfold mayD hasB wiB okN okW
  rcases h with ⟨rfl, rfl, rfl⟩ | ⟨rfl, rfl, rfl⟩ | ⟨rfl, rfl, rfl⟩ | ⟨rfl, rfl, rfl⟩
  all_goals
    rw [Bool.eq_iff_iff]
    simp
    try omega
set_option maxHeartbeats 3200000 in
set_option maxRecDepth 100000 in
theorem yTells_any (b1 b2 : Bool) (f1 f2 : Value) (k n wd : Int) (w : World) : Calls Tryz.prog 76 #[.agg #[.bool b1, .bool b2, f1, f2], .agg #[.int .i64 k, .int .i64 n, .int .i64 wd]] w fun e w' => e = .returned (.bool (hasB b1 n 31 && hasB b2 wd 7)) ∧ Below w.heap.size w w' := by
  have H1 := Lib.hid (fun w => grow_of (yHas_p b1 n 31 w))
  have H2 := Lib.hid (fun w => grow_of (yHas_p b2 wd 7 w))
  generalize hasB b1 n 31 = x at *
  generalize hasB b2 wd 7 = y at *
  cases x
  · go_enter Tryz.func76, Tryz.ntmps76
    go_wp2_with fail
    
    refine (H1.out _).mono ?_
    rintro e V1 ⟨rfl, hb1⟩
    have B1 := Lib.hid ((((Below.refl w.heap.size w).alloc (Nat.le_refl _) _).alloc (by simp <;> omega) _).trans (hb1.mono (by first | assumption | (simp <;> omega) | (simp; done))))
    have A1 := Lib.hid (row_call hb1 (row_alloc (heap_alloc_new _ _) _))
    have A2 := Lib.hid (row_at (k' := w.heap.size + 1) (by simp) (row_call hb1 (heap_alloc_new _ _)))
    clear hb1
    obtain ⟨A1_0, A1_1, A1_2, A1_3⟩ := qw4 A1
    obtain ⟨A2_0, A2_1, A2_2⟩ := qw3 A2
    have zA1 := lt_of_heap A1.out
    have zA2 := lt_of_heap A2.out
    go_simp
    go_wp2
    go_ret
    exact ⟨by first | rfl | simp, B1.out⟩
  · go_enter Tryz.func76, Tryz.ntmps76
    go_wp2_with fail
    
    refine (H1.out _).mono ?_
    rintro e V1 ⟨rfl, hb1⟩
    have B1 := Lib.hid ((((Below.refl w.heap.size w).alloc (Nat.le_refl _) _).alloc (by simp <;> omega) _).trans (hb1.mono (by first | assumption | (simp <;> omega) | (simp; done))))
    have A1 := Lib.hid (row_call hb1 (row_alloc (heap_alloc_new _ _) _))
    have A2 := Lib.hid (row_at (k' := w.heap.size + 1) (by simp) (row_call hb1 (heap_alloc_new _ _)))
    clear hb1
    obtain ⟨A1_0, A1_1, A1_2, A1_3⟩ := qw4 A1
    obtain ⟨A2_0, A2_1, A2_2⟩ := qw3 A2
    have zA1 := lt_of_heap A1.out
    have zA2 := lt_of_heap A2.out
    go_simp
    go_wp2_with fail
    refine (H2.out _).mono ?_
    rintro e V2 ⟨rfl, hb2⟩
    clear A1_0 A1_1 A1_2 A1_3 zA1 A2_0 A2_1 A2_2 zA2
    have B2 : Hid (Below w.heap.size w V2) := nbx B1 hb2
    replace A1 := rcx hb2 A1
    replace A2 := rcx hb2 A2
    clear hb2
    obtain ⟨A1_0, A1_1, A1_2, A1_3⟩ := qw4 A1
    obtain ⟨A2_0, A2_1, A2_2⟩ := qw3 A2
    have zA1 := lt_of_heap A1.out
    have zA2 := lt_of_heap A2.out
    go_simp
    go_wp2
    go_ret
    exact ⟨by first | rfl | simp, B2.out⟩
set_option maxHeartbeats 1600000 in
theorem yBeyond_any (k n wd M : Int) (w : World) : Calls Tryz.prog 101 #[.agg #[.int .i64 k, .int .i64 n, .int .i64 wd], .int .i64 M] w fun e w' => e = .returned (.bool (decide (M < n))) ∧ Below w.heap.size w w' := by
  go_enter Tryz.func101, Tryz.ntmps101
  go_wp2
  all_goals (go_ret; exact ⟨by first | rfl | simp [*], (Below.refl _ _).alloc (Nat.le_refl _) _⟩)
set_option maxHeartbeats 1600000 in
theorem yNever_any (k n wd M : Int) (w : World) : Calls Tryz.prog 103 #[.agg #[.int .i64 k, .int .i64 n, .int .i64 wd], .int .i64 M] w fun e w' => e = .returned (.bool false) ∧ Below w.heap.size w w' := by
  go_enter Tryz.func103, Tryz.ntmps103
  go_wp2
  all_goals (go_ret; exact ⟨by first | rfl | simp [*], (Below.refl _ _).alloc (Nat.le_refl _) _⟩)
theorem wd_in (d : Int) : 1 ≤ wdI d ∧ wdI d ≤ 7 := by unfold wdI; omega
set_option maxHeartbeats 1600000 in
theorem yAhead_p (a wd : Int) (ha : -2000000000 ≤ a ∧ a ≤ 2000000000) (hw : 1 ≤ wd ∧ wd ≤ 7) (w : World) : Calls Tryz.prog 130 #[.int .i64 a, .int .i64 wd] w fun e w' => e = .returned (.int .i64 (downTo a wd)) ∧ w = w' := by
  have H1 := Lib.hid (pWeekday_p a)
  have b := wd_in a
  have E0 : downTo a wd = a - (wdI a - wd) % 7 := by unfold downTo; rfl
  generalize wdI a = D at *
  have p0 : 0 ≤ D - wd + 7 := by omega
  have E := Lib.hid E0
  clear E0
  go_enter Tryz.func130, Tryz.ntmps130
  go_wp2_with fail
  refine (H1.out _).mono ?_
  rintro e w1 ⟨rfl, rfl⟩
  go_wp2
  go_ret
  exact ⟨by rw [E.out]; try rfl, rfl⟩
set_option maxHeartbeats 1600000 in
theorem yBehind_p (a wd : Int) (ha : -2000000000 ≤ a ∧ a ≤ 2000000000) (hw : 1 ≤ wd ∧ wd ≤ 7) (w : World) : Calls Tryz.prog 131 #[.int .i64 a, .int .i64 wd] w fun e w' => e = .returned (.int .i64 (upTo a wd)) ∧ w = w' := by
  have H1 := Lib.hid (pWeekday_p a)
  have b := wd_in a
  have E0 : upTo a wd = a + (wd - wdI a) % 7 := by unfold upTo; rfl
  generalize wdI a = D at *
  have p0 : 0 ≤ wd - D + 7 := by omega
  have E := Lib.hid E0
  clear E0
  go_enter Tryz.func131, Tryz.ntmps131
  go_wp2_with fail
  refine (H1.out _).mono ?_
  rintro e w1 ⟨rfl, rfl⟩
  go_wp2
  go_ret
  exact ⟨by rw [E.out]; try rfl, rfl⟩
set_option maxHeartbeats 1600000 in
set_option maxRecDepth 100000 in
theorem yDated_any (k n wd F M : Int) (hF : -1000000000 ≤ F ∧ F ≤ 1000001000) (hn : 0 ≤ n ∧ n ≤ 31) (w : World) : Calls Tryz.prog 102 #[.agg #[.int .i64 k, .int .i64 n, .int .i64 wd], .agg #[.int .i64 F, .int .i64 M]] w fun e w' => e = .returned (.int .i64 (F + n - 1)) ∧ Below w.heap.size w w' := by
  go_enter Tryz.func102, Tryz.ntmps102
  go_wp2
  go_ret
  exact ⟨by first | rfl | simp [*], ((Below.refl _ _).alloc (Nat.le_refl _) _).alloc (by simp) _⟩
set_option maxHeartbeats 1600000 in
set_option maxRecDepth 100000 in
theorem yLast_any (k n wd F M : Int) (hF : -1000000000 ≤ F ∧ F ≤ 1000001000) (hM : 0 ≤ M ∧ M ≤ 31) (hw : 1 ≤ wd ∧ wd ≤ 7) (w : World) : Calls Tryz.prog 104 #[.agg #[.int .i64 k, .int .i64 n, .int .i64 wd], .agg #[.int .i64 F, .int .i64 M]] w fun e w' => e = .returned (.int .i64 (downTo (F + M - 1) wd)) ∧ Below w.heap.size w w' := by
  have H1 := Lib.hid (fun w => grow_of (yAhead_p (F + M - 1) wd (by omega) hw w))
  generalize downTo (F + M - 1) wd = R at *
  go_enter Tryz.func104, Tryz.ntmps104
  go_wp2_with fail
  
  refine (H1.out _).mono ?_
  rintro e V1 ⟨rfl, hb1⟩
  have B1 := Lib.hid ((((Below.refl w.heap.size w).alloc (Nat.le_refl _) _).alloc (by simp <;> omega) _).trans (hb1.mono (by first | assumption | (simp <;> omega) | (simp; done))))
  have A1 := Lib.hid (row_call hb1 (row_alloc (heap_alloc_new _ _) _))
  have A2 := Lib.hid (row_at (k' := w.heap.size + 1) (by simp) (row_call hb1 (heap_alloc_new _ _)))
  clear hb1
  obtain ⟨A1_0, A1_1, A1_2⟩ := qw3 A1
  obtain ⟨A2_0, A2_1⟩ := qw2 A2
  have zA1 := lt_of_heap A1.out
  have zA2 := lt_of_heap A2.out
  go_simp
  go_wp2
  go_ret
  exact ⟨by first | rfl | simp, B1.out⟩
set_option maxHeartbeats 1600000 in
set_option maxRecDepth 100000 in
theorem yFrom_any (k n wd F M : Int) (hF : -1000000000 ≤ F ∧ F ≤ 1000001000) (hn : 0 ≤ n ∧ n ≤ 31) (hw : 1 ≤ wd ∧ wd ≤ 7) (w : World) : Calls Tryz.prog 105 #[.agg #[.int .i64 k, .int .i64 n, .int .i64 wd], .agg #[.int .i64 F, .int .i64 M]] w fun e w' => e = .returned (.int .i64 (upTo (F + n - 1) wd)) ∧ Below w.heap.size w w' := by
  have H1 := Lib.hid (yDated_any k n wd F M hF hn)
  have H2 := Lib.hid (fun w => grow_of (yBehind_p (F + n - 1) wd (by omega) hw w))
  generalize upTo (F + n - 1) wd = R at *
  generalize F + n - 1 = G at *
  go_enter Tryz.func105, Tryz.ntmps105
  go_wp2_with fail
  
  obtain ⟨W0, hW0⟩ : ∃ W0, W0 = ((w.alloc (Obj.cells #[Value.int .i64 k, Value.int .i64 n, Value.int .i64 wd] 56)).alloc (Obj.cells #[Value.int .i64 F, Value.int .i64 M] 127)) := ⟨_, rfl⟩
  have A1 := Lib.hid (row_at (k' := w.heap.size) (by simp) (row_by hW0 (row_alloc (heap_alloc_new _ _) _)))
  have A2 := Lib.hid (row_at (k' := w.heap.size + 1) (by simp) (row_by hW0 (heap_alloc_new _ _)))
  have HB0 := Lib.hid (below_by hW0 (((Below.refl w.heap.size w).alloc (by simp <;> omega) _).alloc (by simp <;> omega) _))
  have HW0 := Lib.hid hW0
  clear hW0
  obtain ⟨A1_0, A1_1, A1_2⟩ := qw3 A1
  have zA1 := lt_of_heap A1.out
  obtain ⟨A2_0, A2_1⟩ := qw2 A2
  have zA2 := lt_of_heap A2.out
  try rw [← HW0.out]
  go_cut [4] (fun s4 wx => s4 = .int .i64 R ∧ Below W0.heap.size W0 wx)
  case first =>
    go_region_held3 (fun w' => Below W0.heap.size W0 w' ∧ w'.cell? ⟨w.heap.size, 0, none⟩ = some (.int .i64 k) ∧ w'.cell? ⟨w.heap.size, 1, none⟩ = some (.int .i64 n) ∧ w'.cell? ⟨w.heap.size, 2, none⟩ = some (.int .i64 wd) ∧ w'.cell? ⟨w.heap.size + 1, 0, none⟩ = some (.int .i64 F) ∧ w'.cell? ⟨w.heap.size + 1, 1, none⟩ = some (.int .i64 M))
    (first
      | ((try go_split_ands); refine ⟨(Below.refl _ _).drew, ?_, ?_, ?_, ?_, ?_⟩ <;> first | assumption | (rw [World.cell?_drew]; assumption))
      | ((try go_split_ands); refine ⟨keepS (W0 := W0) ?_ hb1, cellS (W0 := W0) ?_ hb1 ?_ ?_, cellS (W0 := W0) ?_ hb1 ?_ ?_, cellS (W0 := W0) ?_ hb1 ?_ ?_, cellS (W0 := W0) ?_ hb1 ?_ ?_, cellS (W0 := W0) ?_ hb1 ?_ ?_⟩ <;> first | assumption | omega)
      | ((try go_split_ands); refine ⟨keepA (W0 := W0) ?_ _, cellA (W0 := W0) ?_ _ ?_ ?_, cellA (W0 := W0) ?_ _ ?_ ?_, cellA (W0 := W0) ?_ _ ?_ ?_, cellA (W0 := W0) ?_ _ ?_ ?_, cellA (W0 := W0) ?_ _ ?_ ?_⟩ <;> first | assumption | omega)
      | ((try go_split_ands); refine ⟨keepAd (W0 := W0) ?_ _, cellAd (W0 := W0) ?_ _ ?_ ?_, cellAd (W0 := W0) ?_ _ ?_ ?_, cellAd (W0 := W0) ?_ _ ?_ ?_, cellAd (W0 := W0) ?_ _ ?_ ?_, cellAd (W0 := W0) ?_ _ ?_ ?_⟩ <;> first | assumption | omega | exact Below.refl _ _)
      | ((try go_split_ands); (with_reducible refine ⟨keep3 (W0 := W0) ?_ ?_ _ _ _, cell3 (W0 := W0) ?_ _ _ _ ?_ ?_, cell3 (W0 := W0) ?_ _ _ _ ?_ ?_, cell3 (W0 := W0) ?_ _ _ _ ?_ ?_, cell3 (W0 := W0) ?_ _ _ _ ?_ ?_, cell3 (W0 := W0) ?_ _ _ _ ?_ ?_⟩) <;> first | assumption | omega | exact Nat.le_refl _)
      | ((try go_split_ands); refine ⟨keep2 (W0 := W0) ?_ ?_ _ _, cell2 (W0 := W0) ?_ _ _ ?_ ?_, cell2 (W0 := W0) ?_ _ _ ?_ ?_, cell2 (W0 := W0) ?_ _ _ ?_ ?_, cell2 (W0 := W0) ?_ _ _ ?_ ?_, cell2 (W0 := W0) ?_ _ _ ?_ ?_⟩ <;> first | assumption | omega | exact Nat.le_refl _)
      | ((try go_split_ands); refine ⟨keepZ (W0 := W0) ?_ ?_ _, cellZ (W0 := W0) ?_ _ ?_ ?_, cellZ (W0 := W0) ?_ _ ?_ ?_, cellZ (W0 := W0) ?_ _ ?_ ?_, cellZ (W0 := W0) ?_ _ ?_ ?_, cellZ (W0 := W0) ?_ _ ?_ ?_⟩ <;> first | assumption | omega | exact Nat.le_refl _ | exact ⟨_, by assumption⟩))
    (first | (go_at_call 102; (with_reducible refine (H1.out _).mono ?_); rintro e w1 ⟨rfl, hb1⟩; (try go_split_ands); have hge : W0.heap.size ≤ w1.heap.size := (by first | (refine (keepS (W0 := W0) ?_ hb1).size; assumption) | exact (hb1.size : W0.heap.size ≤ w1.heap.size)); (try have hrow := row_call hb1 hrow); (try have hrow := row_new hb1); (try have hrow := row_newd hb1); have hl1 := lt_below hb1; obtain ⟨hc1, hf1⟩ := bcell hb1; (try (have hrc := row_cellA hrow; clear hc1 hf1)); (try have hrf := row_frozA hrow)) | (go_at_call 131; (with_reducible refine (H2.out _).mono ?_); rintro e w1 ⟨rfl, hb1⟩; (try go_split_ands); have hge : W0.heap.size ≤ w1.heap.size := (by first | (refine (keepS (W0 := W0) ?_ hb1).size; assumption) | exact (hb1.size : W0.heap.size ≤ w1.heap.size)); (try have hrow := row_call hb1 hrow); (try have hrow := row_new hb1); (try have hrow := row_newd hb1); have hl1 := lt_below hb1; obtain ⟨hc1, hf1⟩ := bcell hb1; (try (have hrc := row_cellA hrow; clear hc1 hf1)); (try have hrf := row_frozA hrow)))
    all_goals (try go_split_ands)
    all_goals (go_wp2_with fail; go_meet; refine ⟨rfl, ?_⟩)
    all_goals first | (with_reducible assumption) | (with_reducible exact heap_alloc_new _ _) | (with_reducible exact row_set3 (by assumption) _ _ _) | assumption | exact heap_alloc_new _ _ | exact row_set (by assumption) _ _
  case rest =>
    obtain ⟨rfl, hB⟩ := hcut
    obtain ⟨V1, rfl⟩ : ∃ V, V = wc := ⟨_, rfl⟩
    clear A1_0 A1_1 A1_2 zA1 A2_0 A2_1 zA2
    replace A1 := Lib.hid (row_call hB A1.out)
    replace A2 := Lib.hid (row_call hB A2.out)
    have B1 := Lib.hid (HB0.out.trans (hB.mono HB0.out.size))
    clear hB
    obtain ⟨A1_0, A1_1, A1_2⟩ := qw3 A1
    have zA1 := lt_of_heap A1.out
    obtain ⟨A2_0, A2_1⟩ := qw2 A2
    have zA2 := lt_of_heap A2.out
    go_wp2
    go_ret
    exact ⟨rfl, B1.out⟩
set_option maxHeartbeats 1600000 in
set_option maxRecDepth 100000 in
theorem yBefore_any (k n wd F M : Int) (hF : -1000000000 ≤ F ∧ F ≤ 1000001000) (hn : 0 ≤ n ∧ n ≤ 31) (hw : 1 ≤ wd ∧ wd ≤ 7) (w : World) : Calls Tryz.prog 106 #[.agg #[.int .i64 k, .int .i64 n, .int .i64 wd], .agg #[.int .i64 F, .int .i64 M]] w fun e w' => e = .returned (.int .i64 (downTo (F + n - 1) wd)) ∧ Below w.heap.size w w' := by
  have H1 := Lib.hid (yDated_any k n wd F M hF hn)
  have H2 := Lib.hid (fun w => grow_of (yAhead_p (F + n - 1) wd (by omega) hw w))
  generalize downTo (F + n - 1) wd = R at *
  generalize F + n - 1 = G at *
  go_enter Tryz.func106, Tryz.ntmps106
  go_wp2_with fail
  
  obtain ⟨W0, hW0⟩ : ∃ W0, W0 = ((w.alloc (Obj.cells #[Value.int .i64 k, Value.int .i64 n, Value.int .i64 wd] 56)).alloc (Obj.cells #[Value.int .i64 F, Value.int .i64 M] 127)) := ⟨_, rfl⟩
  have A1 := Lib.hid (row_at (k' := w.heap.size) (by simp) (row_by hW0 (row_alloc (heap_alloc_new _ _) _)))
  have A2 := Lib.hid (row_at (k' := w.heap.size + 1) (by simp) (row_by hW0 (heap_alloc_new _ _)))
  have HB0 := Lib.hid (below_by hW0 (((Below.refl w.heap.size w).alloc (by simp <;> omega) _).alloc (by simp <;> omega) _))
  have HW0 := Lib.hid hW0
  clear hW0
  obtain ⟨A1_0, A1_1, A1_2⟩ := qw3 A1
  have zA1 := lt_of_heap A1.out
  obtain ⟨A2_0, A2_1⟩ := qw2 A2
  have zA2 := lt_of_heap A2.out
  try rw [← HW0.out]
  go_cut [4] (fun s4 wx => s4 = .int .i64 R ∧ Below W0.heap.size W0 wx)
  case first =>
    go_region_held3 (fun w' => Below W0.heap.size W0 w' ∧ w'.cell? ⟨w.heap.size, 0, none⟩ = some (.int .i64 k) ∧ w'.cell? ⟨w.heap.size, 1, none⟩ = some (.int .i64 n) ∧ w'.cell? ⟨w.heap.size, 2, none⟩ = some (.int .i64 wd) ∧ w'.cell? ⟨w.heap.size + 1, 0, none⟩ = some (.int .i64 F) ∧ w'.cell? ⟨w.heap.size + 1, 1, none⟩ = some (.int .i64 M))
    (first
      | ((try go_split_ands); refine ⟨(Below.refl _ _).drew, ?_, ?_, ?_, ?_, ?_⟩ <;> first | assumption | (rw [World.cell?_drew]; assumption))
      | ((try go_split_ands); refine ⟨keepS (W0 := W0) ?_ hb1, cellS (W0 := W0) ?_ hb1 ?_ ?_, cellS (W0 := W0) ?_ hb1 ?_ ?_, cellS (W0 := W0) ?_ hb1 ?_ ?_, cellS (W0 := W0) ?_ hb1 ?_ ?_, cellS (W0 := W0) ?_ hb1 ?_ ?_⟩ <;> first | assumption | omega)
      | ((try go_split_ands); refine ⟨keepA (W0 := W0) ?_ _, cellA (W0 := W0) ?_ _ ?_ ?_, cellA (W0 := W0) ?_ _ ?_ ?_, cellA (W0 := W0) ?_ _ ?_ ?_, cellA (W0 := W0) ?_ _ ?_ ?_, cellA (W0 := W0) ?_ _ ?_ ?_⟩ <;> first | assumption | omega)
      | ((try go_split_ands); refine ⟨keepAd (W0 := W0) ?_ _, cellAd (W0 := W0) ?_ _ ?_ ?_, cellAd (W0 := W0) ?_ _ ?_ ?_, cellAd (W0 := W0) ?_ _ ?_ ?_, cellAd (W0 := W0) ?_ _ ?_ ?_, cellAd (W0 := W0) ?_ _ ?_ ?_⟩ <;> first | assumption | omega | exact Below.refl _ _)
      | ((try go_split_ands); (with_reducible refine ⟨keep3 (W0 := W0) ?_ ?_ _ _ _, cell3 (W0 := W0) ?_ _ _ _ ?_ ?_, cell3 (W0 := W0) ?_ _ _ _ ?_ ?_, cell3 (W0 := W0) ?_ _ _ _ ?_ ?_, cell3 (W0 := W0) ?_ _ _ _ ?_ ?_, cell3 (W0 := W0) ?_ _ _ _ ?_ ?_⟩) <;> first | assumption | omega | exact Nat.le_refl _)
      | ((try go_split_ands); refine ⟨keep2 (W0 := W0) ?_ ?_ _ _, cell2 (W0 := W0) ?_ _ _ ?_ ?_, cell2 (W0 := W0) ?_ _ _ ?_ ?_, cell2 (W0 := W0) ?_ _ _ ?_ ?_, cell2 (W0 := W0) ?_ _ _ ?_ ?_, cell2 (W0 := W0) ?_ _ _ ?_ ?_⟩ <;> first | assumption | omega | exact Nat.le_refl _)
      | ((try go_split_ands); refine ⟨keepZ (W0 := W0) ?_ ?_ _, cellZ (W0 := W0) ?_ _ ?_ ?_, cellZ (W0 := W0) ?_ _ ?_ ?_, cellZ (W0 := W0) ?_ _ ?_ ?_, cellZ (W0 := W0) ?_ _ ?_ ?_, cellZ (W0 := W0) ?_ _ ?_ ?_⟩ <;> first | assumption | omega | exact Nat.le_refl _ | exact ⟨_, by assumption⟩))
    (first | (go_at_call 102; (with_reducible refine (H1.out _).mono ?_); rintro e w1 ⟨rfl, hb1⟩; (try go_split_ands); have hge : W0.heap.size ≤ w1.heap.size := (by first | (refine (keepS (W0 := W0) ?_ hb1).size; assumption) | exact (hb1.size : W0.heap.size ≤ w1.heap.size)); (try have hrow := row_call hb1 hrow); (try have hrow := row_new hb1); (try have hrow := row_newd hb1); have hl1 := lt_below hb1; obtain ⟨hc1, hf1⟩ := bcell hb1; (try (have hrc := row_cellA hrow; clear hc1 hf1)); (try have hrf := row_frozA hrow)) | (go_at_call 130; (with_reducible refine (H2.out _).mono ?_); rintro e w1 ⟨rfl, hb1⟩; (try go_split_ands); have hge : W0.heap.size ≤ w1.heap.size := (by first | (refine (keepS (W0 := W0) ?_ hb1).size; assumption) | exact (hb1.size : W0.heap.size ≤ w1.heap.size)); (try have hrow := row_call hb1 hrow); (try have hrow := row_new hb1); (try have hrow := row_newd hb1); have hl1 := lt_below hb1; obtain ⟨hc1, hf1⟩ := bcell hb1; (try (have hrc := row_cellA hrow; clear hc1 hf1)); (try have hrf := row_frozA hrow)))
    all_goals (try go_split_ands)
    all_goals (go_wp2_with fail; go_meet; refine ⟨rfl, ?_⟩)
    all_goals first | (with_reducible assumption) | (with_reducible exact heap_alloc_new _ _) | (with_reducible exact row_set3 (by assumption) _ _ _) | assumption | exact heap_alloc_new _ _ | exact row_set (by assumption) _ _
  case rest =>
    obtain ⟨rfl, hB⟩ := hcut
    obtain ⟨V1, rfl⟩ : ∃ V, V = wc := ⟨_, rfl⟩
    clear A1_0 A1_1 A1_2 zA1 A2_0 A2_1 zA2
    replace A1 := Lib.hid (row_call hB A1.out)
    replace A2 := Lib.hid (row_call hB A2.out)
    have B1 := Lib.hid (HB0.out.trans (hB.mono HB0.out.size))
    clear hB
    obtain ⟨A1_0, A1_1, A1_2⟩ := qw3 A1
    have zA1 := lt_of_heap A1.out
    obtain ⟨A2_0, A2_1⟩ := qw2 A2
    have zA2 := lt_of_heap A2.out
    go_wp2
    go_ret
    exact ⟨rfl, B1.out⟩
theorem dn_400 (y m d : Int) : dnI (y + 400) m d = dnI y m d + 146097 := by
  have hl : lpB (y + 400) = lpB y := by unfold lpB; rw [show (y + 400) % 4 = y % 4 by omega, show (y + 400) % 100 = y % 100 by omega, show (y + 400) % 400 = y % 400 by omega]
  have hm : ∀ j, mdI (y + 400) j = mdI y j := by intro j; unfold mdI; rw [hl]
  have hc : ∀ k, cmN (y + 400) k = cmN y k := by
    intro k
    induction k with
    | zero => rfl
    | succ k ih => show cmN (y + 400) k + mdI (y + 400) _ = cmN y k + mdI y _; rw [ih, hm]
  unfold dnI; rw [yst_400, hc]; omega
set_option maxHeartbeats 3200000 in
set_option maxRecDepth 100000 in
theorem yFirst_any (y m : Int) (hy : -9999 ≤ y ∧ y ≤ 10000) (hm : 1 ≤ m ∧ m ≤ 12) (w : World) (hM : MD w) : Calls Tryz.prog 78 #[.int .i64 y, .int .i64 m] w fun e w' => e = .returned (.int .i64 (dnI y m 1)) ∧ Below w.heap.size w w' := by
  obtain ⟨y1, y2⟩ := hy
  obtain ⟨b1, b2⟩ := dn_bd (y := y) (m := m) (d := 1) (by omega) hm (by decide)
  have h1 : ∀ y, 1 ≤ mdI y m := by intro y; unfold mdI; repeat' split
                                   all_goals omega
  by_cases hb : 9999 < y
  · have X1 := pDays_any (y - 400) m 1
    have e := ckC_ok (y := y - 400) (may_of (m := m) (by omega) (h1 (y - 400))) (by omega)
    rw [(dy_ok e).1, e] at X1
    have E : Hid (dnI y m 1 = dnI (y - 400) m 1 + 146097) := Lib.hid (by have := dn_400 (y - 400) m 1; rw [show y - 400 + 400 = y by omega] at this; exact this)
    have b3 : -2000000000 ≤ dnI (y - 400) m 1 ∧ dnI (y - 400) m 1 ≤ 2000000000 := by have := E.out; omega
    generalize dnI (y - 400) m 1 = R at *
    generalize dnI y m 1 = S at *
    have H1 := Lib.hid X1
    clear X1 h1 e
    replace hM := Lib.hid hM
    go_enter Tryz.func78, Tryz.ntmps78
    go_wp2_with fail
    
    refine (H1.out _ (by first | exact md_keep hM (Below.refl w.heap.size w) | exact md_keep hM ((Below.refl w.heap.size w).alloc (Nat.le_refl _) _) | exact md_keep hM (((Below.refl w.heap.size w).alloc (Nat.le_refl _) _).alloc (by simp <;> omega) _) | exact md_keep hM ((((Below.refl w.heap.size w).alloc (Nat.le_refl _) _).alloc (by simp <;> omega) _).alloc (by simp <;> omega) _))).mono ?_
    rintro e V1 ⟨rfl, hb1⟩
    have B1 : Hid (Below w.heap.size w V1) := by first | exact Lib.hid ((Below.refl w.heap.size w).trans (hb1.mono (by first | assumption | (simp <;> omega) | (simp; done)))) | exact Lib.hid (((Below.refl w.heap.size w).alloc (Nat.le_refl _) _).trans (hb1.mono (by first | assumption | (simp <;> omega) | (simp; done)))) | exact Lib.hid ((((Below.refl w.heap.size w).alloc (Nat.le_refl _) _).alloc (by simp <;> omega) _).trans (hb1.mono (by first | assumption | (simp <;> omega) | (simp; done)))) | exact Lib.hid (((((Below.refl w.heap.size w).alloc (Nat.le_refl _) _).alloc (by simp <;> omega) _).alloc (by simp <;> omega) _).trans (hb1.mono (by first | assumption | (simp <;> omega) | (simp; done))))
    clear hb1
    go_simp
    go_wp2
    go_ret
    exact ⟨by rw [E.out]; try rfl, B1.out⟩
  · have X1 := pDays_any y m 1
    have e := ckC_ok (y := y) (may_of (m := m) (by omega) (h1 y)) (by omega)
    rw [(dy_ok e).1, e] at X1
    generalize dnI y m 1 = S at *
    have H1 := Lib.hid X1
    clear X1 h1 e
    replace hM := Lib.hid hM
    go_enter Tryz.func78, Tryz.ntmps78
    go_wp2_with fail
    
    refine (H1.out _ (by first | exact md_keep hM (Below.refl w.heap.size w) | exact md_keep hM ((Below.refl w.heap.size w).alloc (Nat.le_refl _) _) | exact md_keep hM (((Below.refl w.heap.size w).alloc (Nat.le_refl _) _).alloc (by simp <;> omega) _) | exact md_keep hM ((((Below.refl w.heap.size w).alloc (Nat.le_refl _) _).alloc (by simp <;> omega) _).alloc (by simp <;> omega) _))).mono ?_
    rintro e V1 ⟨rfl, hb1⟩
    have B1 : Hid (Below w.heap.size w V1) := by first | exact Lib.hid ((Below.refl w.heap.size w).trans (hb1.mono (by first | assumption | (simp <;> omega) | (simp; done)))) | exact Lib.hid (((Below.refl w.heap.size w).alloc (Nat.le_refl _) _).trans (hb1.mono (by first | assumption | (simp <;> omega) | (simp; done)))) | exact Lib.hid ((((Below.refl w.heap.size w).alloc (Nat.le_refl _) _).alloc (by simp <;> omega) _).trans (hb1.mono (by first | assumption | (simp <;> omega) | (simp; done)))) | exact Lib.hid (((((Below.refl w.heap.size w).alloc (Nat.le_refl _) _).alloc (by simp <;> omega) _).alloc (by simp <;> omega) _).trans (hb1.mono (by first | assumption | (simp <;> omega) | (simp; done))))
    clear hb1
    go_simp
    go_wp2
    go_ret
    exact ⟨by first | rfl | simp, B1.out⟩
end Go.Proofs.YtafecnlaodgmkaaGreatDoor
