/- The plain answers of layer 6: a year's day, the order. -/
import Derived.Test.YtbphbkllbdoldaaDoorCivD
import Derived.LoopN
namespace Go.Proofs.YtbphbkllbdoldaaDoor
set_option linter.unusedVariables false
set_option linter.unusedSimpArgs false
open Go.ChangeShapes Go.WideShapes Go.ChangeAt Go.RowKit

/-- a year's n-th day is a date that may be. -/
theorem ord_date {y n : Int} (h1 : 1 ≤ n) (h2 : n ≤ ydI y) : ∃ m d, mayB y m d = true ∧ dnI y m d = yst y + n - 1 := by
  have key : ∀ k : Nat, (k : Int) < ydI y → ∃ m d, mayB y m d = true ∧ dnI y m d = yst y + (k : Int) := by
    intro k
    induction k with
    | zero =>
      intro _
      refine ⟨1, 1, may_of (by decide) (by rw [mdI_1]; decide), ?_⟩
      have e : cmN y (1 - 1 : Int).toNat = 0 := rfl
      unfold dnI
      rw [e]; omega
    | succ k ih =>
      intro hk
      obtain ⟨m, d, g1, g2⟩ := ih (by omega)
      obtain ⟨y', m', d', k1, k2, k3⟩ := dn_next g1
      rcases k3 with ⟨rfl, k3⟩ | ⟨rfl, k3⟩ | ⟨rfl, k3⟩
      · exact ⟨m', d', k1, by rw [k2, g2]; omega⟩
      · exact ⟨m', d', k1, by rw [k2, g2]; omega⟩
      · exfalso
        have e := dn_in k1
        have s := yst_succ y
        have p := mayB_yes k1
        omega
  obtain ⟨m, d, g1, g2⟩ := key (n - 1).toNat (by omega)
  exact ⟨m, d, g1, by rw [g2]; omega⟩
/-- of two dates that may be the later one has the greater number. -/
def dLt (y m d y' m' d' : Int) : Prop := y < y' ∨ (y = y' ∧ (m < m' ∨ (m = m' ∧ d < d')))
theorem dn_lt {y m d y' m' d' : Int} (h : mayB y m d = true) (h' : mayB y' m' d' = true) (hl : dLt y m d y' m' d') : dnI y m d < dnI y' m' d' := by
  obtain ⟨e1, e2, e3⟩ := dn_in h
  obtain ⟨f1, f2, f3⟩ := dn_in h'
  have p := mayB_yes h
  have p' := mayB_yes h'
  rcases hl with hl | ⟨rfl, hl | ⟨rfl, hl⟩⟩
  · have s := yst_succ y
    have s2 := yst_mono (show y + 1 ≤ y' by omega)
    omega
  · have c := cm_mono y ((m - 1).toNat + 1) (m' - 1).toNat (by omega)
    rw [cm_succ, show (((m - 1).toNat : Nat) : Int) + 1 = m by omega] at c
    omega
  · omega
theorem dn_inj {y m d y' m' d' : Int} (h : mayB y m d = true) (h' : mayB y' m' d' = true) (e : dnI y m d = dnI y' m' d') : y = y' ∧ m = m' ∧ d = d' := by
  by_cases h1 : dLt y m d y' m' d'
  · have := dn_lt h h' h1; omega
  · by_cases h2 : dLt y' m' d' y m d
    · have := dn_lt h' h h2; omega
    · unfold dLt at h1 h2; omega
set_option maxHeartbeats 3200000 in
set_option maxRecDepth 100000 in
theorem rOfOrdinal_day (y n : Int) (h : n < 1 ∨ ydI y < n) (w : World) : Calls Tryd.prog 22 #[.int .i64 y, .int .i64 n] w fun e w' => e = .returned (.tuple #[.agg #[.int .i64 0, .int .i64 0, .int .i64 0], .int .i64 7]) ∧ Below w.heap.size w w' := by
  have H1 := Lib.hid (rYearDays_p y)
  by_cases h1 : n < 1
  · clear H1
    go_enter Tryd.func22, Tryd.ntmps22
    refine wp_shut ?_
    go_wp2
    refine shut_ret (v := .tuple #[.agg #[.int .i64 0, .int .i64 0, .int .i64 0], .int .i64 7]) (by simp [results, Tryd.results22, go_sem]) rfl ⟨rfl, ?_⟩
    go_grown
  · have h2 : ydI y < n := by omega
    generalize ydI y = D at *
    clear h
    go_enter Tryd.func22, Tryd.ntmps22
    refine wp_shut ?_
    go_wp2_with fail
    refine (H1.out _).mono ?_
    rintro e w1 ⟨rfl, rfl⟩
    go_wp2
    refine shut_ret (v := .tuple #[.agg #[.int .i64 0, .int .i64 0, .int .i64 0], .int .i64 7]) (by simp [results, Tryd.results22, go_sem]) rfl ⟨rfl, ?_⟩
    go_grown
set_option maxHeartbeats 3200000 in
set_option maxRecDepth 100000 in
theorem rOfOrdinal_year (y n : Int) (h1 : 1 ≤ n) (h2 : n ≤ ydI y) (h : y < -9999 ∨ 9999 < y) (w : World) : Calls Tryd.prog 22 #[.int .i64 y, .int .i64 n] w fun e w' => e = .returned (.tuple #[.agg #[.int .i64 0, .int .i64 0, .int .i64 0], .int .i64 8]) ∧ Below w.heap.size w w' := by
  have H1 := Lib.hid (rYearDays_p y)
  have g1 : ¬ n < 1 := by omega
  have g2 : ¬ ydI y < n := by omega
  clear h1 h2
  generalize ydI y = D at *
  by_cases k1 : y < -9999
  all_goals
    (try have k2 : (9999 : Int) < y := by omega)
    clear h
    go_enter Tryd.func22, Tryd.ntmps22
    refine wp_shut ?_
    go_wp2_with fail
    refine (H1.out _).mono ?_
    rintro e w1 ⟨rfl, rfl⟩
    go_wp2
    refine shut_ret (v := .tuple #[.agg #[.int .i64 0, .int .i64 0, .int .i64 0], .int .i64 8]) (by simp [results, Tryd.results22, go_sem]) rfl ⟨rfl, ?_⟩
    go_grown
set_option maxHeartbeats 3200000 in
set_option maxRecDepth 100000 in
theorem rOfOrdinal_any (y n m d : Int) (h1 : 1 ≤ n) (h2 : n ≤ ydI y) (y1 : -9999 ≤ y) (y2 : y ≤ 9999) (hm : mayB y m d = true) (hd : dnI y m d = yst y + n - 1) (w : World) : Calls Tryd.prog 22 #[.int .i64 y, .int .i64 n] w fun e w' => e = .returned (.tuple #[.agg #[.int .i64 y, .int .i64 m, .int .i64 d], .int .i64 0]) ∧ Below w.heap.size w w' := by
  have H1 := Lib.hid (fun w => grow_of (rYearDays_p y w))
  have H2 := Lib.hid (fun w => grow_of (rStart_p y (by omega) w))
  have X3 := rDateOf_any y m d hm y1 y2
  rw [hd] at X3
  have H3 := Lib.hid X3
  have g1 : ¬ n < 1 := by omega
  have g2 : ¬ ydI y < n := by omega
  have g3 : ¬ y < -9999 := by omega
  have g4 : ¬ (9999 : Int) < y := by omega
  have g5 := yst_bd (y := y) (by omega)
  have g6 := ydI_bd y
  have g7 : n ≤ 366 := by omega
  obtain ⟨g8, g9⟩ := g5
  clear X3 hd hm g6 h2
  generalize ydI y = D at *
  generalize yst y = S at *
  go_enter Tryd.func22, Tryd.ntmps22
  refine wp_shut ?_
  go_wp2_with fail
  
  refine (H1.out _).mono ?_
  rintro e V1 ⟨rfl, hb1⟩
  have B1 := Lib.hid (((Below.refl w.heap.size w).alloc (Nat.le_refl _) _).trans (hb1.mono (by first | assumption | (simp <;> omega) | (simp; done))))
  have Z1 := Lib.hid (row_call hb1 (heap_alloc_new _ _))
  clear hb1
  have Z1_0 : V1.cell? ⟨w.heap.size, 0, none⟩ = some (.int .i64 0) := cell_of_row _ _ _ _ _ _ Z1.out
  have Z1_1 : V1.cell? ⟨w.heap.size, 1, none⟩ = some (.int .i64 0) := cell_of_row _ _ _ _ _ _ Z1.out
  have Z1_2 : V1.cell? ⟨w.heap.size, 2, none⟩ = some (.int .i64 0) := cell_of_row _ _ _ _ _ _ Z1.out
  have Z1_f0 : V1.frozen? ⟨w.heap.size, 0, none⟩ = false := by simp [World.frozen?, Z1.out]
  have Z1_f1 : V1.frozen? ⟨w.heap.size, 1, none⟩ = false := by simp [World.frozen?, Z1.out]
  have Z1_f2 : V1.frozen? ⟨w.heap.size, 2, none⟩ = false := by simp [World.frozen?, Z1.out]
  have zZ1 := lt_of_heap Z1.out
  go_simp
  go_wp2_with fail
  refine (H2.out _).mono ?_
  rintro e V2 ⟨rfl, hb2⟩
  clear Z1_0 Z1_1 Z1_2 Z1_f0 Z1_f1 Z1_f2 zZ1
  have B2 : Hid (Below w.heap.size w V2) := by first | exact Lib.hid ((B1.out).trans (hb2.mono (by have := B1.out.size; first | assumption | (simp <;> omega) | (simp; done)))) | exact Lib.hid (((B1.out).alloc (B1.out.size) _).trans (hb2.mono (by have := B1.out.size; first | assumption | (simp <;> omega) | (simp; done)))) | exact Lib.hid ((((B1.out).alloc (B1.out.size) _).alloc (by have := B1.out.size; simp <;> omega) _).trans (hb2.mono (by have := B1.out.size; first | assumption | (simp <;> omega) | (simp; done)))) | exact Lib.hid (((((B1.out).alloc (B1.out.size) _).alloc (by have := B1.out.size; simp <;> omega) _).alloc (by have := B1.out.size; simp <;> omega) _).trans (hb2.mono (by have := B1.out.size; first | assumption | (simp <;> omega) | (simp; done))))
  first | replace Z1 := Lib.hid (row_call hb2 Z1.out) | replace Z1 := Lib.hid (row_call hb2 (row_alloc Z1.out _)) | replace Z1 := Lib.hid (row_call hb2 (row_alloc (row_alloc Z1.out _) _)) | replace Z1 := Lib.hid (row_call hb2 (row_alloc (row_alloc (row_alloc Z1.out _) _) _))
  clear hb2
  have Z1_0 : V2.cell? ⟨w.heap.size, 0, none⟩ = some (.int .i64 0) := cell_of_row _ _ _ _ _ _ Z1.out
  have Z1_1 : V2.cell? ⟨w.heap.size, 1, none⟩ = some (.int .i64 0) := cell_of_row _ _ _ _ _ _ Z1.out
  have Z1_2 : V2.cell? ⟨w.heap.size, 2, none⟩ = some (.int .i64 0) := cell_of_row _ _ _ _ _ _ Z1.out
  have Z1_f0 : V2.frozen? ⟨w.heap.size, 0, none⟩ = false := by simp [World.frozen?, Z1.out]
  have Z1_f1 : V2.frozen? ⟨w.heap.size, 1, none⟩ = false := by simp [World.frozen?, Z1.out]
  have Z1_f2 : V2.frozen? ⟨w.heap.size, 2, none⟩ = false := by simp [World.frozen?, Z1.out]
  have zZ1 := lt_of_heap Z1.out
  go_simp
  go_wp2_with fail
  refine (H3.out _).mono ?_
  rintro e V3 ⟨rfl, hb3⟩
  clear Z1_0 Z1_1 Z1_2 Z1_f0 Z1_f1 Z1_f2 zZ1
  have B3 : Hid (Below w.heap.size w V3) := by first | exact Lib.hid ((B2.out).trans (hb3.mono (by have := B2.out.size; first | assumption | (simp <;> omega) | (simp; done)))) | exact Lib.hid (((B2.out).alloc (B2.out.size) _).trans (hb3.mono (by have := B2.out.size; first | assumption | (simp <;> omega) | (simp; done)))) | exact Lib.hid ((((B2.out).alloc (B2.out.size) _).alloc (by have := B2.out.size; simp <;> omega) _).trans (hb3.mono (by have := B2.out.size; first | assumption | (simp <;> omega) | (simp; done)))) | exact Lib.hid (((((B2.out).alloc (B2.out.size) _).alloc (by have := B2.out.size; simp <;> omega) _).alloc (by have := B2.out.size; simp <;> omega) _).trans (hb3.mono (by have := B2.out.size; first | assumption | (simp <;> omega) | (simp; done))))
  first | replace Z1 := Lib.hid (row_call hb3 Z1.out) | replace Z1 := Lib.hid (row_call hb3 (row_alloc Z1.out _)) | replace Z1 := Lib.hid (row_call hb3 (row_alloc (row_alloc Z1.out _) _)) | replace Z1 := Lib.hid (row_call hb3 (row_alloc (row_alloc (row_alloc Z1.out _) _) _))
  clear hb3
  have Z1_0 : V3.cell? ⟨w.heap.size, 0, none⟩ = some (.int .i64 0) := cell_of_row _ _ _ _ _ _ Z1.out
  have Z1_1 : V3.cell? ⟨w.heap.size, 1, none⟩ = some (.int .i64 0) := cell_of_row _ _ _ _ _ _ Z1.out
  have Z1_2 : V3.cell? ⟨w.heap.size, 2, none⟩ = some (.int .i64 0) := cell_of_row _ _ _ _ _ _ Z1.out
  have Z1_f0 : V3.frozen? ⟨w.heap.size, 0, none⟩ = false := by simp [World.frozen?, Z1.out]
  have Z1_f1 : V3.frozen? ⟨w.heap.size, 1, none⟩ = false := by simp [World.frozen?, Z1.out]
  have Z1_f2 : V3.frozen? ⟨w.heap.size, 2, none⟩ = false := by simp [World.frozen?, Z1.out]
  have zZ1 := lt_of_heap Z1.out
  go_simp
  go_wp2
  refine shut_ret (v := .tuple #[.agg #[.int .i64 y, .int .i64 m, .int .i64 d], .int .i64 0]) (by simp [results, Tryd.results22, go_sem, zZ1, Z1_0, Z1_1, Z1_2]) rfl ⟨rfl, ?_⟩
  exact ((B3.out.setCell (Nat.le_refl _) _).setCell (Nat.le_refl _) _).setCell (Nat.le_refl _) _
/-- the order of dates. -/
def ord3 (y m d y' m' d' : Int) : Int := if y < y' then -1 else if y' < y then 1 else if m < m' then -1 else if m' < m then 1 else if d < d' then -1 else if d' < d then 1 else 0
end Go.Proofs.YtbphbkllbdoldaaDoor
