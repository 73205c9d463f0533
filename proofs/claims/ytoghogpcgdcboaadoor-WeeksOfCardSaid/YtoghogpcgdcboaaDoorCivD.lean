/- The plain answers of layer 6: a number's date. -/
import Derived.Test.YtoghogpcgdcboaaDoorCivC
namespace Go.Proofs.YtoghogpcgdcboaaDoor
set_option linter.unusedVariables false
set_option linter.unusedSimpArgs false
open Go.ChangeShapes Go.WideShapes Go.ChangeAt Go.RowKit

theorem cm_succ (y : Int) (k : Nat) : cmN y (k + 1) = cmN y k + mdI y ((k : Int) + 1) := rfl
theorem cm_year (y : Int) : cmN y 12 = ydI y := by
  have h2 : mdI y 2 = ydI y - 337 := by
    rw [mdI_feb]; rcases ydI_eq y with ⟨h, e⟩ | ⟨h, e⟩ <;> rw [h, e] <;> rfl
  have e : cmN y 12 = 0 + mdI y 1 + mdI y 2 + mdI y 3 + mdI y 4 + mdI y 5 + mdI y 6 + mdI y 7 + mdI y 8 + mdI y 9 + mdI y 10 + mdI y 11 + mdI y 12 := rfl
  rw [e, h2, mdI_1, mdI_2, mdI_3, mdI_4, mdI_5, mdI_6, mdI_7, mdI_8, mdI_9, mdI_a, mdI_b]; omega
theorem mdI_ge (y m : Int) (h : 1 ≤ m ∧ m ≤ 12) : 28 ≤ mdI y m := by
  rcases month_cases m with k | k | k | k | k | k | k | k | k | k | k | k | k
  · omega
  all_goals subst k
  · rw [mdI_1]; decide
  · rw [mdI_feb]; split <;> decide
  · rw [mdI_2]; decide
  · rw [mdI_8]; decide
  · rw [mdI_3]; decide
  · rw [mdI_9]; decide
  · rw [mdI_4]; decide
  · rw [mdI_5]; decide
  · rw [mdI_a]; decide
  · rw [mdI_6]; decide
  · rw [mdI_b]; decide
  · rw [mdI_7]; decide
theorem cm_mono (y : Int) (j k : Nat) (h : j ≤ k) : cmN y j ≤ cmN y k := by
  induction k with
  | zero => obtain rfl : j = 0 := by omega
            exact Int.le_refl _
  | succ k ih =>
    have h2 := mdI_le y ((k : Int) + 1)
    rw [cm_succ]
    by_cases e : j = k + 1
    · subst e; rw [cm_succ]; exact Int.le_refl _
    · have := ih (by omega); omega
theorem yst_mono {a b : Int} (h : a ≤ b) : yst a ≤ yst b := by unfold yst; omega
/-- a date that may be lies within its month, its month within its year. -/
theorem dn_in {y m d : Int} (h : mayB y m d = true) : dnI y m d = yst y + cmN y (m - 1).toNat + d - 1 ∧ 0 ≤ cmN y (m - 1).toNat ∧ cmN y (m - 1).toNat + d ≤ ydI y := by
  obtain ⟨p1, p2, p3, p4, p5⟩ := mayB_yes h
  have h1 := cmN_bd y (m - 1).toNat
  have h2 := cm_mono y ((m - 1).toNat + 1) 12 (by omega)
  rw [cm_year, cm_succ, show (((m - 1).toNat : Nat) : Int) + 1 = m by omega] at h2
  exact ⟨by unfold dnI; rfl, h1.1, by omega⟩
theorem may_of {y m d : Int} (h1 : 1 ≤ d) (h2 : d ≤ mdI y m) : mayB y m d = true := by unfold mayB; rw [decide_eq_true h1, decide_eq_true h2]; rfl
/-- the next number is the next day's. -/
theorem dn_next {y m d : Int} (h : mayB y m d = true) : ∃ y' m' d', mayB y' m' d' = true ∧ dnI y' m' d' = dnI y m d + 1 ∧
    ((y' = y ∧ m' = m ∧ d' = d + 1 ∧ d < mdI y m) ∨ (y' = y ∧ m' = m + 1 ∧ d' = 1 ∧ d = mdI y m ∧ m < 12) ∨ (y' = y + 1 ∧ m' = 1 ∧ d' = 1 ∧ d = mdI y m ∧ m = 12)) := by
  obtain ⟨p1, p2, p3, p4, p5⟩ := mayB_yes h
  by_cases h1 : d < mdI y m
  · exact ⟨y, m, d + 1, may_of (by omega) (by omega), by unfold dnI; omega, Or.inl ⟨rfl, rfl, rfl, h1⟩⟩
  · have hd : d = mdI y m := by omega
    by_cases h2 : m < 12
    · have g := mdI_ge y (m + 1) ⟨by omega, by omega⟩
      refine ⟨y, m + 1, 1, may_of (by omega) (by omega), ?_, Or.inr (Or.inl ⟨rfl, rfl, rfl, hd, h2⟩)⟩
      unfold dnI
      rw [show (m + 1 - 1).toNat = (m - 1).toNat + 1 by omega, cm_succ, show (((m - 1).toNat : Nat) : Int) + 1 = m by omega]
      omega
    · obtain rfl : m = 12 := by omega
      refine ⟨y + 1, 1, 1, may_of (by omega) (by rw [mdI_1]; decide), ?_, Or.inr (Or.inr ⟨rfl, rfl, rfl, hd, rfl⟩)⟩
      have e1 := yst_succ y
      have e2 := cm_year y
      have e3 : cmN y 12 = cmN y 11 + mdI y 12 := rfl
      have e4 : cmN (y + 1) (1 - 1 : Int).toNat = 0 := rfl
      have e5 : (12 - 1 : Int).toNat = 11 := rfl
      unfold dnI
      rw [e1, e4, e5]; omega
theorem dn_first : dnI (-9999) 1 1 = -4371587 ∧ mayB (-9999) 1 1 = true := ⟨by unfold dnI yst; decide, may_of (by decide) (by rw [mdI_1]; decide)⟩
theorem date_up (k : Nat) : ∃ y m d, mayB y m d = true ∧ -9999 ≤ y ∧ dnI y m d = -4371587 + (k : Int) := by
  induction k with
  | zero => exact ⟨-9999, 1, 1, dn_first.2, by decide, dn_first.1⟩
  | succ k ih =>
    obtain ⟨y, m, d, h1, h2, h3⟩ := ih
    obtain ⟨y', m', d', g1, g2, g3⟩ := dn_next h1
    exact ⟨y', m', d', g1, by rcases g3 with g | g | g <;> omega, by rw [g2, h3]; omega⟩
theorem yst_bounds : yst (-9999) = -4371587 ∧ yst 10000 = 2932897 := by unfold yst; decide
theorem date_ex (n : Int) (h1 : -4371587 ≤ n) (h2 : n ≤ 2932896) : ∃ y m d, mayB y m d = true ∧ -9999 ≤ y ∧ y ≤ 9999 ∧ dnI y m d = n := by
  obtain ⟨y, m, d, g1, g2, g3⟩ := date_up (n + 4371587).toNat
  refine ⟨y, m, d, g1, g2, ?_, by rw [g3]; omega⟩
  obtain ⟨e1, e2, e3⟩ := dn_in g1
  have p := mayB_yes g1
  by_cases hy : 10000 ≤ y
  · have := yst_mono hy
    have := yst_bounds.2
    omega
  · omega
set_option maxHeartbeats 3200000 in
set_option maxRecDepth 100000 in
theorem rDateOf_out (n : Int) (h : n < -4371587 ∨ 2932896 < n) (w : World) : Calls Tryd.prog 16 #[.int .i64 n] w fun e w' => e = .returned (.tuple #[.agg #[.int .i64 0, .int .i64 0, .int .i64 0], .int .i64 8]) ∧ Below w.heap.size w w' := by
  rcases h with h | h
  · go_enter Tryd.func16, Tryd.ntmps16
    refine wp_shut ?_
    go_wp2
    refine shut_ret (v := .tuple #[.agg #[.int .i64 0, .int .i64 0, .int .i64 0], .int .i64 8]) (by simp [results, Tryd.results16, go_sem]) rfl ⟨rfl, ?_⟩
    go_grown
  · have h2 : ¬ n < -4371587 := by omega
    go_enter Tryd.func16, Tryd.ntmps16
    refine wp_shut ?_
    go_wp2
    refine shut_ret (v := .tuple #[.agg #[.int .i64 0, .int .i64 0, .int .i64 0], .int .i64 8]) (by simp [results, Tryd.results16, go_sem]) rfl ⟨rfl, ?_⟩
    go_grown
set_option maxHeartbeats 3200000 in
set_option maxRecDepth 100000 in
theorem rDateOf_any (y m d : Int) (hm : mayB y m d = true) (y1 : -9999 ≤ y) (y2 : y ≤ 9999) (w : World) : Calls Tryd.prog 16 #[.int .i64 (dnI y m d)] w fun e w' => e = .returned (.tuple #[.agg #[.int .i64 y, .int .i64 m, .int .i64 d], .int .i64 0]) ∧ Below w.heap.size w w' := by
  obtain ⟨e1, e2, e3⟩ := dn_in hm
  obtain ⟨p1, p2, p3, p4, p5⟩ := mayB_yes hm
  have s1 := yst_mono y1
  have s2 := yst_mono y2
  have s3 := yst_succ y
  have s4 := yst_bounds
  have s5 := yst_succ 9999
  rw [show (9999 : Int) + 1 = 10000 from rfl] at s5
  have s6 := ydI_bd y
  have s8 := yst_mono (show y + 1 ≤ 10000 by omega)
  generalize hn : dnI y m d = n at *
  have n1 : ¬ n < -4371587 := by omega
  have n2 : ¬ 2932896 < n := by omega
  have n3 : yst y ≤ n := by omega
  have n4 : n < yst (y + 1) := by omega
  have E1 := Lib.hid e1
  clear e1 e2 e3 s1 s2 s3 s4 s5 s6 s8 hn hm
  go_enter Tryd.func16, Tryd.ntmps16
  refine wp_shut ?_
  go_wp2
  go_loop [4, 5] (fun t v => ∃ a : Int, -10400 ≤ a ∧ a ≤ 2000 ∧ t = .int .i64 a ∧ v = .int .i64 (n - yst a)) (fun _ v => (-(intOf v)).toNat)
  case atStart => exact ⟨2000, by omega, by omega, rfl, by rw [yst_2000]⟩
  case round =>
    obtain ⟨a, a1, a2, rfl, rfl⟩ := hrel
    have a3 := yst_bd (y := a) (by omega)
    have a4 := Lib.hid (yst_400 (a - 400))
    by_cases hlt : n - yst a < 0
    · have a5 : -9999 < a := by
        by_cases h : -9999 < a
        · exact h
        · have := yst_mono (show a ≤ -9999 by omega); have := yst_bounds.1; omega
      have q0 : n < yst a := by omega
      go_wp2
      go_round
      case rel => exact ⟨a - 400, by omega, by omega, rfl, by have := a4.out; rw [show a - 400 + 400 = a by omega] at this; rw [show n - yst (a - 400) = n - yst a + 146097 by omega]⟩
      case measure => simp [intOf]; omega
    · have b0 : yst a ≤ n := by omega
      have b1 : ¬ n < yst a := by omega
      clear a4 hlt a3
      go_wp2
      clear b1
      go_loop [4, 5] (fun t v => ∃ a : Int, -10400 ≤ a ∧ a ≤ 10000 ∧ yst a ≤ n ∧ t = .int .i64 a ∧ v = .int .i64 (n - yst a)) (fun _ v => (intOf v).toNat)
      case atStart => exact ⟨a, by omega, by omega, b0, rfl, rfl⟩
      case round =>
        clear a1 a2 b0
        obtain ⟨c, c1, c2, c3, rfl, rfl⟩ := hrel
        have c4 := yst_bd (y := c) (by omega)
        have c5 := Lib.hid (yst_400 c)
        by_cases hlt : (146097 : Int) ≤ n - yst c
        · have c6 : c + 400 ≤ 10000 := by
            by_cases h : c + 400 ≤ 10000
            · exact h
            · have := yst_mono (show 10000 ≤ c + 400 by omega); have := yst_bounds.2; have := c5.out; omega
          have q0 : yst c + 146097 ≤ n := by omega
          go_wp2
          go_round
          case rel => exact ⟨c + 400, by omega, by omega, by have := c5.out; omega, rfl, by rw [c5.out]; congr 1; omega⟩
          case measure => simp [intOf]; omega
        · have d1 : c ≤ y := by
            by_cases h : c ≤ y
            · exact h
            · have := yst_mono (show y + 1 ≤ c by omega); omega
          have d2 : n - yst c < 146097 := by omega
          clear c5 hlt c4
          go_wp2
          clear d2
          go_loop [4, 5] (fun t v => ∃ a : Int, -10400 ≤ a ∧ a ≤ y ∧ yst a ≤ n ∧ t = .int .i64 a ∧ v = .int .i64 (n - yst a)) (fun t _ => (y - intOf t).toNat)
          case atStart => exact ⟨c, by omega, d1, c3, rfl, rfl⟩
          case round =>
            clear c1 c2 c3 d1
            obtain ⟨f, f1, f2, f3, rfl, rfl⟩ := hrel
            have f4 := yst_bd (y := f) (by omega)
            have f5 := ydI_bd f
            have f6 := Lib.hid (yst_succ f)
            have H1 := Lib.hid (rYearDays_p f)
            by_cases hlt : ydI f ≤ n - yst f
            · have f7 : f + 1 ≤ y := by
                by_cases h : f + 1 ≤ y
                · exact h
                · have := yst_mono (show y + 1 ≤ f + 1 by omega); have := f6.out; omega
              go_wp2_with fail
              refine (H1.out _).mono ?_
              rintro e w1 ⟨rfl, rfl⟩
              go_wp2_with fail
              refine (H1.out _).mono ?_
              rintro e w1 ⟨rfl, rfl⟩
              go_wp2
              go_round
              case rel => exact ⟨f + 1, by omega, f7, by have := f6.out; omega, rfl, by rw [f6.out]; congr 1; omega⟩
              case measure => simp [intOf]; omega
            · obtain rfl : f = y := by
                by_cases h : f + 1 ≤ y
                · have := yst_mono h; have := f6.out; omega
                · omega
              have g0 : n - yst f < ydI f := by omega
              go_wp2_with fail
              refine (H1.out _).mono ?_
              rintro e w1 ⟨rfl, rfl⟩
              go_wp2
              clear f1 f2 H1 f6 g0 hlt n3 n4
              have hB := cmN_bd f (m - 1).toNat
              have e1 := E1.out
              generalize hS : yst f = S at *
              clear hS
              go_loop [5, 6] (fun v t => ∃ k : Nat, k ≤ (m - 1).toNat ∧ t = .int .i64 ((k : Int) + 1) ∧ v = .int .i64 (n - S - cmN f k)) (fun _ t => (m - intOf t).toNat)
              case atStart => exact ⟨0, by omega, rfl, by show _ = Value.int .i64 (n - S - 0); rw [Int.sub_zero]⟩
              case round =>
                obtain ⟨k, k1, rfl, rfl⟩ := hrel
                have i1 := cmN_bd f k
                have i2 := mdI_le f ((k : Int) + 1)
                have i3 : Hid (cmN f (k + 1) = cmN f k + mdI f ((k : Int) + 1)) := Lib.hid rfl
                have H2 := Lib.hid (rMonthDays_p f ((k : Int) + 1))
                have k2 : (k : Int) ≤ 12 := by omega
                by_cases hlt : (k : Int) + 1 < m
                · have i4 := cm_mono f (k + 1) (m - 1).toNat (by omega)
                  rw [cm_succ] at i4
                  have i5 : mdI f ((k : Int) + 1) ≤ n - S - cmN f k := by omega
                  clear i4
                  generalize mdI f ((k : Int) + 1) = M at *
                  generalize hC : cmN f k = C at *
                  have HC := Lib.hid hC
                  clear hC
                  have e1' := Lib.hid e1
                  clear e1
                  go_wp2_with fail
                  refine (H2.out _).mono ?_
                  rintro e w1 ⟨rfl, rfl⟩
                  go_wp2_with fail
                  refine (H2.out _).mono ?_
                  rintro e w1 ⟨rfl, rfl⟩
                  go_wp2
                  go_round
                  case rel => exact ⟨k + 1, by omega, by go_num, by rw [i3.out]; congr 1; omega⟩
                  case measure => simp [intOf]; omega
                · obtain rfl : k = (m - 1).toNat := by omega
                  have i5 : (((m - 1).toNat : Nat) : Int) + 1 = m := by omega
                  rw [i5] at H2 ⊢
                  have i6 : n - S - cmN f (m - 1).toNat = d - 1 := by omega
                  rw [i6]
                  clear i1 i2 i3 k1 k2 hlt i5 i6 e1 hB
                  generalize mdI f m = M at *
                  have i7 : ¬ M ≤ d - 1 := by omega
                  go_wp2_with fail
                  refine (H2.out _).mono ?_
                  rintro e w1 ⟨rfl, rfl⟩
                  go_wp2
                  refine shut_ret (v := .tuple #[.agg #[.int .i64 f, .int .i64 m, .int .i64 d], .int .i64 0]) (by simp [results, Tryd.results16, go_sem]) rfl ⟨rfl, ?_⟩
                  go_grown
end Go.Proofs.YtoghogpcgdcboaaDoor
