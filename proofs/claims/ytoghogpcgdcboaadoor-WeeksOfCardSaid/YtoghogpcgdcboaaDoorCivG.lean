/- Package civil: the table of the months' days; the functions of numbers. -/
import Derived.Test.YtoghogpcgdcboaaDoorCivD
import Derived.Lib.LaidTab
namespace Go.Proofs.YtoghogpcgdcboaaDoor
set_option linter.unusedVariables false
set_option linter.unusedSimpArgs false
open Go.ChangeShapes Go.WideShapes Go.ChangeAt Go.RowKit

def mdT : List Int := [31, 28, 31, 30, 31, 30, 31, 31, 30, 31, 30, 31]
/-- the world holds the table of the months' days. -/
structure MD (w : World) : Prop where
  cell : ∀ i : Nat, i < 12 → w.cell? ⟨0, i, none⟩ = some (.int .i64 (mdT.getD i 0))
  size : 0 < w.heap.size
theorem MD.keep {w w' : World} {n : Nat} (h : MD w) (hb : Below n w w') (hn : 0 < n) : MD w' :=
  ⟨fun i hi => (hb.cell (p := ⟨0, i, none⟩) hn).trans (h.cell i hi), Nat.lt_of_lt_of_le h.size hb.size⟩
theorem md_keep {w w' : World} (h : Hid (MD w)) (hb : Below w.heap.size w w') : MD w' := h.out.keep hb h.out.size
set_option maxHeartbeats 1600000 in
theorem pLeap_p (y : Int) (w : World) : Calls Tryd.prog 38 #[.int .i64 y] w fun e w' => e = .returned (.bool (lpB y)) ∧ w = w' := by
  have E := Lib.hid (lpB_tmod y)
  generalize lpB y = l at *
  generalize h4 : y.tmod 4 = r4 at *
  generalize h100 : y.tmod 100 = r100 at *
  generalize h400 : y.tmod 400 = r400 at *
  go_enter Tryd.func38, Tryd.ntmps38
  go_wp2
  all_goals (go_ret; exact ⟨by rw [E.out]; simp [*], rfl⟩)
set_option maxHeartbeats 1600000 in
theorem pMonthDays_p (y m : Int) (w : World) (hM : MD w) : Calls Tryd.prog 36 #[.int .i64 y, .int .i64 m] w fun e w' => e = .returned (.int .i64 (mdI y m)) ∧ w = w' := by
  have X1 := pLeap_p y
  rcases month_cases m with h | h | h | h | h | h | h | h | h | h | h | h | h
  · have E := Lib.hid (mdI_none y m h)
    clear X1 hM
    rcases h with h | h
    · go_enter Tryd.func36, Tryd.ntmps36
      go_wp2
      go_ret
      exact ⟨by rw [E.out]; try rfl, rfl⟩
    · have h1 : ¬ m < 1 := by omega
      go_enter Tryd.func36, Tryd.ntmps36
      go_wp2
      go_ret
      exact ⟨by rw [E.out]; try rfl, rfl⟩
  case' inr.inr.inl =>
    subst h
    have E := Lib.hid (mdI_feb y)
    have c : w.cell? ⟨0, 1, none⟩ = some (.int .i64 28) := hM.cell 1 (by decide)
    clear hM
    cases hl : lpB y
    all_goals
      rw [hl] at X1
      have H1 := Lib.hid X1
      have HL := Lib.hid hl
      clear X1 hl
      go_enter Tryd.func36, Tryd.ntmps36
      go_wp2_with fail
      refine (H1.out _).mono ?_
      rintro e w1 ⟨rfl, rfl⟩
      go_wp2
      go_ret
      exact ⟨by rw [E.out, HL.out]; try rfl, rfl⟩
  all_goals
    clear X1
    subst h
    have c0 : w.cell? ⟨0, 0, none⟩ = some (.int .i64 31) := hM.cell 0 (by decide)
    have c2 : w.cell? ⟨0, 2, none⟩ = some (.int .i64 31) := hM.cell 2 (by decide)
    have c3 : w.cell? ⟨0, 3, none⟩ = some (.int .i64 30) := hM.cell 3 (by decide)
    have c4 : w.cell? ⟨0, 4, none⟩ = some (.int .i64 31) := hM.cell 4 (by decide)
    have c5 : w.cell? ⟨0, 5, none⟩ = some (.int .i64 30) := hM.cell 5 (by decide)
    have c6 : w.cell? ⟨0, 6, none⟩ = some (.int .i64 31) := hM.cell 6 (by decide)
    have c7 : w.cell? ⟨0, 7, none⟩ = some (.int .i64 31) := hM.cell 7 (by decide)
    have c8 : w.cell? ⟨0, 8, none⟩ = some (.int .i64 30) := hM.cell 8 (by decide)
    have c9 : w.cell? ⟨0, 9, none⟩ = some (.int .i64 31) := hM.cell 9 (by decide)
    have c10 : w.cell? ⟨0, 10, none⟩ = some (.int .i64 30) := hM.cell 10 (by decide)
    have c11 : w.cell? ⟨0, 11, none⟩ = some (.int .i64 31) := hM.cell 11 (by decide)
    clear hM
    go_enter Tryd.func36, Tryd.ntmps36
    go_wp2
    go_ret
    first
    | exact ⟨by rw [mdI_1]; rfl, rfl⟩ | exact ⟨by rw [mdI_2]; rfl, rfl⟩ | exact ⟨by rw [mdI_3]; rfl, rfl⟩ | exact ⟨by rw [mdI_4]; rfl, rfl⟩ | exact ⟨by rw [mdI_5]; rfl, rfl⟩ | exact ⟨by rw [mdI_6]; rfl, rfl⟩
    | exact ⟨by rw [mdI_7]; rfl, rfl⟩ | exact ⟨by rw [mdI_8]; rfl, rfl⟩ | exact ⟨by rw [mdI_9]; rfl, rfl⟩ | exact ⟨by rw [mdI_a]; rfl, rfl⟩ | exact ⟨by rw [mdI_b]; rfl, rfl⟩
theorem wd_parts2 (d : Int) : wdI d = (d.tmod 7 + 10) % 7 + 1 ∧ -7 < d.tmod 7 ∧ d.tmod 7 < 7 := by
  have h := Int.tmod_add_mul_tdiv d 7
  have h1 := Int.lt_tmod_of_pos d (show (0 : Int) < 7 by decide)
  have h2 := Int.tmod_lt_of_pos d (show (0 : Int) < 7 by decide)
  generalize d.tmod 7 = r at *
  generalize d.tdiv 7 = q at *
  unfold wdI
  exact ⟨by omega, by omega, h2⟩
set_option maxHeartbeats 1600000 in
theorem pWeekday_p (d : Int) (w : World) : Calls Tryd.prog 19 #[.int .i64 d] w fun e w' => e = .returned (.int .i64 (wdI d)) ∧ w = w' := by
  obtain ⟨h1, h2, h3⟩ := wd_parts2 d
  generalize hr : d.tmod 7 = r at *
  have E := Lib.hid h1
  clear h1
  have hp : 0 ≤ r + 10 := by omega
  go_enter Tryd.func19, Tryd.ntmps19
  go_wp2
  go_ret
  exact ⟨by rw [E.out]; try rfl, rfl⟩
/-- a year's first day by the years past the first. -/
theorem yst_past (y : Int) : yst y = -4371587 + (y + 9999) * 365 + (y + 9999) / 4 - (y + 9999) / 100 + (y + 9999) / 400 := by unfold yst; omega
set_option maxHeartbeats 1600000 in
theorem pFirst_p (y : Int) (hy : -9999 ≤ y ∧ y ≤ 9999) (w : World) : Calls Tryd.prog 33 #[.int .i64 y] w fun e w' => e = .returned (.int .i64 (yst y)) ∧ w = w' := by
  obtain ⟨y1, y2⟩ := hy
  have E := Lib.hid (yst_past y)
  have p1 : 0 ≤ y + 9999 := by omega
  have p2 : y + 9999 ≤ 20000 := by omega
  go_enter Tryd.func33, Tryd.ntmps33
  go_wp2
  go_ret
  exact ⟨by rw [E.out]; try rfl, rfl⟩
theorem year_of {n c r1 e r2 f r3 s : Int} (hc : n + 4371587 = 146097 * c + r1) (c1 : 0 ≤ r1) (c2 : r1 < 146097) (he : r1 = 36524 * e + r2) (e1 : 0 ≤ e) (e2 : e ≤ 3) (e3 : 0 ≤ r2) (e4 : e < 3 → r2 < 36524)
    (hf : r2 = 1461 * f + r3) (f0 : 0 ≤ f) (f1 : 0 ≤ r3) (f2 : r3 < 1461) (s1 : 0 ≤ s) (s2 : s ≤ 3) (s3 : 365 * s ≤ r3) (s4 : s < 3 → r3 < 365 * s + 365) :
    yst (-9999 + c * 400 + e * 100 + f * 4 + s) ≤ n ∧ n < yst (-9999 + c * 400 + e * 100 + f * 4 + s + 1) := by
  have f3 : f ≤ 24 := by omega
  have d1 : (400 * c + 100 * e + 4 * f + s) / 4 = 100 * c + 25 * e + f := by omega
  have d2 : (400 * c + 100 * e + 4 * f + s) / 100 = 4 * c + e := by omega
  have d3 : (400 * c + 100 * e + 4 * f + s) / 400 = c := by omega
  rw [yst_past, yst_past]
  rw [show -9999 + c * 400 + e * 100 + f * 4 + s + 9999 = 400 * c + 100 * e + 4 * f + s by omega, show -9999 + c * 400 + e * 100 + f * 4 + s + 1 + 9999 = 400 * c + 100 * e + 4 * f + s + 1 by omega, d1, d2, d3]
  refine ⟨by omega, ?_⟩
  by_cases hs : s < 3
  · have := s4 hs
    have g1 : (400 * c + 100 * e + 4 * f + s + 1) / 4 = 100 * c + 25 * e + f := by omega
    have g2 : (400 * c + 100 * e + 4 * f + s + 1) / 100 = 4 * c + e := by omega
    have g3 : (400 * c + 100 * e + 4 * f + s + 1) / 400 = c := by omega
    rw [g1, g2, g3]; omega
  · obtain rfl : s = 3 := by omega
    have g1 : (400 * c + 100 * e + 4 * f + 3 + 1) / 4 = 100 * c + 25 * e + f + 1 := by omega
    by_cases hf2 : f < 24
    · have g2 : (400 * c + 100 * e + 4 * f + 3 + 1) / 100 = 4 * c + e := by omega
      have g3 : (400 * c + 100 * e + 4 * f + 3 + 1) / 400 = c := by omega
      rw [g1, g2, g3]; omega
    · obtain rfl : f = 24 := by omega
      have g2 : (400 * c + 100 * e + 4 * 24 + 3 + 1) / 100 = 4 * c + e + 1 := by omega
      by_cases he2 : e < 3
      · have := e4 he2
        have g3 : (400 * c + 100 * e + 4 * 24 + 3 + 1) / 400 = c := by omega
        rw [g1, g2, g3]; omega
      · obtain rfl : e = 3 := by omega
        have g3 : (400 * c + 100 * 3 + 4 * 24 + 3 + 1) / 400 = c + 1 := by omega
        rw [g1, g2, g3]; omega
theorem year_one {n a b : Int} (ha : yst a ≤ n) (ha2 : n < yst (a + 1)) (hb : yst b ≤ n) (hb2 : n < yst (b + 1)) : a = b := by
  by_cases h1 : a + 1 ≤ b
  · have := yst_mono h1; omega
  · by_cases h2 : b + 1 ≤ a
    · have := yst_mono h2; omega
    · omega
theorem year_parts {n y : Int} (h1 : -4371587 ≤ n) (h2 : n ≤ 2932896) (hy1 : yst y ≤ n) (hy2 : n < yst (y + 1)) :
    ∃ c r1 e r2 f r3 s : Int, (n + 4371587) / 146097 = c ∧ (n + 4371587) % 146097 = r1 ∧ min (r1 / 36524) 3 = e ∧ r1 - e * 36524 = r2 ∧ r2 / 1461 = f ∧ r2 % 1461 = r3 ∧ min (r3 / 365) 3 = s ∧
      0 ≤ c ∧ c ≤ 50 ∧ 0 ≤ r1 ∧ r1 < 146097 ∧ 0 ≤ e ∧ e ≤ 3 ∧ 0 ≤ r2 ∧ r2 ≤ 36524 ∧ 0 ≤ f ∧ f ≤ 25 ∧ 0 ≤ r3 ∧ r3 < 1461 ∧ 0 ≤ s ∧ s ≤ 3 ∧ y = -9999 + c * 400 + e * 100 + f * 4 + s := by
  refine ⟨_, _, _, _, _, _, _, rfl, rfl, rfl, rfl, rfl, rfl, rfl, ?_⟩
  generalize hr : n + 4371587 = R
  generalize hc : R / 146097 = c
  generalize hr1 : R % 146097 = r1
  have b1 : 0 ≤ r1 ∧ r1 < 146097 ∧ R = 146097 * c + r1 ∧ 0 ≤ c ∧ c ≤ 50 := by omega
  generalize he : min (r1 / 36524) 3 = e
  have b2 : 0 ≤ e ∧ e ≤ 3 ∧ 0 ≤ r1 - e * 36524 ∧ (e < 3 → r1 - e * 36524 < 36524) ∧ r1 - e * 36524 ≤ 36524 := by
    rw [Int.min_def] at he; split at he <;> omega
  generalize hr2 : r1 - e * 36524 = r2 at *
  generalize hf : r2 / 1461 = f
  generalize hr3 : r2 % 1461 = r3
  have b3 : 0 ≤ r3 ∧ r3 < 1461 ∧ r2 = 1461 * f + r3 ∧ 0 ≤ f ∧ f ≤ 25 := by omega
  generalize hs : min (r3 / 365) 3 = s
  have b4 : 0 ≤ s ∧ s ≤ 3 ∧ 365 * s ≤ r3 ∧ (s < 3 → r3 < 365 * s + 365) := by
    rw [Int.min_def] at hs; split at hs <;> omega
  have K := year_of (n := n) (c := c) (r1 := r1) (e := e) (r2 := r2) (f := f) (r3 := r3) (s := s) (by omega) b1.1 b1.2.1 (by omega) b2.1 b2.2.1 b2.2.2.1 b2.2.2.2.1 b3.2.2.1 b3.2.2.2.1 b3.1 b3.2.1 b4.1 b4.2.1 b4.2.2.1 b4.2.2.2
  have := year_one hy1 hy2 K.1 K.2
  refine ⟨?_, ?_, ?_, ?_, ?_, ?_, ?_, ?_, ?_, ?_, ?_, ?_, ?_, ?_, this⟩
  all_goals omega
set_option maxHeartbeats 1600000 in
theorem pYearOf_p (y n : Int) (h1 : -4371587 ≤ n) (h2 : n ≤ 2932896) (hy1 : yst y ≤ n) (hy2 : n < yst (y + 1)) (w : World) : Calls Tryd.prog 34 #[.int .i64 n] w fun e w' => e = .returned (.int .i64 y) ∧ w = w' := by
  obtain ⟨c, r1, e, r2, f, r3, s, hc, hr1, he, hr2, hf, hr3, hs, c1, c2, a1, a2, e1, e2, a3, a4, f1, f2, a5, a6, s1, s2, rfl⟩ := year_parts h1 h2 hy1 hy2
  clear hy1 hy2
  have p1 : 0 ≤ n + 4371587 := by omega
  have K := Lib.hid (And.intro he (And.intro hr2 (And.intro hf (And.intro hr3 hs))))
  go_enter Tryd.func34, Tryd.ntmps34
  go_wp2
  all_goals
    go_ret
    refine ⟨congrArg (fun x => Ending.returned (Value.int .i64 x)) ?_, rfl⟩
    obtain ⟨k1, k2, k3, k4, k5⟩ := K.out
    omega
end Go.Proofs.YtoghogpcgdcboaaDoor
