/- The plain answers of layer 6: a year's first day, by numbers and by the walk. -/
import Derived.Test.YtoghogpcgdcboaaDoorCivA
namespace Go.Proofs.YtoghogpcgdcboaaDoor
set_option linter.unusedVariables false
set_option linter.unusedSimpArgs false
open Go.ChangeShapes Go.WideShapes Go.ChangeAt Go.RowKit

/-- the number of a year's first day. -/
@[irreducible] def yst (y : Int) : Int := 365 * y + (y + 3) / 4 - (y + 99) / 100 + (y + 399) / 400 - 719528
theorem yst_2000 : yst 2000 = 10957 := by unfold yst; decide
theorem yst_400 (y : Int) : yst (y + 400) = yst y + 146097 := by unfold yst; omega
theorem yst_succ (y : Int) : yst (y + 1) = yst y + ydI y := by
  have h := lpB_iff y
  rcases ydI_eq y with ⟨h1, h2⟩ | ⟨h1, h2⟩
  · rw [h2]
    have := h.mp h1
    unfold yst; omega
  · rw [h2]
    have : ¬ (y % 4 = 0 ∧ (y % 100 ≠ 0 ∨ y % 400 = 0)) := fun k => by rw [h.mpr k] at h1; cases h1
    unfold yst; omega
theorem yst_bd {y : Int} (h : -1000000 ≤ y ∧ y ≤ 1000000) : -1000000000 ≤ yst y ∧ yst y ≤ 1000000000 := by unfold yst; omega
theorem ydI_bd (y : Int) : 365 ≤ ydI y ∧ ydI y ≤ 366 := by rcases ydI_eq y with ⟨_, h⟩ | ⟨_, h⟩ <;> rw [h] <;> decide
set_option maxHeartbeats 1600000 in
theorem rStart_p (y : Int) (hy : -900000 ≤ y ∧ y ≤ 900000) (w : World) : Calls Tryd.prog 32 #[.int .i64 y] w fun e w' => e = .returned (.int .i64 (yst y)) ∧ w = w' := by
  obtain ⟨y1, y2⟩ := hy
  go_enter Tryd.func32, Tryd.ntmps32
  go_wp2
  go_loop [3, 4] (fun n t => ∃ a : Int, 2000 ≤ a ∧ (a ≤ y ∨ a = 2000) ∧ t = .int .i64 a ∧ n = .int .i64 (yst a)) (fun _ t => (y - intOf t).toNat)
  case atStart => exact ⟨2000, by omega, Or.inr rfl, rfl, by rw [yst_2000]⟩
  case round =>
    obtain ⟨a, a1, a2, rfl, rfl⟩ := hrel
    have a3 := yst_bd (y := a) (by omega)
    have a4 := Lib.hid (yst_400 a)
    by_cases hlt : a + 400 ≤ y
    · clear a2
      go_wp2
      go_round
      case rel => exact ⟨a + 400, by omega, Or.inl hlt, rfl, by rw [a4.out]⟩
      case measure => simp [intOf]; omega
    · have b0 : y < a + 400 := by omega
      have b1 : a ≤ 900000 := by omega
      clear a2 a3 a4 hlt
      go_wp2
      go_loop [3, 4] (fun n t => ∃ a : Int, y < a + 400 ∧ -900000 ≤ a + 400 ∧ a ≤ 900000 ∧ t = .int .i64 a ∧ n = .int .i64 (yst a)) (fun _ t => (intOf t - y).toNat)
      case atStart => exact ⟨a, by omega, by omega, by omega, rfl, rfl⟩
      case round =>
        clear a1 b0 b1
        obtain ⟨c, c1, c2, c3, rfl, rfl⟩ := hrel
        have c4 := yst_bd (y := c) (by omega)
        have c5 := Lib.hid (yst_400 (c - 400))
        by_cases hlt : y < c
        · go_wp2
          go_round
          case rel => exact ⟨c - 400, by omega, by omega, by omega, rfl, by have := c5.out; rw [show c - 400 + 400 = c by omega] at this; rw [show yst (c - 400) = yst c - 146097 by omega]⟩
          case measure => simp [intOf]; omega
        · have d1 : c ≤ y := by omega
          clear c4 c5 hlt
          go_wp2
          go_loop [3, 4] (fun n t => ∃ a : Int, a ≤ y ∧ -900400 ≤ a ∧ t = .int .i64 a ∧ n = .int .i64 (yst a)) (fun _ t => (y - intOf t).toNat)
          case atStart => exact ⟨c, by omega, by omega, rfl, rfl⟩
          case round =>
            clear c1 c2 c3 d1
            obtain ⟨f, f1, f2, rfl, rfl⟩ := hrel
            have f3 := yst_bd (y := f) (by omega)
            have f4 := ydI_bd f
            have f5 := Lib.hid (yst_succ f)
            have H1 := Lib.hid (rYearDays_p f)
            by_cases hlt : f < y
            · go_wp2_with fail
              refine (H1.out _).mono ?_
              rintro e w1 ⟨rfl, rfl⟩
              go_wp2
              go_round
              case rel => exact ⟨f + 1, by omega, by omega, rfl, by rw [f5.out]⟩
              case measure => simp [intOf]; omega
            · obtain rfl : f = y := by omega
              go_wp2
              go_ret
              exact ⟨rfl, rfl⟩
end Go.Proofs.YtoghogpcgdcboaaDoor
