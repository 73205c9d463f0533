/- The plain answers of layer 6: a year's first day, by numbers and by the walk. -/
import Derived.Test.YthlbmeemdhofpaaCivA
namespace Go.Proofs.Ythlbmeemdhofpaa
set_option linter.unusedVariables false
set_option linter.unusedSimpArgs false
open Go.ChangeShapes Go.WideShapes Go.ChangeAt Go.RowKit

/-- the number of a year's first day. -/
@[irreducible] def yst (y : Int) : Int := 365 * y + (y + 3) / 4 - (y + 99) / 100 + (y + 399) / 400 - 719528
theorem yst_2000 : yst 2000 = 10957 := by unfold yst; decide
theorem yst_400 (y : Int) : yst (y + 400) = yst y + 146097 := by unfold yst; omega
theorem yst_succ (y : Int) : yst (y + 1) = yst y + ydI y := by
  have h := lpB_iff y
  rcases ydI_eq y with ⟨h1, h2⟩ | ⟨h1, h2⟩
  · rw [h2]
    have := h.mp h1
    unfold yst; omega
  · rw [h2]
    have : ¬ (y % 4 = 0 ∧ (y % 100 ≠ 0 ∨ y % 400 = 0)) := fun k => by rw [h.mpr k] at h1; cases h1
    unfold yst; omega
theorem yst_bd {y : Int} (h : -1000000 ≤ y ∧ y ≤ 1000000) : -1000000000 ≤ yst y ∧ yst y ≤ 1000000000 := by unfold yst; omega
theorem ydI_bd (y : Int) : 365 ≤ ydI y ∧ ydI y ≤ 366 := by rcases ydI_eq y with ⟨_, h⟩ | ⟨_, h⟩ <;> rw [h] <;> decide
end Go.Proofs.Ythlbmeemdhofpaa
