/- Several texts in one: CtE. -/
import Derived.Test.YtafecnlaodgmkaaGreatDoorY2Pkg1
import Derived.Test.YtafecnlaodgmkaaGreatDoorY2Ref1
import Derived.Test.YtafecnlaodgmkaaGreatDoorShelf
import Derived.Test.YtafecnlaodgmkaaGreatDoorY2Pkg2
import Derived.Test.YtafecnlaodgmkaaGreatDoorY2Inst1
import Derived.Test.YtafecnlaodgmkaaGreatDoorY2RowS1
import Derived.Test.YtafecnlaodgmkaaGreatDoorY2Clk1
import Derived.Test.YtafecnlaodgmkaaGreatDoorY2Civ1
import Derived.LoopN
import Derived.Lib.Small
import Derived.Outline
import Derived.Deep.Cut
import Derived.Deep.RegionHeld3
import Derived.OwnWalk
import Derived.Deep.DrawnRows
namespace Go.Proofs.YtafecnlaodgmkaaGreatDoor
set_option linter.unusedVariables false
set_option linter.unusedSimpArgs false
open Go.ChangeShapes Go.WideShapes Go.ChangeAt Go.RowKit
def IsCiv (S n y m d h i s k E : Int) : Prop :=
  ((n < 0 ∨ 1000000000 ≤ n) ∧ y = 0 ∧ m = 0 ∧ d = 0 ∧ h = 0 ∧ i = 0 ∧ s = 0 ∧ k = 0 ∧ E = 5) ∨
  (0 ≤ n ∧ n < 1000000000 ∧ (S < -377705116800 ∨ 253402300799 < S) ∧ y = 0 ∧ m = 0 ∧ d = 0 ∧ h = 0 ∧ i = 0 ∧ s = 0 ∧ k = 0 ∧ E = 8) ∨
  (0 ≤ n ∧ n < 1000000000 ∧ -377705116800 ≤ S ∧ S ≤ 253402300799 ∧ mayB y m d = true ∧ -9999 ≤ y ∧ y ≤ 9999 ∧ dnI y m d = S / 86400 ∧ h = S % 86400 / 3600 ∧ i = S % 86400 / 60 % 60 ∧ s = S % 86400 % 60 ∧ k = n ∧ E = 0)
theorem isCiv_ex (S n : Int) : ∃ y m d h i s k E, IsCiv S n y m d h i s k E := by
  by_cases hn : n < 0 ∨ 1000000000 ≤ n
  · exact ⟨0, 0, 0, 0, 0, 0, 0, 5, Or.inl ⟨hn, rfl, rfl, rfl, rfl, rfl, rfl, rfl, rfl⟩⟩
  · by_cases hS : S < -377705116800 ∨ 253402300799 < S
    · exact ⟨0, 0, 0, 0, 0, 0, 0, 8, Or.inr (Or.inl ⟨by omega, by omega, hS, rfl, rfl, rfl, rfl, rfl, rfl, rfl, rfl⟩)⟩
    · obtain ⟨y, m, d, hm, y1, y2, e⟩ := date_ex (S / 86400) (by omega) (by omega)
      exact ⟨y, m, d, _, _, _, n, 0, Or.inr (Or.inr ⟨by omega, by omega, by omega, by omega, hm, y1, y2, e, rfl, rfl, rfl, rfl, rfl⟩)⟩
end Go.Proofs.YtafecnlaodgmkaaGreatDoor
