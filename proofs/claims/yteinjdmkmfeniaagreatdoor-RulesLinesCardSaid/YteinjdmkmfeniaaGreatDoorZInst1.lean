/- Several texts in one: InstB. -/
import Derived.Test.YteinjdmkmfeniaaGreatDoorZPkg1
import Derived.Test.YteinjdmkmfeniaaGreatDoorZPkg2
import Derived.LoopN
import Derived.Outline
import Derived.Deep.Cut
import Derived.Deep.RegionHeld3
import Derived.OwnWalk
namespace Go.Proofs.YteinjdmkmfeniaaGreatDoor
set_option linter.unusedVariables false
set_option linter.unusedSimpArgs false
open Go.ChangeShapes Go.WideShapes Go.ChangeAt Go.RowKit
@[irreducible] def wmB (n : Int) : Bool := decide (0 ≤ n) && decide (n < 1000000000)
theorem wmB_true {n : Int} (h1 : 0 ≤ n) (h2 : n < 1000000000) : wmB n = true := by unfold wmB; rw [decide_eq_true h1, decide_eq_true h2]; rfl
@[irreducible] def ckI (s n : Int) : Int := if wmB n = true then (if s < -377705116800 ∨ 253402300799 < s then 8 else 0) else 5
theorem ckI_ok {s n : Int} (h : wmB n = true) (h2 : ¬ (s < -377705116800 ∨ 253402300799 < s)) : ckI s n = 0 := by unfold ckI; rw [if_pos h, if_neg h2]
end Go.Proofs.YteinjdmkmfeniaaGreatDoor
