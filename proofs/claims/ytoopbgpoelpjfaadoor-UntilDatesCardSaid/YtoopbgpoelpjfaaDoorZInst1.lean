/- Several texts in one: InstB, InstF. -/
import Derived.Test.YtoopbgpoelpjfaaDoorZPkg1
import Derived.Test.YtoopbgpoelpjfaaDoorZPkg2
import Derived.Test.YtoopbgpoelpjfaaDoorShelf
import Derived.Test.YtoopbgpoelpjfaaDoorZRFloorA1
import Derived.Test.YtoopbgpoelpjfaaDoorZRFloorB1
import Derived.Test.YtoopbgpoelpjfaaDoorZRFloorC1
import Derived.LoopN
import Derived.Outline
import Derived.Deep.Cut
import Derived.Deep.RegionHeld3
import Derived.OwnWalk
import Derived.Lib.Small
namespace Go.Proofs.YtoopbgpoelpjfaaDoor
set_option linter.unusedVariables false
set_option linter.unusedSimpArgs false
open Go.ChangeShapes Go.WideShapes Go.ChangeAt Go.RowKit
def ordI (a b : Int) : Int := if a < b then -1 else if b < a then 1 else 0
end Go.Proofs.YtoopbgpoelpjfaaDoor
namespace Go.Proofs.YtoopbgpoelpjfaaDoor
set_option linter.unusedVariables false
set_option linter.unusedSimpArgs false
open Go.ChangeShapes Go.WideShapes Go.ChangeAt Go.RowKit
theorem compareI (x y : Int) : Lib.compareInt x y = ordI x y := by
  unfold Lib.compareInt ordI
  rfl
theorem ccmp_any (x y : Int) (w : World) : Calls Tryd.prog 56 #[.int .i64 x, .int .i64 y] w fun e w' => e = .returned (.int .i64 (ordI x y)) ∧ Below w.heap.size w w' :=
  (Tryd.cmp_Compare_int x y w).mono fun e w' ⟨he, hw⟩ => ⟨by rw [he, compareI], by rw [hw]; exact Below.refl _ _⟩
end Go.Proofs.YtoopbgpoelpjfaaDoor
