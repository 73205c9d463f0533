/- The table of the months' days out of a row's condition, and the door's own heap meets it. -/
import Derived.Test.YtoghogpcgdcboaaDoorRows
import Derived.Test.YtoghogpcgdcboaaDoorCivG
import Derived.Lib.LaidTab
import Derived.LaidMore
import Derived.MakeChecks
import Derived.Stop.Joined
namespace Go.Proofs.YtoghogpcgdcboaaDoor
set_option linter.unusedVariables false
open Go.ChangeShapes Go.WideShapes Go.ChangeAt Go.RowKit

/-- what the rows list. -/
def laidMD : List (String × DataW Unit) := [("analemma/civil.monthDays", Lib.tabData .i64 mdT)]
theorem gMD : Tryd.prog.globalNamed "analemma/civil.monthDays" = some 0 := by kernel_rfl
theorem tMD : (Tryd.prog.globals[0]?).map (·.type) = some 48 := by kernel_rfl
theorem cMD : Tryd.prog.cellsOf 48 = 12 := by kernel_rfl
theorem cInt : Tryd.prog.cellsOf 3 = 1 := by kernel_rfl
set_option maxRecDepth 100000 in
theorem md_of_laid {W : World} (h : laidMetH Tryd.prog laidMD W) : MD W := by
  rw [MakeChecks.laidMetH_plain _ _ _ (by kernel_rfl)] at h
  have T := Lib.tabIs_of_head gMD tMD Tryd.underlying48 Tryd.underlying3 cInt cMD h
  have c : ∀ i : Nat, i < 12 → W.cell? ⟨0, i, none⟩ = some (.int .i64 (mdT.getD i 0)) := fun i hi => T.cell gMD i hi
  exact ⟨c, World.block_lt_of_cell? W ⟨0, 0, none⟩ (c 0 (by decide))⟩
set_option maxRecDepth 100000 in
theorem door_md (os : Os) (args : Array Value) : laidMetH Tryd.prog laidMD ((World.doorLaid Tryd.prog 400 os).forCall (fun _ _ => 0) ⟨#[], args, []⟩).memory :=
  laidMetH_of_parts3 (fuel := 8) (laidMet_of_run' 8 (by kernel_rfl) (by kernel_rfl)) (by kernel_rfl) (by kernel_rfl)
end Go.Proofs.YtoghogpcgdcboaaDoor
