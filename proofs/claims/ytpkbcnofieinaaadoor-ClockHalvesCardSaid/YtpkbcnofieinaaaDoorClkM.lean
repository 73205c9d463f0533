/- The table of the parts' sizes out of a row's condition, and the door's own heap meets it. -/
import Derived.Test.YtpkbcnofieinaaaDoorRows
import Derived.Test.YtpkbcnofieinaaaDoorClkC
import Derived.Lib.LaidTab
import Derived.LaidMore
import Derived.MakeChecks
import Derived.Stop.Joined
namespace Go.Proofs.YtpkbcnofieinaaaDoor
set_option linter.unusedVariables false
open Go.ChangeShapes Go.WideShapes Go.ChangeAt Go.RowKit

/-- what the rows list. -/
def laidSZ : List (String × DataW Unit) := [("analemma/clock.sizes", Lib.tabData .i64 szT)]
theorem gSZ : Tryd.prog.globalNamed "analemma/clock.sizes" = some 0 := by kernel_rfl
theorem tSZ : (Tryd.prog.globals[0]?).map (·.type) = some 51 := by kernel_rfl
theorem cSZ : Tryd.prog.cellsOf 51 = 4 := by kernel_rfl
theorem cIntZ : Tryd.prog.cellsOf 3 = 1 := by kernel_rfl
set_option maxRecDepth 100000 in
theorem sz_of_laid {W : World} (h : laidMetH Tryd.prog laidSZ W) : SZ W := by
  rw [MakeChecks.laidMetH_plain _ _ _ (by kernel_rfl)] at h
  have T := Lib.tabIs_of_head gSZ tSZ Tryd.underlying51 Tryd.underlying3 cIntZ cSZ h
  have c : ∀ i : Nat, i < 4 → W.cell? ⟨0, i, none⟩ = some (.int .i64 (szT.getD i 0)) := fun i hi => T.cell gSZ i hi
  exact ⟨c, World.block_lt_of_cell? W ⟨0, 0, none⟩ (c 0 (by decide))⟩
set_option maxRecDepth 100000 in
theorem door_sz (os : Os) (args : Array Value) : laidMetH Tryd.prog laidSZ ((World.doorLaid Tryd.prog 400 os).forCall (fun _ _ => 0) ⟨#[], args, []⟩).memory :=
  laidMetH_of_parts3 (fuel := 8) (laidMet_of_run' 8 (by kernel_rfl) (by kernel_rfl)) (by kernel_rfl) (by kernel_rfl)
end Go.Proofs.YtpkbcnofieinaaaDoor
