/- Several texts in one: WpT. -/
import Derived.Test.YtlbeolialpmnmaaDoorZTab1
import Derived.Test.YtlbeolialpmnmaaDoorZWpC1
import Derived.Test.YtlbeolialpmnmaaDoorZShaped1
namespace Go.Proofs.YtlbeolialpmnmaaDoor
set_option linter.unusedVariables false
open Go.ChangeShapes Go.WideShapes Go.ChangeAt Go.RowKit
def laidTW : List (String × DataW Unit) := [("analemma/civil.monthDays", Lib.tabData .i64 mdT), ("analemma/clock.sizes", Lib.tabData .i64 szT), ("analemma/words.dayNames", strData dnT)]
theorem gDN : Tryd.prog.globalNamed "analemma/words.dayNames" = some 0 := by kernel_rfl
theorem tDN : (Tryd.prog.globals[0]?).map (·.type) = some 78 := by kernel_rfl
theorem cDN : Tryd.prog.cellsOf 78 = 7 := by kernel_rfl
theorem cStr : Tryd.prog.cellsOf 9 = 1 := by kernel_rfl
theorem ml_of_shaped {W : World} (h : W.ShapedOpen Tryd.prog) : ML W := by
  obtain ⟨m, hm⟩ := cell_of_shapedOpen_int (g := 1) (t := 3) (zero := #[.int .i64 0]) (k := .i64) h (of_decide_eq_true (by kernel_rfl)) (by kernel_rfl) rfl (by kernel_rfl) (by kernel_rfl) Tryd.underlying3
  exact ⟨⟨m, hm⟩, World.block_lt_of_cell? W ⟨1, 0, none⟩ hm⟩
set_option maxRecDepth 100000 in
theorem tw_of_laid {W : World} (h : laidMetH Tryd.prog laidTW W) (hs : W.ShapedOpen Tryd.prog) : TW W := by
  rw [MakeChecks.laidMetH_plain _ _ _ (by kernel_rfl)] at h
  have T := Lib.tabIs_of_head gMD tMD Tryd.underlying103 Tryd.underlying3 cInt cMD h
  have c : ∀ i : Nat, i < 12 → W.cell? ⟨3, i, none⟩ = some (.int .i64 (mdT.getD i 0)) := fun i hi => T.cell gMD i hi
  have T2 := Lib.tabIs_of_head gSZ tSZ Tryd.underlying90 Tryd.underlying3 cIntZ cSZ (laid_tail h)
  have c2 : ∀ i : Nat, i < 4 → W.cell? ⟨2, i, none⟩ = some (.int .i64 (szT.getD i 0)) := fun i hi => T2.cell gSZ i hi
  have T3 := strs_of_head gDN tDN Tryd.underlying78 Tryd.underlying9 cStr cDN (laid_tail (laid_tail h))
  have c3 : ∀ i : Nat, i < 7 → W.cell? ⟨0, i, none⟩ = some (.string (bs (dnT.getD i []))) := fun i hi => T3 i _ (by
    have hl : i < dnT.length := hi
    rw [List.getElem?_eq_getElem hl]; simp [List.getD, hl])
  exact ⟨⟨⟨c, World.block_lt_of_cell? W ⟨3, 0, none⟩ (c 0 (by decide))⟩, ⟨c2, World.block_lt_of_cell? W ⟨2, 0, none⟩ (c2 0 (by decide))⟩⟩,
    ⟨c3, World.block_lt_of_cell? W ⟨0, 0, none⟩ (c3 0 (by decide))⟩, ml_of_shaped hs⟩
set_option maxRecDepth 100000 in
theorem door_tw (os : Os) (args : Array Value) : laidMetH Tryd.prog laidTW ((World.doorLaid Tryd.prog 400 os).forCall (fun _ _ => 0) ⟨#[], args, []⟩).memory :=
  laidMetH_of_parts3 (fuel := 8) (laidMet_of_run' 8 (by kernel_rfl) (by kernel_rfl)) (by kernel_rfl) (by kernel_rfl)
end Go.Proofs.YtlbeolialpmnmaaDoor
