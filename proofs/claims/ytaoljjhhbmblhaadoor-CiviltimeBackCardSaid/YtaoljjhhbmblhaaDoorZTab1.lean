/- Several texts in one: Tab, TabM. -/
import Derived.Test.YtaoljjhhbmblhaaDoorZClk1
import Derived.Test.YtaoljjhhbmblhaaDoorZCiv1
import Derived.Test.YtaoljjhhbmblhaaDoorZCiv2
namespace Go.Proofs.YtaoljjhhbmblhaaDoor
set_option linter.unusedVariables false
open Go.ChangeShapes Go.WideShapes Go.ChangeAt Go.RowKit
structure TB (w : World) : Prop where
  md : MD w
  sz : SZ w
theorem tb_keep {w w' : World} (h : Hid (TB w)) (hb : Below w.heap.size w w') : TB w' := ⟨md_keep (Lib.hid h.out.md) hb, sz_keep (Lib.hid h.out.sz) hb⟩
end Go.Proofs.YtaoljjhhbmblhaaDoor
namespace Go.Proofs.YtaoljjhhbmblhaaDoor
set_option linter.unusedVariables false
open Go.ChangeShapes Go.WideShapes Go.ChangeAt Go.RowKit
def laidTB : List (String × DataW Unit) := [("analemma/civil.monthDays", Lib.tabData .i64 mdT), ("analemma/clock.sizes", Lib.tabData .i64 szT)]
theorem laid_tail {P : Program} {x : String × DataW Unit} {r : List (String × DataW Unit)} {w : World} (h : laidMet P (x :: r) w) : laidMet P r w := by
  obtain ⟨ps, ⟨g, t, cs, fuel, p, q, _, _, _, _, hq, rfl⟩, hn, hc⟩ := h
  exact ⟨q, hq, (List.nodup_append.1 hn).2.1, fun b off hb => hc b off (List.mem_append_right _ hb)⟩
set_option maxRecDepth 100000 in
theorem tb_of_laid {W : World} (h : laidMetH Tryd.prog laidTB W) : TB W := by
  rw [MakeChecks.laidMetH_plain _ _ _ (by kernel_rfl)] at h
  have T := Lib.tabIs_of_head gMD tMD Tryd.underlying114 Tryd.underlying3 cInt cMD h
  have c : ∀ i : Nat, i < 12 → W.cell? ⟨1, i, none⟩ = some (.int .i64 (mdT.getD i 0)) := fun i hi => T.cell gMD i hi
  have T2 := Lib.tabIs_of_head gSZ tSZ Tryd.underlying89 Tryd.underlying3 cIntZ cSZ (laid_tail h)
  have c2 : ∀ i : Nat, i < 4 → W.cell? ⟨0, i, none⟩ = some (.int .i64 (szT.getD i 0)) := fun i hi => T2.cell gSZ i hi
  exact ⟨⟨c, World.block_lt_of_cell? W ⟨1, 0, none⟩ (c 0 (by decide))⟩, ⟨c2, World.block_lt_of_cell? W ⟨0, 0, none⟩ (c2 0 (by decide))⟩⟩
set_option maxRecDepth 100000 in
theorem door_tb (os : Os) (args : Array Value) : laidMetH Tryd.prog laidTB ((World.doorLaid Tryd.prog 400 os).forCall (fun _ _ => 0) ⟨#[], args, []⟩).memory :=
  laidMetH_of_parts3 (fuel := 8) (laidMet_of_run' 8 (by kernel_rfl) (by kernel_rfl)) (by kernel_rfl) (by kernel_rfl)
end Go.Proofs.YtaoljjhhbmblhaaDoor
