/- Several texts in one: Tab, TabM. -/
import Derived.Test.YtafecnlaodgmkaaGreatDoorY2Clk1
import Derived.Test.YtafecnlaodgmkaaGreatDoorY2Civ1
import Derived.Test.YtafecnlaodgmkaaGreatDoorRows
import Derived.Lib.LaidTab
import Derived.LaidMore
import Derived.MakeChecks
import Derived.Stop.Joined
namespace Go.Proofs.YtafecnlaodgmkaaGreatDoor
set_option linter.unusedVariables false
open Go.ChangeShapes Go.WideShapes Go.ChangeAt Go.RowKit
structure TB (w : World) : Prop where
  md : MD w
  sz : SZ w
theorem tb_keep {w w' : World} (h : Hid (TB w)) (hb : Below w.heap.size w w') : TB w' := ⟨md_keep (Lib.hid h.out.md) hb, sz_keep (Lib.hid h.out.sz) hb⟩
end Go.Proofs.YtafecnlaodgmkaaGreatDoor
namespace Go.Proofs.YtafecnlaodgmkaaGreatDoor
set_option linter.unusedVariables false
open Go.ChangeShapes Go.WideShapes Go.ChangeAt Go.RowKit
theorem laid_tail {P : Program} {x : String × DataW Unit} {r : List (String × DataW Unit)} {w : World} (h : laidMet P (x :: r) w) : laidMet P r w := by
  obtain ⟨ps, ⟨g, t, cs, fuel, p, q, _, _, _, _, hq, rfl⟩, hn, hc⟩ := h
  exact ⟨q, hq, (List.nodup_append.1 hn).2.1, fun b off hb => hc b off (List.mem_append_right _ hb)⟩
end Go.Proofs.YtafecnlaodgmkaaGreatDoor
