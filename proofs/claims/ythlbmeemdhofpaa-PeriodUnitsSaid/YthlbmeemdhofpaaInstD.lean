/- Contracts of package instant: numbers as instants and back. -/
import Derived.Test.YthlbmeemdhofpaaInstC
import Derived.Test.YthlbmeemdhofpaaLotQ
import Derived.Outline
import Derived.Deep.Cut
import Derived.Deep.RegionHeld3
import Derived.Test.YthlbmeemdhofpaaLotP
import Derived.Test.YthlbmeemdhofpaaRFloorC
namespace Go.Proofs.Ythlbmeemdhofpaa
set_option linter.unusedVariables false
set_option linter.unusedSimpArgs false
open Go.ChangeShapes Go.WideShapes Go.ChangeAt Go.RowKit

theorem giga_in (x : Int) (b : in128 x) : in128 (x / 1000000000) := by unfold in128 at *; omega
theorem nanos_in {s n : Int} (bs : in64 s) (bn : in64 n) : in128 (nanos s n) := by unfold in64 at *; unfold in128 nanos; omega
/-- an instant's number: 0 beside an error. -/
def nnI (s n : Int) : Int := if ckI s n = 0 then nanos s n else 0
theorem zh_zero : zh 0 = 0 := by unfold zh hi zw; rfl
theorem zl_zero : zl 0 = 0 := by unfold zl lo zw; rfl
end Go.Proofs.Ythlbmeemdhofpaa
