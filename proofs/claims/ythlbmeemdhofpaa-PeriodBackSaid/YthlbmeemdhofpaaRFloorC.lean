/- Contracts of the plain answer's FloorDiv, FloorMod, MulDiv. -/
import Derived.Test.YthlbmeemdhofpaaLotQ
import Derived.Outline
import Derived.Deep.Cut
import Derived.Deep.RegionHeld3
import Derived.Test.YthlbmeemdhofpaaLotP
import Derived.OwnWalk
namespace Go.Proofs.Ythlbmeemdhofpaa
set_option linter.unusedVariables false
set_option linter.unusedSimpArgs false
open Go.ChangeShapes Go.WideShapes Go.ChangeAt Go.RowKit

theorem zh_one : zh 1 = 0 := by unfold zh hi zw; rfl
theorem zl_one : zl 1 = 1 := by unfold zl lo zw; rfl
theorem sg_t (c : Int) (r : Nat) (hc : c < 0) (h : r < 9223372036854775808) : ∃ t : Nat, IntKind.u64.wrap (-(r : Int)) = (t : Int) ∧ Hid (wrap64 (t : Int) = sg c r) := by
  refine ⟨(18446744073709551616 - r) % 18446744073709551616, ?_, ?_⟩
  · rw [IntKind.wrap_u64]; omega
  · show _ = _
    unfold wrap64 sg; rw [if_pos hc]; omega
theorem sg_f (c : Int) (r : Nat) (hc : ¬ c < 0) (h : r < 9223372036854775808) : Hid (wrap64 (r : Int) = sg c r) := by
  show _ = _
  unfold wrap64 sg; rw [if_neg hc]; omega
end Go.Proofs.Ythlbmeemdhofpaa
