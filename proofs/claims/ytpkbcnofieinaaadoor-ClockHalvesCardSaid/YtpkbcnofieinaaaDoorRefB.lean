/- Contract of the plain answer of layer 1: the sum of two rows of bits. -/
import Derived.Test.YtpkbcnofieinaaaDoorRefA
import Derived.WalkKit
import Derived.ProofKit
import Derived.OpenShut
import Derived.Handy
import Derived.Outline
import Derived.Lib.Hide
import Derived.Laws.Rows
import Derived.Deep.WholeRow
import Derived.Test.YtpkbcnofieinaaaDoorLotP
namespace Go.Proofs.YtpkbcnofieinaaaDoor
set_option linter.unusedVariables false
open Go.ChangeShapes Go.WideShapes Go.ChangeAt Go.RowKit

/-- The sum's bits while they are laid. -/
def smd (f g : Nat → Bool) (c : Bool) (i : Nat) : Nat → Bool := fun k => decide (k < i) && sm f g c k
theorem smd_zero (f g : Nat → Bool) (c : Bool) : smd f g c 0 = fun _ => false := by funext k; simp [smd]
theorem smd_succ (f g : Nat → Bool) (c : Bool) (i : Nat) : upd (smd f g c i) i (sm f g c i) = smd f g c (i + 1) := by
  funext k
  simp only [upd, smd]
  by_cases h2 : k = i
  · subst h2; simp
  · rw [if_neg h2, show decide (k < i) = decide (k < i + 1) by rw [decide_eq_decide]; omega]
theorem smd_end (f g : Nat → Bool) (c : Bool) : bv (smd f g c 128) = bv (sm f g c) := bv_congr fun k hk => by simp [smd, hk]

end Go.Proofs.YtpkbcnofieinaaaDoor
