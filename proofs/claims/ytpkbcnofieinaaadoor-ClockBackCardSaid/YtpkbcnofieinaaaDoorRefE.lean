/- Contracts of the plain answers of layer 1: difference. -/
import Derived.Test.YtpkbcnofieinaaaDoorRefD
import Derived.WalkKit
import Derived.ProofKit
import Derived.OpenShut
import Derived.Handy
import Derived.Outline
import Derived.Lib.Hide
import Derived.Deep.RegionHeld3
import Derived.Deep.WholeRow
import Derived.Deep.DeepCutAuto
import Derived.Test.YtpkbcnofieinaaaDoorLotP
namespace Go.Proofs.YtpkbcnofieinaaaDoor
set_option linter.unusedVariables false
open Go.ChangeShapes Go.WideShapes Go.ChangeAt Go.RowKit

theorem sm_sub (A B : Nat) (hA : A < 340282366920938463463374607431768211456) (hB : B < 340282366920938463463374607431768211456) :
    hi (val (sm A.testBit (fun k => !B.testBit k) true) 128) = hi (A + 340282366920938463463374607431768211456 - B) ∧ lo (val (sm A.testBit (fun k => !B.testBit k) true) 128) = lo (A + 340282366920938463463374607431768211456 - B) ∧ cr A.testBit (fun k => !B.testBit k) true 128 = !decide (A < B) := by
  have h := sum_val A.testBit (fun k => !B.testBit k) true 128
  have hn := val_not B.testBit 128
  rw [val_testBit] at h hn
  have hs := val_lt (sm A.testBit (fun k => !B.testBit k) true) 128
  generalize val (sm A.testBit (fun k => !B.testBit k) true) 128 = s at *
  generalize cr A.testBit (fun k => !B.testBit k) true 128 = c at *
  generalize val (fun k => !B.testBit k) 128 = t at *
  unfold hi lo
  cases c <;> simp at h <;> simp <;> omega

end Go.Proofs.YtpkbcnofieinaaaDoor
