/-
  NARROWER THAN 'FOR EVERY INPUT', by the rows' own cells (each row's printed sentence says how): UntilDates: laid · UntilAdds: laid · UntilGreedy: laid · UntilDays: laid.
  DERIVED. THE GIVEN ROWS OF THIS SEAT. 4 by the template 'for every input the law returns true; each argument reads behind the call as it read before'; 0 by the template 'total and deterministic' (their statements: YtoopbgpoelpjfaaDoorTotals.lean).
  GIVEN WITH THE SEED: the statements are not yours to turn. If you find one false, say at which input.
  Laid BY PROGRAM, IN A SANDBOX (cutbox-rows.mjs): the forced cells as the released guide's own fill.sh prints them over the translation 650b191866120492… (all of the seat's roots in one cut). By AI agents, Wed Nov 11 2026. No macro, syntax, notation, axiom, sorry.
-/
import Derived.Test.YtoopbgpoelpjfaaDoorChecked
import GoSem.Claim
import GoSem.ClaimJoined
import GoSem.ClaimMapViews
import Derived.JoinedTies
import Derived.KernelRfl
namespace Go.Proofs.YtoopbgpoelpjfaaDoor
/- THE CELL 'sum', in the pinned program and in every row, IS THE sha256 OF THE DUMP (.gsa) THAT YtoopbgpoelpjfaaDoorProg.lean LOADS. Nothing in Lean hashes anything: it is a label: what it is worth is what the hold of that sum in a sandbox is worth. -/
noncomputable def Tryd.pinned : Pinned := { name := "ytoopbgpoelpjfaadoor", sum := "650b191866120492b7eca2cb21fd5ec552176c173cdf7b635e5d07c2b6fcdd2e", checked := Tryd.checked }
namespace Rows
def none {H : Type} : Left H := { results := [], args := [] }

/- WHAT THE LISTED PACKAGE-LEVEL VARIABLES READ AS WHEN THE CALL BEGINS. Each datum BY PROGRAM (the guide's laid-datum.mjs) off the statement by which the dump's own 'gosem.cut.vars' lays the variable. In a bare row this is a premise. The card (YtoopbgpoelpjfaaDoorCards.lean) ties it to the program's text. -/
def laid_analemma_civil_monthDays {H : Type} : DataW H := .agg [.lit (.int .i64 31), .lit (.int .i64 28), .lit (.int .i64 31), .lit (.int .i64 30), .lit (.int .i64 31), .lit (.int .i64 30), .lit (.int .i64 31), .lit (.int .i64 31), .lit (.int .i64 30), .lit (.int .i64 31), .lit (.int .i64 30), .lit (.int .i64 31)]

/-- 'analemmalaw12.UntilDates': WHATEVER THE INPUT: true; the input reads as it did. -/
def untilDatesSpec : ChangeSpec := { name := "untilDates", fn := fun _ => fun
  | [d1, d2] => { results := [.lit (.bool true)], args := [d1, d2] }
  | _ => none }
def untilDatesRow : OpenClaim := { program := "ytoopbgpoelpjfaadoor", sum := "650b191866120492b7eca2cb21fd5ec552176c173cdf7b635e5d07c2b6fcdd2e", func := "analemma/analemmalaw12.UntilDates", spec := "untilDates", inPlace := ["math/bits.Add64", "math/bits.Sub64"], unfollowed := true, recurses := true, named := ["analemma/civil.monthDays", "math/bits.divideError", "math/bits.overflowError"], apart := false, laid := [("analemma/civil.monthDays", laid_analemma_civil_monthDays)] }
def UntilDatesSaid : Prop := untilDatesRow.holds Tryd.pinned (OpenSpec.ofChange untilDatesSpec)

/-- ITS FALSE NEIGHBOUR: 'it returns false'. Refute it at one input. -/
def untilDatesWrong : ChangeSpec := { name := "untilDates", fn := fun _ => fun
  | [d1, d2] => { results := [.lit (.bool false)], args := [d1, d2] }
  | _ => none }
def UntilDatesWrongFalsely : Prop := untilDatesRow.holds Tryd.pinned (OpenSpec.ofChange untilDatesWrong)

/-- 'analemmalaw12.UntilAdds': WHATEVER THE INPUT: true; the input reads as it did. -/
def untilAddsSpec : ChangeSpec := { name := "untilAdds", fn := fun _ => fun
  | [d1, d2] => { results := [.lit (.bool true)], args := [d1, d2] }
  | _ => none }
def untilAddsRow : OpenClaim := { program := "ytoopbgpoelpjfaadoor", sum := "650b191866120492b7eca2cb21fd5ec552176c173cdf7b635e5d07c2b6fcdd2e", func := "analemma/analemmalaw12.UntilAdds", spec := "untilAdds", inPlace := ["math/bits.Add64", "math/bits.Sub64"], unfollowed := true, recurses := true, named := ["analemma/civil.monthDays", "math/bits.divideError", "math/bits.overflowError"], apart := false, laid := [("analemma/civil.monthDays", laid_analemma_civil_monthDays)] }
def UntilAddsSaid : Prop := untilAddsRow.holds Tryd.pinned (OpenSpec.ofChange untilAddsSpec)

/-- ITS FALSE NEIGHBOUR: 'it returns false'. Refute it at one input. -/
def untilAddsWrong : ChangeSpec := { name := "untilAdds", fn := fun _ => fun
  | [d1, d2] => { results := [.lit (.bool false)], args := [d1, d2] }
  | _ => none }
def UntilAddsWrongFalsely : Prop := untilAddsRow.holds Tryd.pinned (OpenSpec.ofChange untilAddsWrong)

/-- 'analemmalaw12.UntilGreedy': WHATEVER THE INPUT: true; the input reads as it did. -/
def untilGreedySpec : ChangeSpec := { name := "untilGreedy", fn := fun _ => fun
  | [d1, d2] => { results := [.lit (.bool true)], args := [d1, d2] }
  | _ => none }
def untilGreedyRow : OpenClaim := { program := "ytoopbgpoelpjfaadoor", sum := "650b191866120492b7eca2cb21fd5ec552176c173cdf7b635e5d07c2b6fcdd2e", func := "analemma/analemmalaw12.UntilGreedy", spec := "untilGreedy", inPlace := ["math/bits.Add64", "math/bits.Sub64"], unfollowed := true, recurses := true, named := ["analemma/civil.monthDays", "math/bits.divideError", "math/bits.overflowError"], apart := false, laid := [("analemma/civil.monthDays", laid_analemma_civil_monthDays)] }
def UntilGreedySaid : Prop := untilGreedyRow.holds Tryd.pinned (OpenSpec.ofChange untilGreedySpec)

/-- ITS FALSE NEIGHBOUR: 'it returns false'. Refute it at one input. -/
def untilGreedyWrong : ChangeSpec := { name := "untilGreedy", fn := fun _ => fun
  | [d1, d2] => { results := [.lit (.bool false)], args := [d1, d2] }
  | _ => none }
def UntilGreedyWrongFalsely : Prop := untilGreedyRow.holds Tryd.pinned (OpenSpec.ofChange untilGreedyWrong)

/-- 'analemmalaw12.UntilDays': WHATEVER THE INPUT: true; the input reads as it did. -/
def untilDaysSpec : ChangeSpec := { name := "untilDays", fn := fun _ => fun
  | [d1, d2] => { results := [.lit (.bool true)], args := [d1, d2] }
  | _ => none }
def untilDaysRow : OpenClaim := { program := "ytoopbgpoelpjfaadoor", sum := "650b191866120492b7eca2cb21fd5ec552176c173cdf7b635e5d07c2b6fcdd2e", func := "analemma/analemmalaw12.UntilDays", spec := "untilDays", inPlace := ["math/bits.Add64", "math/bits.Sub64"], unfollowed := true, recurses := true, named := ["analemma/civil.monthDays", "math/bits.divideError", "math/bits.overflowError"], apart := false, laid := [("analemma/civil.monthDays", laid_analemma_civil_monthDays)] }
def UntilDaysSaid : Prop := untilDaysRow.holds Tryd.pinned (OpenSpec.ofChange untilDaysSpec)

/-- ITS FALSE NEIGHBOUR: 'it returns false'. Refute it at one input. -/
def untilDaysWrong : ChangeSpec := { name := "untilDays", fn := fun _ => fun
  | [d1, d2] => { results := [.lit (.bool false)], args := [d1, d2] }
  | _ => none }
def UntilDaysWrongFalsely : Prop := untilDaysRow.holds Tryd.pinned (OpenSpec.ofChange untilDaysWrong)

/- THE SECOND FORM. 'bulk': how many values and letters a reading holds, each counted each time it is reached (what is shared counts as often as it is met; a slice's spare places count too). A statement '..UptoSaid' is the law's where the arguments, and the package variables that the reading takes, are together of bulk at most 1048576: NARROWER than '..Said'. Prove '..Said' where nothing that the law and all that it calls make is longer than what came in: it says more and counts as full. Else prove '..UptoSaid'. A law counts once. -/
mutual
def uptoBulk {H : Type} : DataW H → Nat
  | .lit (.string bytes) => bytes.length + 1
  | .lit _ => 1
  | .nil => 1
  | .ptr d => uptoBulk d + 1
  | .slice elems spare => uptoBulkAll elems + uptoBulkAll spare + 1
  | .agg parts => uptoBulkAll parts + 1
  | .iface _ d => uptoBulk d + 1
  | .map entries => uptoBulkEntries entries + 1
  | .held _ => 1
def uptoBulkAll {H : Type} : List (DataW H) → Nat
  | [] => 0
  | d :: r => uptoBulk d + uptoBulkAll r
def uptoBulkEntries {H : Type} : List (Lit × DataW H) → Nat
  | [] => 0
  | x :: r => uptoBulkEntry x + uptoBulkEntries r
def uptoBulkEntry {H : Type} : Lit × DataW H → Nat
  | (.string bytes, d) => bytes.length + uptoBulk d + 1
  | (_, d) => uptoBulk d + 1
 end
def uptoSmall : (H : Type) → List (DataW H) → Bool := fun _ ds => decide (uptoBulkAll ds ≤ 1048576)
def OpenSpec.upto (s : _root_.Go.ChangeSpec) : _root_.Go.OpenSpec := { _root_.Go.OpenSpec.ofChange s with cond := some uptoSmall }

/-- 'analemmalaw12.UntilDates', WHERE WHAT IT READS IS OF BULK AT MOST 1048576: true; the input reads as it did. -/
def untilDatesUptoRow : OpenClaim := { program := "ytoopbgpoelpjfaadoor", sum := "650b191866120492b7eca2cb21fd5ec552176c173cdf7b635e5d07c2b6fcdd2e", func := "analemma/analemmalaw12.UntilDates", spec := "untilDates", inPlace := ["math/bits.Add64", "math/bits.Sub64"], unfollowed := true, recurses := true, named := ["analemma/civil.monthDays", "math/bits.divideError", "math/bits.overflowError"], apart := false, laid := [("analemma/civil.monthDays", laid_analemma_civil_monthDays)], narrowed := true }
def UntilDatesUptoSaid : Prop := untilDatesUptoRow.holds Tryd.pinned (OpenSpec.upto untilDatesSpec)

/-- 'analemmalaw12.UntilAdds', WHERE WHAT IT READS IS OF BULK AT MOST 1048576: true; the input reads as it did. -/
def untilAddsUptoRow : OpenClaim := { program := "ytoopbgpoelpjfaadoor", sum := "650b191866120492b7eca2cb21fd5ec552176c173cdf7b635e5d07c2b6fcdd2e", func := "analemma/analemmalaw12.UntilAdds", spec := "untilAdds", inPlace := ["math/bits.Add64", "math/bits.Sub64"], unfollowed := true, recurses := true, named := ["analemma/civil.monthDays", "math/bits.divideError", "math/bits.overflowError"], apart := false, laid := [("analemma/civil.monthDays", laid_analemma_civil_monthDays)], narrowed := true }
def UntilAddsUptoSaid : Prop := untilAddsUptoRow.holds Tryd.pinned (OpenSpec.upto untilAddsSpec)

/-- 'analemmalaw12.UntilGreedy', WHERE WHAT IT READS IS OF BULK AT MOST 1048576: true; the input reads as it did. -/
def untilGreedyUptoRow : OpenClaim := { program := "ytoopbgpoelpjfaadoor", sum := "650b191866120492b7eca2cb21fd5ec552176c173cdf7b635e5d07c2b6fcdd2e", func := "analemma/analemmalaw12.UntilGreedy", spec := "untilGreedy", inPlace := ["math/bits.Add64", "math/bits.Sub64"], unfollowed := true, recurses := true, named := ["analemma/civil.monthDays", "math/bits.divideError", "math/bits.overflowError"], apart := false, laid := [("analemma/civil.monthDays", laid_analemma_civil_monthDays)], narrowed := true }
def UntilGreedyUptoSaid : Prop := untilGreedyUptoRow.holds Tryd.pinned (OpenSpec.upto untilGreedySpec)

/-- 'analemmalaw12.UntilDays', WHERE WHAT IT READS IS OF BULK AT MOST 1048576: true; the input reads as it did. -/
def untilDaysUptoRow : OpenClaim := { program := "ytoopbgpoelpjfaadoor", sum := "650b191866120492b7eca2cb21fd5ec552176c173cdf7b635e5d07c2b6fcdd2e", func := "analemma/analemmalaw12.UntilDays", spec := "untilDays", inPlace := ["math/bits.Add64", "math/bits.Sub64"], unfollowed := true, recurses := true, named := ["analemma/civil.monthDays", "math/bits.divideError", "math/bits.overflowError"], apart := false, laid := [("analemma/civil.monthDays", laid_analemma_civil_monthDays)], narrowed := true }
def UntilDaysUptoSaid : Prop := untilDaysUptoRow.holds Tryd.pinned (OpenSpec.upto untilDaysSpec)

end Rows
end Go.Proofs.YtoopbgpoelpjfaaDoor
