/-
  NARROWER THAN 'FOR EVERY INPUT', by the rows' own cells (each row's printed sentence says how): MonthsAdds: laid · MonthsLasts: laid · MonthsBack: laid · MonthsClamped: laid.
  DERIVED. THE GIVEN ROWS OF THIS SEAT. 4 by the template 'for every input the law returns true; each argument reads behind the call as it read before'; 0 by the template 'total and deterministic' (their statements: YtacepnmagdpecaaDoorTotals.lean).
  GIVEN WITH THE SEED: the statements are not yours to turn. If you find one false, say at which input.
  Laid BY PROGRAM, IN A SANDBOX (cutbox-rows.mjs): the forced cells as the released guide's own fill.sh prints them over the translation 66faf856d5957bdc… (all of the seat's roots in one cut). By AI agents, Wed Nov 11 2026. No macro, syntax, notation, axiom, sorry.
-/
import Derived.Test.YtacepnmagdpecaaDoorChecked
import GoSem.Claim
import GoSem.ClaimJoined
import GoSem.ClaimMapViews
import Derived.JoinedTies
import Derived.KernelRfl
namespace Go.Proofs.YtacepnmagdpecaaDoor
/- THE CELL 'sum', in the pinned program and in every row, IS THE sha256 OF THE DUMP (.gsa) THAT YtacepnmagdpecaaDoorProg.lean LOADS. Nothing in Lean hashes anything: it is a label: what it is worth is what the hold of that sum in a sandbox is worth. -/
noncomputable def Tryd.pinned : Pinned := { name := "ytacepnmagdpecaadoor", sum := "66faf856d5957bdcd1f5b2ad1d2cd001206c8b7a21cda569fbe1bc0d8d512f21", checked := Tryd.checked }
namespace Rows
def none {H : Type} : Left H := { results := [], args := [] }

/- WHAT THE LISTED PACKAGE-LEVEL VARIABLES READ AS WHEN THE CALL BEGINS. Each datum BY PROGRAM (the guide's laid-datum.mjs) off the statement by which the dump's own 'gosem.cut.vars' lays the variable. In a bare row this is a premise. The card (YtacepnmagdpecaaDoorCards.lean) ties it to the program's text. -/
def laid_analemma_civil_monthDays {H : Type} : DataW H := .agg [.lit (.int .i64 31), .lit (.int .i64 28), .lit (.int .i64 31), .lit (.int .i64 30), .lit (.int .i64 31), .lit (.int .i64 30), .lit (.int .i64 31), .lit (.int .i64 31), .lit (.int .i64 30), .lit (.int .i64 31), .lit (.int .i64 30), .lit (.int .i64 31)]

/-- 'analemmalaw11.MonthsAdds': WHATEVER THE INPUT: true; the input reads as it did. -/
def monthsAddsSpec : ChangeSpec := { name := "monthsAdds", fn := fun _ => fun
  | [d1, d2, d3] => { results := [.lit (.bool true)], args := [d1, d2, d3] }
  | _ => none }
def monthsAddsRow : OpenClaim := { program := "ytacepnmagdpecaadoor", sum := "66faf856d5957bdcd1f5b2ad1d2cd001206c8b7a21cda569fbe1bc0d8d512f21", func := "analemma/analemmalaw11.MonthsAdds", spec := "monthsAdds", inPlace := ["math/bits.Add64", "math/bits.Sub64"], unfollowed := true, recurses := true, named := ["analemma/civil.monthDays", "math/bits.divideError", "math/bits.overflowError"], apart := false, laid := [("analemma/civil.monthDays", laid_analemma_civil_monthDays)] }
def MonthsAddsSaid : Prop := monthsAddsRow.holds Tryd.pinned (OpenSpec.ofChange monthsAddsSpec)

/-- ITS FALSE NEIGHBOUR: 'it returns false'. Refute it at one input. -/
def monthsAddsWrong : ChangeSpec := { name := "monthsAdds", fn := fun _ => fun
  | [d1, d2, d3] => { results := [.lit (.bool false)], args := [d1, d2, d3] }
  | _ => none }
def MonthsAddsWrongFalsely : Prop := monthsAddsRow.holds Tryd.pinned (OpenSpec.ofChange monthsAddsWrong)

/-- 'analemmalaw11.MonthsLasts': WHATEVER THE INPUT: true; the input reads as it did. -/
def monthsLastsSpec : ChangeSpec := { name := "monthsLasts", fn := fun _ => fun
  | [d] => { results := [.lit (.bool true)], args := [d] }
  | _ => none }
def monthsLastsRow : OpenClaim := { program := "ytacepnmagdpecaadoor", sum := "66faf856d5957bdcd1f5b2ad1d2cd001206c8b7a21cda569fbe1bc0d8d512f21", func := "analemma/analemmalaw11.MonthsLasts", spec := "monthsLasts", inPlace := ["math/bits.Add64", "math/bits.Sub64"], unfollowed := true, recurses := true, named := ["analemma/civil.monthDays", "math/bits.divideError", "math/bits.overflowError"], apart := false, laid := [("analemma/civil.monthDays", laid_analemma_civil_monthDays)] }
def MonthsLastsSaid : Prop := monthsLastsRow.holds Tryd.pinned (OpenSpec.ofChange monthsLastsSpec)

/-- ITS FALSE NEIGHBOUR: 'it returns false'. Refute it at one input. -/
def monthsLastsWrong : ChangeSpec := { name := "monthsLasts", fn := fun _ => fun
  | [d] => { results := [.lit (.bool false)], args := [d] }
  | _ => none }
def MonthsLastsWrongFalsely : Prop := monthsLastsRow.holds Tryd.pinned (OpenSpec.ofChange monthsLastsWrong)

/-- 'analemmalaw11.MonthsBack': WHATEVER THE INPUT: true; the input reads as it did. -/
def monthsBackSpec : ChangeSpec := { name := "monthsBack", fn := fun _ => fun
  | [d1, d2] => { results := [.lit (.bool true)], args := [d1, d2] }
  | _ => none }
def monthsBackRow : OpenClaim := { program := "ytacepnmagdpecaadoor", sum := "66faf856d5957bdcd1f5b2ad1d2cd001206c8b7a21cda569fbe1bc0d8d512f21", func := "analemma/analemmalaw11.MonthsBack", spec := "monthsBack", inPlace := ["math/bits.Add64", "math/bits.Sub64"], unfollowed := true, recurses := true, named := ["analemma/civil.monthDays", "math/bits.divideError", "math/bits.overflowError"], apart := false, laid := [("analemma/civil.monthDays", laid_analemma_civil_monthDays)] }
def MonthsBackSaid : Prop := monthsBackRow.holds Tryd.pinned (OpenSpec.ofChange monthsBackSpec)

/-- ITS FALSE NEIGHBOUR: 'it returns false'. Refute it at one input. -/
def monthsBackWrong : ChangeSpec := { name := "monthsBack", fn := fun _ => fun
  | [d1, d2] => { results := [.lit (.bool false)], args := [d1, d2] }
  | _ => none }
def MonthsBackWrongFalsely : Prop := monthsBackRow.holds Tryd.pinned (OpenSpec.ofChange monthsBackWrong)

/-- 'analemmalaw11.MonthsClamped': WHATEVER THE INPUT: true; the input reads as it did. -/
def monthsClampedSpec : ChangeSpec := { name := "monthsClamped", fn := fun _ => fun
  | [d1, d2] => { results := [.lit (.bool true)], args := [d1, d2] }
  | _ => none }
def monthsClampedRow : OpenClaim := { program := "ytacepnmagdpecaadoor", sum := "66faf856d5957bdcd1f5b2ad1d2cd001206c8b7a21cda569fbe1bc0d8d512f21", func := "analemma/analemmalaw11.MonthsClamped", spec := "monthsClamped", inPlace := ["math/bits.Add64", "math/bits.Sub64"], unfollowed := true, recurses := true, named := ["analemma/civil.monthDays", "math/bits.divideError", "math/bits.overflowError"], apart := false, laid := [("analemma/civil.monthDays", laid_analemma_civil_monthDays)] }
def MonthsClampedSaid : Prop := monthsClampedRow.holds Tryd.pinned (OpenSpec.ofChange monthsClampedSpec)

/-- ITS FALSE NEIGHBOUR: 'it returns false'. Refute it at one input. -/
def monthsClampedWrong : ChangeSpec := { name := "monthsClamped", fn := fun _ => fun
  | [d1, d2] => { results := [.lit (.bool false)], args := [d1, d2] }
  | _ => none }
def MonthsClampedWrongFalsely : Prop := monthsClampedRow.holds Tryd.pinned (OpenSpec.ofChange monthsClampedWrong)

/- THE SECOND FORM. 'bulk': how many values and letters a reading holds, each counted each time it is reached (what is shared counts as often as it is met; a slice's spare places count too). A statement '..UptoSaid' is the law's where the arguments, and the package variables that the reading takes, are together of bulk at most 1048576: NARROWER than '..Said'. Prove '..Said' where nothing that the law and all that it calls make is longer than what came in: it says more and counts as full. Else prove '..UptoSaid'. A law counts once. -/
mutual
def uptoBulk {H : Type} : DataW H → Nat
  | .lit (.string bytes) => bytes.length + 1
  | .lit _ => 1
  | .nil => 1
  | .ptr d => uptoBulk d + 1
  | .slice elems spare => uptoBulkAll elems + uptoBulkAll spare + 1
  | .agg parts => uptoBulkAll parts + 1
  | .iface _ d => uptoBulk d + 1
  | .map entries => uptoBulkEntries entries + 1
  | .held _ => 1
def uptoBulkAll {H : Type} : List (DataW H) → Nat
  | [] => 0
  | d :: r => uptoBulk d + uptoBulkAll r
def uptoBulkEntries {H : Type} : List (Lit × DataW H) → Nat
  | [] => 0
  | x :: r => uptoBulkEntry x + uptoBulkEntries r
def uptoBulkEntry {H : Type} : Lit × DataW H → Nat
  | (.string bytes, d) => bytes.length + uptoBulk d + 1
  | (_, d) => uptoBulk d + 1
 end
def uptoSmall : (H : Type) → List (DataW H) → Bool := fun _ ds => decide (uptoBulkAll ds ≤ 1048576)
def OpenSpec.upto (s : _root_.Go.ChangeSpec) : _root_.Go.OpenSpec := { _root_.Go.OpenSpec.ofChange s with cond := some uptoSmall }

/-- 'analemmalaw11.MonthsAdds', WHERE WHAT IT READS IS OF BULK AT MOST 1048576: true; the input reads as it did. -/
def monthsAddsUptoRow : OpenClaim := { program := "ytacepnmagdpecaadoor", sum := "66faf856d5957bdcd1f5b2ad1d2cd001206c8b7a21cda569fbe1bc0d8d512f21", func := "analemma/analemmalaw11.MonthsAdds", spec := "monthsAdds", inPlace := ["math/bits.Add64", "math/bits.Sub64"], unfollowed := true, recurses := true, named := ["analemma/civil.monthDays", "math/bits.divideError", "math/bits.overflowError"], apart := false, laid := [("analemma/civil.monthDays", laid_analemma_civil_monthDays)], narrowed := true }
def MonthsAddsUptoSaid : Prop := monthsAddsUptoRow.holds Tryd.pinned (OpenSpec.upto monthsAddsSpec)

/-- 'analemmalaw11.MonthsLasts', WHERE WHAT IT READS IS OF BULK AT MOST 1048576: true; the input reads as it did. -/
def monthsLastsUptoRow : OpenClaim := { program := "ytacepnmagdpecaadoor", sum := "66faf856d5957bdcd1f5b2ad1d2cd001206c8b7a21cda569fbe1bc0d8d512f21", func := "analemma/analemmalaw11.MonthsLasts", spec := "monthsLasts", inPlace := ["math/bits.Add64", "math/bits.Sub64"], unfollowed := true, recurses := true, named := ["analemma/civil.monthDays", "math/bits.divideError", "math/bits.overflowError"], apart := false, laid := [("analemma/civil.monthDays", laid_analemma_civil_monthDays)], narrowed := true }
def MonthsLastsUptoSaid : Prop := monthsLastsUptoRow.holds Tryd.pinned (OpenSpec.upto monthsLastsSpec)

/-- 'analemmalaw11.MonthsBack', WHERE WHAT IT READS IS OF BULK AT MOST 1048576: true; the input reads as it did. -/
def monthsBackUptoRow : OpenClaim := { program := "ytacepnmagdpecaadoor", sum := "66faf856d5957bdcd1f5b2ad1d2cd001206c8b7a21cda569fbe1bc0d8d512f21", func := "analemma/analemmalaw11.MonthsBack", spec := "monthsBack", inPlace := ["math/bits.Add64", "math/bits.Sub64"], unfollowed := true, recurses := true, named := ["analemma/civil.monthDays", "math/bits.divideError", "math/bits.overflowError"], apart := false, laid := [("analemma/civil.monthDays", laid_analemma_civil_monthDays)], narrowed := true }
def MonthsBackUptoSaid : Prop := monthsBackUptoRow.holds Tryd.pinned (OpenSpec.upto monthsBackSpec)

/-- 'analemmalaw11.MonthsClamped', WHERE WHAT IT READS IS OF BULK AT MOST 1048576: true; the input reads as it did. -/
def monthsClampedUptoRow : OpenClaim := { program := "ytacepnmagdpecaadoor", sum := "66faf856d5957bdcd1f5b2ad1d2cd001206c8b7a21cda569fbe1bc0d8d512f21", func := "analemma/analemmalaw11.MonthsClamped", spec := "monthsClamped", inPlace := ["math/bits.Add64", "math/bits.Sub64"], unfollowed := true, recurses := true, named := ["analemma/civil.monthDays", "math/bits.divideError", "math/bits.overflowError"], apart := false, laid := [("analemma/civil.monthDays", laid_analemma_civil_monthDays)], narrowed := true }
def MonthsClampedUptoSaid : Prop := monthsClampedUptoRow.holds Tryd.pinned (OpenSpec.upto monthsClampedSpec)

end Rows
end Go.Proofs.YtacepnmagdpecaaDoor
