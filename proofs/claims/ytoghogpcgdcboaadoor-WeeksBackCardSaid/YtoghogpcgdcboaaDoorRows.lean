/-
  NARROWER THAN 'FOR EVERY INPUT', by the rows' own cells (each row's printed sentence says how): WeeksOf: laid · WeeksDates: laid · WeeksBack: laid · WeeksThursdays: laid · WeeksSum: laid.
  DERIVED. THE GIVEN ROWS OF THIS SEAT. 5 by the template 'for every input the law returns true; each argument reads behind the call as it read before'; 0 by the template 'total and deterministic' (their statements: YtoghogpcgdcboaaDoorTotals.lean).
  GIVEN WITH THE SEED: the statements are not yours to turn. If you find one false, say at which input.
  Laid BY PROGRAM, IN A SANDBOX (cutbox-rows.mjs): the forced cells as the released guide's own fill.sh prints them over the translation 802510d4bc1c9f04… (all of the seat's roots in one cut). By AI agents, Wed Nov 11 2026. No macro, syntax, notation, axiom, sorry.
-/
import Derived.Test.YtoghogpcgdcboaaDoorChecked
import GoSem.Claim
import GoSem.ClaimJoined
import GoSem.ClaimMapViews
import Derived.JoinedTies
import Derived.KernelRfl
namespace Go.Proofs.YtoghogpcgdcboaaDoor
/- THE CELL 'sum', in the pinned program and in every row, IS THE sha256 OF THE DUMP (.gsa) THAT YtoghogpcgdcboaaDoorProg.lean LOADS. Nothing in Lean hashes anything: it is a label: what it is worth is what the hold of that sum in a sandbox is worth. -/
noncomputable def Tryd.pinned : Pinned := { name := "ytoghogpcgdcboaadoor", sum := "802510d4bc1c9f040e1142ba92b450592ba8c66fab2b6564224c4df639ebd83f", checked := Tryd.checked }
namespace Rows
def none {H : Type} : Left H := { results := [], args := [] }

/- WHAT THE LISTED PACKAGE-LEVEL VARIABLES READ AS WHEN THE CALL BEGINS. Each datum BY PROGRAM (the guide's laid-datum.mjs) off the statement by which the dump's own 'gosem.cut.vars' lays the variable. In a bare row this is a premise. The card (YtoghogpcgdcboaaDoorCards.lean) ties it to the program's text. -/
def laid_analemma_civil_monthDays {H : Type} : DataW H := .agg [.lit (.int .i64 31), .lit (.int .i64 28), .lit (.int .i64 31), .lit (.int .i64 30), .lit (.int .i64 31), .lit (.int .i64 30), .lit (.int .i64 31), .lit (.int .i64 31), .lit (.int .i64 30), .lit (.int .i64 31), .lit (.int .i64 30), .lit (.int .i64 31)]

/-- 'analemmalaw07.WeeksOf': WHATEVER THE INPUT: true; the input reads as it did. -/
def weeksOfSpec : ChangeSpec := { name := "weeksOf", fn := fun _ => fun
  | [d] => { results := [.lit (.bool true)], args := [d] }
  | _ => none }
def weeksOfRow : OpenClaim := { program := "ytoghogpcgdcboaadoor", sum := "802510d4bc1c9f040e1142ba92b450592ba8c66fab2b6564224c4df639ebd83f", func := "analemma/analemmalaw07.WeeksOf", spec := "weeksOf", named := ["analemma/civil.monthDays"], apart := false, laid := [("analemma/civil.monthDays", laid_analemma_civil_monthDays)] }
def WeeksOfSaid : Prop := weeksOfRow.holds Tryd.pinned (OpenSpec.ofChange weeksOfSpec)

/-- ITS FALSE NEIGHBOUR: 'it returns false'. Refute it at one input. -/
def weeksOfWrong : ChangeSpec := { name := "weeksOf", fn := fun _ => fun
  | [d] => { results := [.lit (.bool false)], args := [d] }
  | _ => none }
def WeeksOfWrongFalsely : Prop := weeksOfRow.holds Tryd.pinned (OpenSpec.ofChange weeksOfWrong)

/-- 'analemmalaw07.WeeksDates': WHATEVER THE INPUT: true; the input reads as it did. -/
def weeksDatesSpec : ChangeSpec := { name := "weeksDates", fn := fun _ => fun
  | [d1, d2, d3] => { results := [.lit (.bool true)], args := [d1, d2, d3] }
  | _ => none }
def weeksDatesRow : OpenClaim := { program := "ytoghogpcgdcboaadoor", sum := "802510d4bc1c9f040e1142ba92b450592ba8c66fab2b6564224c4df639ebd83f", func := "analemma/analemmalaw07.WeeksDates", spec := "weeksDates", named := ["analemma/civil.monthDays"], apart := false, laid := [("analemma/civil.monthDays", laid_analemma_civil_monthDays)] }
def WeeksDatesSaid : Prop := weeksDatesRow.holds Tryd.pinned (OpenSpec.ofChange weeksDatesSpec)

/-- ITS FALSE NEIGHBOUR: 'it returns false'. Refute it at one input. -/
def weeksDatesWrong : ChangeSpec := { name := "weeksDates", fn := fun _ => fun
  | [d1, d2, d3] => { results := [.lit (.bool false)], args := [d1, d2, d3] }
  | _ => none }
def WeeksDatesWrongFalsely : Prop := weeksDatesRow.holds Tryd.pinned (OpenSpec.ofChange weeksDatesWrong)

/-- 'analemmalaw07.WeeksBack': WHATEVER THE INPUT: true; the input reads as it did. -/
def weeksBackSpec : ChangeSpec := { name := "weeksBack", fn := fun _ => fun
  | [d] => { results := [.lit (.bool true)], args := [d] }
  | _ => none }
def weeksBackRow : OpenClaim := { program := "ytoghogpcgdcboaadoor", sum := "802510d4bc1c9f040e1142ba92b450592ba8c66fab2b6564224c4df639ebd83f", func := "analemma/analemmalaw07.WeeksBack", spec := "weeksBack", named := ["analemma/civil.monthDays"], apart := false, laid := [("analemma/civil.monthDays", laid_analemma_civil_monthDays)] }
def WeeksBackSaid : Prop := weeksBackRow.holds Tryd.pinned (OpenSpec.ofChange weeksBackSpec)

/-- ITS FALSE NEIGHBOUR: 'it returns false'. Refute it at one input. -/
def weeksBackWrong : ChangeSpec := { name := "weeksBack", fn := fun _ => fun
  | [d] => { results := [.lit (.bool false)], args := [d] }
  | _ => none }
def WeeksBackWrongFalsely : Prop := weeksBackRow.holds Tryd.pinned (OpenSpec.ofChange weeksBackWrong)

/-- 'analemmalaw07.WeeksThursdays': WHATEVER THE INPUT: true; the input reads as it did. -/
def weeksThursdaysSpec : ChangeSpec := { name := "weeksThursdays", fn := fun _ => fun
  | [d] => { results := [.lit (.bool true)], args := [d] }
  | _ => none }
def weeksThursdaysRow : OpenClaim := { program := "ytoghogpcgdcboaadoor", sum := "802510d4bc1c9f040e1142ba92b450592ba8c66fab2b6564224c4df639ebd83f", func := "analemma/analemmalaw07.WeeksThursdays", spec := "weeksThursdays", named := ["analemma/civil.monthDays"], apart := false, laid := [("analemma/civil.monthDays", laid_analemma_civil_monthDays)] }
def WeeksThursdaysSaid : Prop := weeksThursdaysRow.holds Tryd.pinned (OpenSpec.ofChange weeksThursdaysSpec)

/-- ITS FALSE NEIGHBOUR: 'it returns false'. Refute it at one input. -/
def weeksThursdaysWrong : ChangeSpec := { name := "weeksThursdays", fn := fun _ => fun
  | [d] => { results := [.lit (.bool false)], args := [d] }
  | _ => none }
def WeeksThursdaysWrongFalsely : Prop := weeksThursdaysRow.holds Tryd.pinned (OpenSpec.ofChange weeksThursdaysWrong)

/-- 'analemmalaw07.WeeksSum': WHATEVER THE INPUT: true; the input reads as it did. -/
def weeksSumSpec : ChangeSpec := { name := "weeksSum", fn := fun _ => fun
  | [d] => { results := [.lit (.bool true)], args := [d] }
  | _ => none }
def weeksSumRow : OpenClaim := { program := "ytoghogpcgdcboaadoor", sum := "802510d4bc1c9f040e1142ba92b450592ba8c66fab2b6564224c4df639ebd83f", func := "analemma/analemmalaw07.WeeksSum", spec := "weeksSum", named := ["analemma/civil.monthDays"], apart := false, laid := [("analemma/civil.monthDays", laid_analemma_civil_monthDays)] }
def WeeksSumSaid : Prop := weeksSumRow.holds Tryd.pinned (OpenSpec.ofChange weeksSumSpec)

/-- ITS FALSE NEIGHBOUR: 'it returns false'. Refute it at one input. -/
def weeksSumWrong : ChangeSpec := { name := "weeksSum", fn := fun _ => fun
  | [d] => { results := [.lit (.bool false)], args := [d] }
  | _ => none }
def WeeksSumWrongFalsely : Prop := weeksSumRow.holds Tryd.pinned (OpenSpec.ofChange weeksSumWrong)

/- THE SECOND FORM. 'bulk': how many values and letters a reading holds, each counted each time it is reached (what is shared counts as often as it is met; a slice's spare places count too). A statement '..UptoSaid' is the law's where the arguments, and the package variables that the reading takes, are together of bulk at most 1048576: NARROWER than '..Said'. Prove '..Said' where nothing that the law and all that it calls make is longer than what came in: it says more and counts as full. Else prove '..UptoSaid'. A law counts once. -/
mutual
def uptoBulk {H : Type} : DataW H → Nat
  | .lit (.string bytes) => bytes.length + 1
  | .lit _ => 1
  | .nil => 1
  | .ptr d => uptoBulk d + 1
  | .slice elems spare => uptoBulkAll elems + uptoBulkAll spare + 1
  | .agg parts => uptoBulkAll parts + 1
  | .iface _ d => uptoBulk d + 1
  | .map entries => uptoBulkEntries entries + 1
  | .held _ => 1
def uptoBulkAll {H : Type} : List (DataW H) → Nat
  | [] => 0
  | d :: r => uptoBulk d + uptoBulkAll r
def uptoBulkEntries {H : Type} : List (Lit × DataW H) → Nat
  | [] => 0
  | x :: r => uptoBulkEntry x + uptoBulkEntries r
def uptoBulkEntry {H : Type} : Lit × DataW H → Nat
  | (.string bytes, d) => bytes.length + uptoBulk d + 1
  | (_, d) => uptoBulk d + 1
 end
def uptoSmall : (H : Type) → List (DataW H) → Bool := fun _ ds => decide (uptoBulkAll ds ≤ 1048576)
def OpenSpec.upto (s : _root_.Go.ChangeSpec) : _root_.Go.OpenSpec := { _root_.Go.OpenSpec.ofChange s with cond := some uptoSmall }

/-- 'analemmalaw07.WeeksOf', WHERE WHAT IT READS IS OF BULK AT MOST 1048576: true; the input reads as it did. -/
def weeksOfUptoRow : OpenClaim := { program := "ytoghogpcgdcboaadoor", sum := "802510d4bc1c9f040e1142ba92b450592ba8c66fab2b6564224c4df639ebd83f", func := "analemma/analemmalaw07.WeeksOf", spec := "weeksOf", named := ["analemma/civil.monthDays"], apart := false, laid := [("analemma/civil.monthDays", laid_analemma_civil_monthDays)], narrowed := true }
def WeeksOfUptoSaid : Prop := weeksOfUptoRow.holds Tryd.pinned (OpenSpec.upto weeksOfSpec)

/-- 'analemmalaw07.WeeksDates', WHERE WHAT IT READS IS OF BULK AT MOST 1048576: true; the input reads as it did. -/
def weeksDatesUptoRow : OpenClaim := { program := "ytoghogpcgdcboaadoor", sum := "802510d4bc1c9f040e1142ba92b450592ba8c66fab2b6564224c4df639ebd83f", func := "analemma/analemmalaw07.WeeksDates", spec := "weeksDates", named := ["analemma/civil.monthDays"], apart := false, laid := [("analemma/civil.monthDays", laid_analemma_civil_monthDays)], narrowed := true }
def WeeksDatesUptoSaid : Prop := weeksDatesUptoRow.holds Tryd.pinned (OpenSpec.upto weeksDatesSpec)

/-- 'analemmalaw07.WeeksBack', WHERE WHAT IT READS IS OF BULK AT MOST 1048576: true; the input reads as it did. -/
def weeksBackUptoRow : OpenClaim := { program := "ytoghogpcgdcboaadoor", sum := "802510d4bc1c9f040e1142ba92b450592ba8c66fab2b6564224c4df639ebd83f", func := "analemma/analemmalaw07.WeeksBack", spec := "weeksBack", named := ["analemma/civil.monthDays"], apart := false, laid := [("analemma/civil.monthDays", laid_analemma_civil_monthDays)], narrowed := true }
def WeeksBackUptoSaid : Prop := weeksBackUptoRow.holds Tryd.pinned (OpenSpec.upto weeksBackSpec)

/-- 'analemmalaw07.WeeksThursdays', WHERE WHAT IT READS IS OF BULK AT MOST 1048576: true; the input reads as it did. -/
def weeksThursdaysUptoRow : OpenClaim := { program := "ytoghogpcgdcboaadoor", sum := "802510d4bc1c9f040e1142ba92b450592ba8c66fab2b6564224c4df639ebd83f", func := "analemma/analemmalaw07.WeeksThursdays", spec := "weeksThursdays", named := ["analemma/civil.monthDays"], apart := false, laid := [("analemma/civil.monthDays", laid_analemma_civil_monthDays)], narrowed := true }
def WeeksThursdaysUptoSaid : Prop := weeksThursdaysUptoRow.holds Tryd.pinned (OpenSpec.upto weeksThursdaysSpec)

/-- 'analemmalaw07.WeeksSum', WHERE WHAT IT READS IS OF BULK AT MOST 1048576: true; the input reads as it did. -/
def weeksSumUptoRow : OpenClaim := { program := "ytoghogpcgdcboaadoor", sum := "802510d4bc1c9f040e1142ba92b450592ba8c66fab2b6564224c4df639ebd83f", func := "analemma/analemmalaw07.WeeksSum", spec := "weeksSum", named := ["analemma/civil.monthDays"], apart := false, laid := [("analemma/civil.monthDays", laid_analemma_civil_monthDays)], narrowed := true }
def WeeksSumUptoSaid : Prop := weeksSumUptoRow.holds Tryd.pinned (OpenSpec.upto weeksSumSpec)

end Rows
end Go.Proofs.YtoghogpcgdcboaaDoor
