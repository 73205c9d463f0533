/-
  NARROWER THAN 'FOR EVERY INPUT', by the rows' own cells (each row's printed sentence says how): ClockNanos: laid · ClockAdds: laid · ClockBack: laid · ClockDays: laid · ClockHalves: laid.
  DERIVED. THE GIVEN ROWS OF THIS SEAT. 5 by the template 'for every input the law returns true; each argument reads behind the call as it read before'; 0 by the template 'total and deterministic' (their statements: YtpkbcnofieinaaaDoorTotals.lean).
  GIVEN WITH THE SEED: the statements are not yours to turn. If you find one false, say at which input.
  Laid BY PROGRAM, IN A SANDBOX (cutbox-rows.mjs): the forced cells as the released guide's own fill.sh prints them over the translation 87914b6748a9d0e3… (all of the seat's roots in one cut). By AI agents, Wed Nov 11 2026. No macro, syntax, notation, axiom, sorry.
-/
import Derived.Test.YtpkbcnofieinaaaDoorChecked
import GoSem.Claim
import GoSem.ClaimJoined
import GoSem.ClaimMapViews
import Derived.JoinedTies
import Derived.KernelRfl
namespace Go.Proofs.YtpkbcnofieinaaaDoor
/- THE CELL 'sum', in the pinned program and in every row, IS THE sha256 OF THE DUMP (.gsa) THAT YtpkbcnofieinaaaDoorProg.lean LOADS. Nothing in Lean hashes anything: it is a label: what it is worth is what the hold of that sum in a sandbox is worth. -/
noncomputable def Tryd.pinned : Pinned := { name := "ytpkbcnofieinaaadoor", sum := "87914b6748a9d0e31be4677f1eaf1ff84e4355b83fbf859330988502acf81828", checked := Tryd.checked }
namespace Rows
def none {H : Type} : Left H := { results := [], args := [] }

/- WHAT THE LISTED PACKAGE-LEVEL VARIABLES READ AS WHEN THE CALL BEGINS. Each datum BY PROGRAM (the guide's laid-datum.mjs) off the statement by which the dump's own 'gosem.cut.vars' lays the variable. In a bare row this is a premise. The card (YtpkbcnofieinaaaDoorCards.lean) ties it to the program's text. -/
def laid_analemma_clock_sizes {H : Type} : DataW H := .agg [.lit (.int .i64 24), .lit (.int .i64 60), .lit (.int .i64 60), .lit (.int .i64 1000000000)]

/-- 'analemmalaw08.ClockNanos': WHATEVER THE INPUT: true; the input reads as it did. -/
def clockNanosSpec : ChangeSpec := { name := "clockNanos", fn := fun _ => fun
  | [d1, d2] => { results := [.lit (.bool true)], args := [d1, d2] }
  | _ => none }
def clockNanosRow : OpenClaim := { program := "ytpkbcnofieinaaadoor", sum := "87914b6748a9d0e31be4677f1eaf1ff84e4355b83fbf859330988502acf81828", func := "analemma/analemmalaw08.ClockNanos", spec := "clockNanos", named := ["analemma/clock.sizes"], apart := false, laid := [("analemma/clock.sizes", laid_analemma_clock_sizes)] }
def ClockNanosSaid : Prop := clockNanosRow.holds Tryd.pinned (OpenSpec.ofChange clockNanosSpec)

/-- ITS FALSE NEIGHBOUR: 'it returns false'. Refute it at one input. -/
def clockNanosWrong : ChangeSpec := { name := "clockNanos", fn := fun _ => fun
  | [d1, d2] => { results := [.lit (.bool false)], args := [d1, d2] }
  | _ => none }
def ClockNanosWrongFalsely : Prop := clockNanosRow.holds Tryd.pinned (OpenSpec.ofChange clockNanosWrong)

/-- 'analemmalaw08.ClockAdds': WHATEVER THE INPUT: true; the input reads as it did. -/
def clockAddsSpec : ChangeSpec := { name := "clockAdds", fn := fun _ => fun
  | [d1, d2] => { results := [.lit (.bool true)], args := [d1, d2] }
  | _ => none }
def clockAddsRow : OpenClaim := { program := "ytpkbcnofieinaaadoor", sum := "87914b6748a9d0e31be4677f1eaf1ff84e4355b83fbf859330988502acf81828", func := "analemma/analemmalaw08.ClockAdds", spec := "clockAdds", named := ["analemma/clock.sizes"], apart := false, laid := [("analemma/clock.sizes", laid_analemma_clock_sizes)] }
def ClockAddsSaid : Prop := clockAddsRow.holds Tryd.pinned (OpenSpec.ofChange clockAddsSpec)

/-- ITS FALSE NEIGHBOUR: 'it returns false'. Refute it at one input. -/
def clockAddsWrong : ChangeSpec := { name := "clockAdds", fn := fun _ => fun
  | [d1, d2] => { results := [.lit (.bool false)], args := [d1, d2] }
  | _ => none }
def ClockAddsWrongFalsely : Prop := clockAddsRow.holds Tryd.pinned (OpenSpec.ofChange clockAddsWrong)

/-- 'analemmalaw08.ClockBack': WHATEVER THE INPUT: true; the input reads as it did. -/
def clockBackSpec : ChangeSpec := { name := "clockBack", fn := fun _ => fun
  | [d1, d2] => { results := [.lit (.bool true)], args := [d1, d2] }
  | _ => none }
def clockBackRow : OpenClaim := { program := "ytpkbcnofieinaaadoor", sum := "87914b6748a9d0e31be4677f1eaf1ff84e4355b83fbf859330988502acf81828", func := "analemma/analemmalaw08.ClockBack", spec := "clockBack", named := ["analemma/clock.sizes"], apart := false, laid := [("analemma/clock.sizes", laid_analemma_clock_sizes)] }
def ClockBackSaid : Prop := clockBackRow.holds Tryd.pinned (OpenSpec.ofChange clockBackSpec)

/-- ITS FALSE NEIGHBOUR: 'it returns false'. Refute it at one input. -/
def clockBackWrong : ChangeSpec := { name := "clockBack", fn := fun _ => fun
  | [d1, d2] => { results := [.lit (.bool false)], args := [d1, d2] }
  | _ => none }
def ClockBackWrongFalsely : Prop := clockBackRow.holds Tryd.pinned (OpenSpec.ofChange clockBackWrong)

/-- 'analemmalaw08.ClockDays': WHATEVER THE INPUT: true; the input reads as it did. -/
def clockDaysSpec : ChangeSpec := { name := "clockDays", fn := fun _ => fun
  | [d1, d2, d3] => { results := [.lit (.bool true)], args := [d1, d2, d3] }
  | _ => none }
def clockDaysRow : OpenClaim := { program := "ytpkbcnofieinaaadoor", sum := "87914b6748a9d0e31be4677f1eaf1ff84e4355b83fbf859330988502acf81828", func := "analemma/analemmalaw08.ClockDays", spec := "clockDays", named := ["analemma/clock.sizes"], apart := false, laid := [("analemma/clock.sizes", laid_analemma_clock_sizes)] }
def ClockDaysSaid : Prop := clockDaysRow.holds Tryd.pinned (OpenSpec.ofChange clockDaysSpec)

/-- ITS FALSE NEIGHBOUR: 'it returns false'. Refute it at one input. -/
def clockDaysWrong : ChangeSpec := { name := "clockDays", fn := fun _ => fun
  | [d1, d2, d3] => { results := [.lit (.bool false)], args := [d1, d2, d3] }
  | _ => none }
def ClockDaysWrongFalsely : Prop := clockDaysRow.holds Tryd.pinned (OpenSpec.ofChange clockDaysWrong)

/-- 'analemmalaw08.ClockHalves': WHATEVER THE INPUT: true; the input reads as it did. -/
def clockHalvesSpec : ChangeSpec := { name := "clockHalves", fn := fun _ => fun
  | [d1, d2] => { results := [.lit (.bool true)], args := [d1, d2] }
  | _ => none }
def clockHalvesRow : OpenClaim := { program := "ytpkbcnofieinaaadoor", sum := "87914b6748a9d0e31be4677f1eaf1ff84e4355b83fbf859330988502acf81828", func := "analemma/analemmalaw08.ClockHalves", spec := "clockHalves", named := ["analemma/clock.sizes"], apart := false, laid := [("analemma/clock.sizes", laid_analemma_clock_sizes)] }
def ClockHalvesSaid : Prop := clockHalvesRow.holds Tryd.pinned (OpenSpec.ofChange clockHalvesSpec)

/-- ITS FALSE NEIGHBOUR: 'it returns false'. Refute it at one input. -/
def clockHalvesWrong : ChangeSpec := { name := "clockHalves", fn := fun _ => fun
  | [d1, d2] => { results := [.lit (.bool false)], args := [d1, d2] }
  | _ => none }
def ClockHalvesWrongFalsely : Prop := clockHalvesRow.holds Tryd.pinned (OpenSpec.ofChange clockHalvesWrong)

/- THE SECOND FORM. 'bulk': how many values and letters a reading holds, each counted each time it is reached (what is shared counts as often as it is met; a slice's spare places count too). A statement '..UptoSaid' is the law's where the arguments, and the package variables that the reading takes, are together of bulk at most 1048576: NARROWER than '..Said'. Prove '..Said' where nothing that the law and all that it calls make is longer than what came in: it says more and counts as full. Else prove '..UptoSaid'. A law counts once. -/
mutual
def uptoBulk {H : Type} : DataW H → Nat
  | .lit (.string bytes) => bytes.length + 1
  | .lit _ => 1
  | .nil => 1
  | .ptr d => uptoBulk d + 1
  | .slice elems spare => uptoBulkAll elems + uptoBulkAll spare + 1
  | .agg parts => uptoBulkAll parts + 1
  | .iface _ d => uptoBulk d + 1
  | .map entries => uptoBulkEntries entries + 1
  | .held _ => 1
def uptoBulkAll {H : Type} : List (DataW H) → Nat
  | [] => 0
  | d :: r => uptoBulk d + uptoBulkAll r
def uptoBulkEntries {H : Type} : List (Lit × DataW H) → Nat
  | [] => 0
  | x :: r => uptoBulkEntry x + uptoBulkEntries r
def uptoBulkEntry {H : Type} : Lit × DataW H → Nat
  | (.string bytes, d) => bytes.length + uptoBulk d + 1
  | (_, d) => uptoBulk d + 1
 end
def uptoSmall : (H : Type) → List (DataW H) → Bool := fun _ ds => decide (uptoBulkAll ds ≤ 1048576)
def OpenSpec.upto (s : _root_.Go.ChangeSpec) : _root_.Go.OpenSpec := { _root_.Go.OpenSpec.ofChange s with cond := some uptoSmall }

/-- 'analemmalaw08.ClockNanos', WHERE WHAT IT READS IS OF BULK AT MOST 1048576: true; the input reads as it did. -/
def clockNanosUptoRow : OpenClaim := { program := "ytpkbcnofieinaaadoor", sum := "87914b6748a9d0e31be4677f1eaf1ff84e4355b83fbf859330988502acf81828", func := "analemma/analemmalaw08.ClockNanos", spec := "clockNanos", named := ["analemma/clock.sizes"], apart := false, laid := [("analemma/clock.sizes", laid_analemma_clock_sizes)], narrowed := true }
def ClockNanosUptoSaid : Prop := clockNanosUptoRow.holds Tryd.pinned (OpenSpec.upto clockNanosSpec)

/-- 'analemmalaw08.ClockAdds', WHERE WHAT IT READS IS OF BULK AT MOST 1048576: true; the input reads as it did. -/
def clockAddsUptoRow : OpenClaim := { program := "ytpkbcnofieinaaadoor", sum := "87914b6748a9d0e31be4677f1eaf1ff84e4355b83fbf859330988502acf81828", func := "analemma/analemmalaw08.ClockAdds", spec := "clockAdds", named := ["analemma/clock.sizes"], apart := false, laid := [("analemma/clock.sizes", laid_analemma_clock_sizes)], narrowed := true }
def ClockAddsUptoSaid : Prop := clockAddsUptoRow.holds Tryd.pinned (OpenSpec.upto clockAddsSpec)

/-- 'analemmalaw08.ClockBack', WHERE WHAT IT READS IS OF BULK AT MOST 1048576: true; the input reads as it did. -/
def clockBackUptoRow : OpenClaim := { program := "ytpkbcnofieinaaadoor", sum := "87914b6748a9d0e31be4677f1eaf1ff84e4355b83fbf859330988502acf81828", func := "analemma/analemmalaw08.ClockBack", spec := "clockBack", named := ["analemma/clock.sizes"], apart := false, laid := [("analemma/clock.sizes", laid_analemma_clock_sizes)], narrowed := true }
def ClockBackUptoSaid : Prop := clockBackUptoRow.holds Tryd.pinned (OpenSpec.upto clockBackSpec)

/-- 'analemmalaw08.ClockDays', WHERE WHAT IT READS IS OF BULK AT MOST 1048576: true; the input reads as it did. -/
def clockDaysUptoRow : OpenClaim := { program := "ytpkbcnofieinaaadoor", sum := "87914b6748a9d0e31be4677f1eaf1ff84e4355b83fbf859330988502acf81828", func := "analemma/analemmalaw08.ClockDays", spec := "clockDays", named := ["analemma/clock.sizes"], apart := false, laid := [("analemma/clock.sizes", laid_analemma_clock_sizes)], narrowed := true }
def ClockDaysUptoSaid : Prop := clockDaysUptoRow.holds Tryd.pinned (OpenSpec.upto clockDaysSpec)

/-- 'analemmalaw08.ClockHalves', WHERE WHAT IT READS IS OF BULK AT MOST 1048576: true; the input reads as it did. -/
def clockHalvesUptoRow : OpenClaim := { program := "ytpkbcnofieinaaadoor", sum := "87914b6748a9d0e31be4677f1eaf1ff84e4355b83fbf859330988502acf81828", func := "analemma/analemmalaw08.ClockHalves", spec := "clockHalves", named := ["analemma/clock.sizes"], apart := false, laid := [("analemma/clock.sizes", laid_analemma_clock_sizes)], narrowed := true }
def ClockHalvesUptoSaid : Prop := clockHalvesUptoRow.holds Tryd.pinned (OpenSpec.upto clockHalvesSpec)

end Rows
end Go.Proofs.YtpkbcnofieinaaaDoor
