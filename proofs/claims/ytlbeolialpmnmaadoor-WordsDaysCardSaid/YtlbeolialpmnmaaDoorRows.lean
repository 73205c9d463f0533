/-
  NARROWER THAN 'FOR EVERY INPUT', by the rows' own cells (each row's printed sentence says how): WordsNumbers: laid · WordsTimes: laid · WordsDays: laid · WordsOffsets: laid · WordsWeekdays: laid.
  DERIVED. THE GIVEN ROWS OF THIS SEAT. 5 by the template 'for every input the law returns true; each argument reads behind the call as it read before'; 0 by the template 'total and deterministic' (their statements: YtlbeolialpmnmaaDoorTotals.lean).
  GIVEN WITH THE SEED: the statements are not yours to turn. If you find one false, say at which input.
  Laid BY PROGRAM, IN A SANDBOX (cutbox-rows.mjs): the forced cells as the released guide's own fill.sh prints them over the translation 0ba58b0378b6d44c… (all of the seat's roots in one cut). By AI agents, Wed Nov 11 2026. No macro, syntax, notation, axiom, sorry.
-/
import Derived.Test.YtlbeolialpmnmaaDoorChecked
import GoSem.Claim
import GoSem.ClaimJoined
import GoSem.ClaimMapViews
import Derived.JoinedTies
import Derived.KernelRfl
namespace Go.Proofs.YtlbeolialpmnmaaDoor
/- THE CELL 'sum', in the pinned program and in every row, IS THE sha256 OF THE DUMP (.gsa) THAT YtlbeolialpmnmaaDoorProg.lean LOADS. Nothing in Lean hashes anything: it is a label: what it is worth is what the hold of that sum in a sandbox is worth. -/
noncomputable def Tryd.pinned : Pinned := { name := "ytlbeolialpmnmaadoor", sum := "0ba58b0378b6d44c5450417125054af44df82ac4a9d77081801f5d7f456370fd", checked := Tryd.checked }
namespace Rows
def none {H : Type} : Left H := { results := [], args := [] }

/- WHAT THE LISTED PACKAGE-LEVEL VARIABLES READ AS WHEN THE CALL BEGINS. Each datum BY PROGRAM (the guide's laid-datum.mjs) off the statement by which the dump's own 'gosem.cut.vars' lays the variable. In a bare row this is a premise. The card (YtlbeolialpmnmaaDoorCards.lean) ties it to the program's text. -/
def laid_analemma_civil_monthDays {H : Type} : DataW H := .agg [.lit (.int .i64 31), .lit (.int .i64 28), .lit (.int .i64 31), .lit (.int .i64 30), .lit (.int .i64 31), .lit (.int .i64 30), .lit (.int .i64 31), .lit (.int .i64 31), .lit (.int .i64 30), .lit (.int .i64 31), .lit (.int .i64 30), .lit (.int .i64 31)]
def laid_analemma_clock_sizes {H : Type} : DataW H := .agg [.lit (.int .i64 24), .lit (.int .i64 60), .lit (.int .i64 60), .lit (.int .i64 1000000000)]
def laid_analemma_words_dayNames {H : Type} : DataW H := .agg [.lit (.string [109, 111, 110]), .lit (.string [116, 117, 101]), .lit (.string [119, 101, 100]), .lit (.string [116, 104, 117]), .lit (.string [102, 114, 105]), .lit (.string [115, 97, 116]), .lit (.string [115, 117, 110])]

/-- 'analemmalaw14.WordsNumbers': WHATEVER THE INPUT: true; the input reads as it did. -/
def wordsNumbersSpec : ChangeSpec := { name := "wordsNumbers", fn := fun _ => fun
  | [d1, d2, d3] => { results := [.lit (.bool true)], args := [d1, d2, d3] }
  | _ => none }
def wordsNumbersRow : OpenClaim := { program := "ytlbeolialpmnmaadoor", sum := "0ba58b0378b6d44c5450417125054af44df82ac4a9d77081801f5d7f456370fd", func := "analemma/analemmalaw14.WordsNumbers", spec := "wordsNumbers", inPlace := ["internal/bytealg.IndexByteString", "internal/bytealg.IndexString"], unfollowed := true, recurses := true, named := ["analemma/words.dayNames", "internal/bytealg.MaxLen", "analemma/clock.sizes", "analemma/civil.monthDays"], apart := false, laid := [("analemma/civil.monthDays", laid_analemma_civil_monthDays), ("analemma/clock.sizes", laid_analemma_clock_sizes), ("analemma/words.dayNames", laid_analemma_words_dayNames)] }
def WordsNumbersSaid : Prop := wordsNumbersRow.holds Tryd.pinned (OpenSpec.ofChange wordsNumbersSpec)

/-- ITS FALSE NEIGHBOUR: 'it returns false'. Refute it at one input. -/
def wordsNumbersWrong : ChangeSpec := { name := "wordsNumbers", fn := fun _ => fun
  | [d1, d2, d3] => { results := [.lit (.bool false)], args := [d1, d2, d3] }
  | _ => none }
def WordsNumbersWrongFalsely : Prop := wordsNumbersRow.holds Tryd.pinned (OpenSpec.ofChange wordsNumbersWrong)

/-- 'analemmalaw14.WordsTimes': WHATEVER THE INPUT: true; the input reads as it did. -/
def wordsTimesSpec : ChangeSpec := { name := "wordsTimes", fn := fun _ => fun
  | [d] => { results := [.lit (.bool true)], args := [d] }
  | _ => none }
def wordsTimesRow : OpenClaim := { program := "ytlbeolialpmnmaadoor", sum := "0ba58b0378b6d44c5450417125054af44df82ac4a9d77081801f5d7f456370fd", func := "analemma/analemmalaw14.WordsTimes", spec := "wordsTimes", inPlace := ["internal/bytealg.IndexByteString", "internal/bytealg.IndexString"], unfollowed := true, recurses := true, named := ["analemma/words.dayNames", "internal/bytealg.MaxLen", "analemma/clock.sizes", "analemma/civil.monthDays"], apart := false, laid := [("analemma/civil.monthDays", laid_analemma_civil_monthDays), ("analemma/clock.sizes", laid_analemma_clock_sizes), ("analemma/words.dayNames", laid_analemma_words_dayNames)] }
def WordsTimesSaid : Prop := wordsTimesRow.holds Tryd.pinned (OpenSpec.ofChange wordsTimesSpec)

/-- ITS FALSE NEIGHBOUR: 'it returns false'. Refute it at one input. -/
def wordsTimesWrong : ChangeSpec := { name := "wordsTimes", fn := fun _ => fun
  | [d] => { results := [.lit (.bool false)], args := [d] }
  | _ => none }
def WordsTimesWrongFalsely : Prop := wordsTimesRow.holds Tryd.pinned (OpenSpec.ofChange wordsTimesWrong)

/-- 'analemmalaw14.WordsDays': WHATEVER THE INPUT: true; the input reads as it did. -/
def wordsDaysSpec : ChangeSpec := { name := "wordsDays", fn := fun _ => fun
  | [d] => { results := [.lit (.bool true)], args := [d] }
  | _ => none }
def wordsDaysRow : OpenClaim := { program := "ytlbeolialpmnmaadoor", sum := "0ba58b0378b6d44c5450417125054af44df82ac4a9d77081801f5d7f456370fd", func := "analemma/analemmalaw14.WordsDays", spec := "wordsDays", inPlace := ["internal/bytealg.IndexByteString", "internal/bytealg.IndexString"], unfollowed := true, recurses := true, named := ["analemma/words.dayNames", "internal/bytealg.MaxLen", "analemma/clock.sizes", "analemma/civil.monthDays"], apart := false, laid := [("analemma/civil.monthDays", laid_analemma_civil_monthDays), ("analemma/clock.sizes", laid_analemma_clock_sizes), ("analemma/words.dayNames", laid_analemma_words_dayNames)] }
def WordsDaysSaid : Prop := wordsDaysRow.holds Tryd.pinned (OpenSpec.ofChange wordsDaysSpec)

/-- ITS FALSE NEIGHBOUR: 'it returns false'. Refute it at one input. -/
def wordsDaysWrong : ChangeSpec := { name := "wordsDays", fn := fun _ => fun
  | [d] => { results := [.lit (.bool false)], args := [d] }
  | _ => none }
def WordsDaysWrongFalsely : Prop := wordsDaysRow.holds Tryd.pinned (OpenSpec.ofChange wordsDaysWrong)

/-- 'analemmalaw14.WordsOffsets': WHATEVER THE INPUT: true; the input reads as it did. -/
def wordsOffsetsSpec : ChangeSpec := { name := "wordsOffsets", fn := fun _ => fun
  | [d] => { results := [.lit (.bool true)], args := [d] }
  | _ => none }
def wordsOffsetsRow : OpenClaim := { program := "ytlbeolialpmnmaadoor", sum := "0ba58b0378b6d44c5450417125054af44df82ac4a9d77081801f5d7f456370fd", func := "analemma/analemmalaw14.WordsOffsets", spec := "wordsOffsets", inPlace := ["internal/bytealg.IndexByteString", "internal/bytealg.IndexString"], unfollowed := true, recurses := true, named := ["analemma/words.dayNames", "internal/bytealg.MaxLen", "analemma/clock.sizes", "analemma/civil.monthDays"], apart := false, laid := [("analemma/civil.monthDays", laid_analemma_civil_monthDays), ("analemma/clock.sizes", laid_analemma_clock_sizes), ("analemma/words.dayNames", laid_analemma_words_dayNames)] }
def WordsOffsetsSaid : Prop := wordsOffsetsRow.holds Tryd.pinned (OpenSpec.ofChange wordsOffsetsSpec)

/-- ITS FALSE NEIGHBOUR: 'it returns false'. Refute it at one input. -/
def wordsOffsetsWrong : ChangeSpec := { name := "wordsOffsets", fn := fun _ => fun
  | [d] => { results := [.lit (.bool false)], args := [d] }
  | _ => none }
def WordsOffsetsWrongFalsely : Prop := wordsOffsetsRow.holds Tryd.pinned (OpenSpec.ofChange wordsOffsetsWrong)

/-- 'analemmalaw14.WordsWeekdays': WHATEVER THE INPUT: true; the input reads as it did. -/
def wordsWeekdaysSpec : ChangeSpec := { name := "wordsWeekdays", fn := fun _ => fun
  | [d1, d2, d3] => { results := [.lit (.bool true)], args := [d1, d2, d3] }
  | _ => none }
def wordsWeekdaysRow : OpenClaim := { program := "ytlbeolialpmnmaadoor", sum := "0ba58b0378b6d44c5450417125054af44df82ac4a9d77081801f5d7f456370fd", func := "analemma/analemmalaw14.WordsWeekdays", spec := "wordsWeekdays", inPlace := ["internal/bytealg.IndexByteString", "internal/bytealg.IndexString"], unfollowed := true, recurses := true, named := ["analemma/words.dayNames", "internal/bytealg.MaxLen", "analemma/clock.sizes", "analemma/civil.monthDays"], apart := false, laid := [("analemma/civil.monthDays", laid_analemma_civil_monthDays), ("analemma/clock.sizes", laid_analemma_clock_sizes), ("analemma/words.dayNames", laid_analemma_words_dayNames)] }
def WordsWeekdaysSaid : Prop := wordsWeekdaysRow.holds Tryd.pinned (OpenSpec.ofChange wordsWeekdaysSpec)

/-- ITS FALSE NEIGHBOUR: 'it returns false'. Refute it at one input. -/
def wordsWeekdaysWrong : ChangeSpec := { name := "wordsWeekdays", fn := fun _ => fun
  | [d1, d2, d3] => { results := [.lit (.bool false)], args := [d1, d2, d3] }
  | _ => none }
def WordsWeekdaysWrongFalsely : Prop := wordsWeekdaysRow.holds Tryd.pinned (OpenSpec.ofChange wordsWeekdaysWrong)

/- THE SECOND FORM. 'bulk': how many values and letters a reading holds, each counted each time it is reached (what is shared counts as often as it is met; a slice's spare places count too). A statement '..UptoSaid' is the law's where the arguments, and the package variables that the reading takes, are together of bulk at most 1048576: NARROWER than '..Said'. Prove '..Said' where nothing that the law and all that it calls make is longer than what came in: it says more and counts as full. Else prove '..UptoSaid'. A law counts once. -/
mutual
def uptoBulk {H : Type} : DataW H → Nat
  | .lit (.string bytes) => bytes.length + 1
  | .lit _ => 1
  | .nil => 1
  | .ptr d => uptoBulk d + 1
  | .slice elems spare => uptoBulkAll elems + uptoBulkAll spare + 1
  | .agg parts => uptoBulkAll parts + 1
  | .iface _ d => uptoBulk d + 1
  | .map entries => uptoBulkEntries entries + 1
  | .held _ => 1
def uptoBulkAll {H : Type} : List (DataW H) → Nat
  | [] => 0
  | d :: r => uptoBulk d + uptoBulkAll r
def uptoBulkEntries {H : Type} : List (Lit × DataW H) → Nat
  | [] => 0
  | x :: r => uptoBulkEntry x + uptoBulkEntries r
def uptoBulkEntry {H : Type} : Lit × DataW H → Nat
  | (.string bytes, d) => bytes.length + uptoBulk d + 1
  | (_, d) => uptoBulk d + 1
 end
def uptoSmall : (H : Type) → List (DataW H) → Bool := fun _ ds => decide (uptoBulkAll ds ≤ 1048576)
def OpenSpec.upto (s : _root_.Go.ChangeSpec) : _root_.Go.OpenSpec := { _root_.Go.OpenSpec.ofChange s with cond := some uptoSmall }

/-- 'analemmalaw14.WordsNumbers', WHERE WHAT IT READS IS OF BULK AT MOST 1048576: true; the input reads as it did. -/
def wordsNumbersUptoRow : OpenClaim := { program := "ytlbeolialpmnmaadoor", sum := "0ba58b0378b6d44c5450417125054af44df82ac4a9d77081801f5d7f456370fd", func := "analemma/analemmalaw14.WordsNumbers", spec := "wordsNumbers", inPlace := ["internal/bytealg.IndexByteString", "internal/bytealg.IndexString"], unfollowed := true, recurses := true, named := ["analemma/words.dayNames", "internal/bytealg.MaxLen", "analemma/clock.sizes", "analemma/civil.monthDays"], apart := false, laid := [("analemma/civil.monthDays", laid_analemma_civil_monthDays), ("analemma/clock.sizes", laid_analemma_clock_sizes), ("analemma/words.dayNames", laid_analemma_words_dayNames)], narrowed := true }
def WordsNumbersUptoSaid : Prop := wordsNumbersUptoRow.holds Tryd.pinned (OpenSpec.upto wordsNumbersSpec)

/-- 'analemmalaw14.WordsTimes', WHERE WHAT IT READS IS OF BULK AT MOST 1048576: true; the input reads as it did. -/
def wordsTimesUptoRow : OpenClaim := { program := "ytlbeolialpmnmaadoor", sum := "0ba58b0378b6d44c5450417125054af44df82ac4a9d77081801f5d7f456370fd", func := "analemma/analemmalaw14.WordsTimes", spec := "wordsTimes", inPlace := ["internal/bytealg.IndexByteString", "internal/bytealg.IndexString"], unfollowed := true, recurses := true, named := ["analemma/words.dayNames", "internal/bytealg.MaxLen", "analemma/clock.sizes", "analemma/civil.monthDays"], apart := false, laid := [("analemma/civil.monthDays", laid_analemma_civil_monthDays), ("analemma/clock.sizes", laid_analemma_clock_sizes), ("analemma/words.dayNames", laid_analemma_words_dayNames)], narrowed := true }
def WordsTimesUptoSaid : Prop := wordsTimesUptoRow.holds Tryd.pinned (OpenSpec.upto wordsTimesSpec)

/-- 'analemmalaw14.WordsDays', WHERE WHAT IT READS IS OF BULK AT MOST 1048576: true; the input reads as it did. -/
def wordsDaysUptoRow : OpenClaim := { program := "ytlbeolialpmnmaadoor", sum := "0ba58b0378b6d44c5450417125054af44df82ac4a9d77081801f5d7f456370fd", func := "analemma/analemmalaw14.WordsDays", spec := "wordsDays", inPlace := ["internal/bytealg.IndexByteString", "internal/bytealg.IndexString"], unfollowed := true, recurses := true, named := ["analemma/words.dayNames", "internal/bytealg.MaxLen", "analemma/clock.sizes", "analemma/civil.monthDays"], apart := false, laid := [("analemma/civil.monthDays", laid_analemma_civil_monthDays), ("analemma/clock.sizes", laid_analemma_clock_sizes), ("analemma/words.dayNames", laid_analemma_words_dayNames)], narrowed := true }
def WordsDaysUptoSaid : Prop := wordsDaysUptoRow.holds Tryd.pinned (OpenSpec.upto wordsDaysSpec)

/-- 'analemmalaw14.WordsOffsets', WHERE WHAT IT READS IS OF BULK AT MOST 1048576: true; the input reads as it did. -/
def wordsOffsetsUptoRow : OpenClaim := { program := "ytlbeolialpmnmaadoor", sum := "0ba58b0378b6d44c5450417125054af44df82ac4a9d77081801f5d7f456370fd", func := "analemma/analemmalaw14.WordsOffsets", spec := "wordsOffsets", inPlace := ["internal/bytealg.IndexByteString", "internal/bytealg.IndexString"], unfollowed := true, recurses := true, named := ["analemma/words.dayNames", "internal/bytealg.MaxLen", "analemma/clock.sizes", "analemma/civil.monthDays"], apart := false, laid := [("analemma/civil.monthDays", laid_analemma_civil_monthDays), ("analemma/clock.sizes", laid_analemma_clock_sizes), ("analemma/words.dayNames", laid_analemma_words_dayNames)], narrowed := true }
def WordsOffsetsUptoSaid : Prop := wordsOffsetsUptoRow.holds Tryd.pinned (OpenSpec.upto wordsOffsetsSpec)

/-- 'analemmalaw14.WordsWeekdays', WHERE WHAT IT READS IS OF BULK AT MOST 1048576: true; the input reads as it did. -/
def wordsWeekdaysUptoRow : OpenClaim := { program := "ytlbeolialpmnmaadoor", sum := "0ba58b0378b6d44c5450417125054af44df82ac4a9d77081801f5d7f456370fd", func := "analemma/analemmalaw14.WordsWeekdays", spec := "wordsWeekdays", inPlace := ["internal/bytealg.IndexByteString", "internal/bytealg.IndexString"], unfollowed := true, recurses := true, named := ["analemma/words.dayNames", "internal/bytealg.MaxLen", "analemma/clock.sizes", "analemma/civil.monthDays"], apart := false, laid := [("analemma/civil.monthDays", laid_analemma_civil_monthDays), ("analemma/clock.sizes", laid_analemma_clock_sizes), ("analemma/words.dayNames", laid_analemma_words_dayNames)], narrowed := true }
def WordsWeekdaysUptoSaid : Prop := wordsWeekdaysUptoRow.holds Tryd.pinned (OpenSpec.upto wordsWeekdaysSpec)

end Rows
end Go.Proofs.YtlbeolialpmnmaaDoor
