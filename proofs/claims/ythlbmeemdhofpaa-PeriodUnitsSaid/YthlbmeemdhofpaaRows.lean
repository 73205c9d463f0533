/-
  No cell of these rows narrows 'for every input' (looked for: loops, veiled, ifaces, maps, wideKeys, modest, calm, conditions, laid).
  DERIVED. THE GIVEN ROWS OF THIS SEAT. 5 by the template 'for every input the law returns true; each argument reads behind the call as it read before'; 0 by the template 'total and deterministic' (their statements: YthlbmeemdhofpaaTotals.lean).
  GIVEN WITH THE SEED: the statements are not yours to turn. If you find one false, say at which input.
  Laid BY PROGRAM, IN A SANDBOX (cutbox-rows.mjs): the forced cells as the released guide's own fill.sh prints them over the translation 8215feae60aced4e… (all of the seat's roots in one cut). By AI agents, Wed Nov 11 2026. No macro, syntax, notation, axiom, sorry.
-/
import Derived.Test.YthlbmeemdhofpaaChecked
import GoSem.Claim
import GoSem.ClaimJoined
import GoSem.ClaimMapViews
import Derived.JoinedTies
import Derived.KernelRfl
namespace Go.Proofs.Ythlbmeemdhofpaa
/- THE CELL 'sum', in the pinned program and in every row, IS THE sha256 OF THE DUMP (.gsa) THAT YthlbmeemdhofpaaProg.lean LOADS. Nothing in Lean hashes anything: it is a label: what it is worth is what the hold of that sum in a sandbox is worth. -/
noncomputable def Try.pinned : Pinned := { name := "ythlbmeemdhofpaa", sum := "8215feae60aced4e401febabeff7128bd01da4ff62966483560bc332bef56cd9", checked := Try.checked }
namespace Rows
def none {H : Type} : Left H := { results := [], args := [] }

/-- 'analemmalaw10.PeriodSums': WHATEVER THE INPUT: true; the input reads as it did. -/
def periodSumsSpec : ChangeSpec := { name := "periodSums", fn := fun _ => fun
  | [d1, d2] => { results := [.lit (.bool true)], args := [d1, d2] }
  | _ => none }
def periodSumsRow : OpenClaim := { program := "ythlbmeemdhofpaa", sum := "8215feae60aced4e401febabeff7128bd01da4ff62966483560bc332bef56cd9", func := "analemma/analemmalaw10.PeriodSums", spec := "periodSums", inPlace := ["math/bits.Add64", "math/bits.Sub64"], unfollowed := true, recurses := true, apart := false }
def PeriodSumsSaid : Prop := periodSumsRow.holds Try.pinned (OpenSpec.ofChange periodSumsSpec)

/-- ITS FALSE NEIGHBOUR: 'it returns false'. Refute it at one input. -/
def periodSumsWrong : ChangeSpec := { name := "periodSums", fn := fun _ => fun
  | [d1, d2] => { results := [.lit (.bool false)], args := [d1, d2] }
  | _ => none }
def PeriodSumsWrongFalsely : Prop := periodSumsRow.holds Try.pinned (OpenSpec.ofChange periodSumsWrong)

/-- 'analemmalaw10.PeriodTimes': WHATEVER THE INPUT: true; the input reads as it did. -/
def periodTimesSpec : ChangeSpec := { name := "periodTimes", fn := fun _ => fun
  | [d1, d2] => { results := [.lit (.bool true)], args := [d1, d2] }
  | _ => none }
def periodTimesRow : OpenClaim := { program := "ythlbmeemdhofpaa", sum := "8215feae60aced4e401febabeff7128bd01da4ff62966483560bc332bef56cd9", func := "analemma/analemmalaw10.PeriodTimes", spec := "periodTimes", inPlace := ["math/bits.Sub64"], unfollowed := true, recurses := true, apart := false }
def PeriodTimesSaid : Prop := periodTimesRow.holds Try.pinned (OpenSpec.ofChange periodTimesSpec)

/-- ITS FALSE NEIGHBOUR: 'it returns false'. Refute it at one input. -/
def periodTimesWrong : ChangeSpec := { name := "periodTimes", fn := fun _ => fun
  | [d1, d2] => { results := [.lit (.bool false)], args := [d1, d2] }
  | _ => none }
def PeriodTimesWrongFalsely : Prop := periodTimesRow.holds Try.pinned (OpenSpec.ofChange periodTimesWrong)

/-- 'analemmalaw10.PeriodBalanced': WHATEVER THE INPUT: true; the input reads as it did. -/
def periodBalancedSpec : ChangeSpec := { name := "periodBalanced", fn := fun _ => fun
  | [d] => { results := [.lit (.bool true)], args := [d] }
  | _ => none }
def periodBalancedRow : OpenClaim := { program := "ythlbmeemdhofpaa", sum := "8215feae60aced4e401febabeff7128bd01da4ff62966483560bc332bef56cd9", func := "analemma/analemmalaw10.PeriodBalanced", spec := "periodBalanced", inPlace := ["math/bits.Sub64"], unfollowed := true, recurses := true, apart := false }
def PeriodBalancedSaid : Prop := periodBalancedRow.holds Try.pinned (OpenSpec.ofChange periodBalancedSpec)

/-- ITS FALSE NEIGHBOUR: 'it returns false'. Refute it at one input. -/
def periodBalancedWrong : ChangeSpec := { name := "periodBalanced", fn := fun _ => fun
  | [d] => { results := [.lit (.bool false)], args := [d] }
  | _ => none }
def PeriodBalancedWrongFalsely : Prop := periodBalancedRow.holds Try.pinned (OpenSpec.ofChange periodBalancedWrong)

/-- 'analemmalaw10.PeriodBack': WHATEVER THE INPUT: true; the input reads as it did. -/
def periodBackSpec : ChangeSpec := { name := "periodBack", fn := fun _ => fun
  | [d1, d2] => { results := [.lit (.bool true)], args := [d1, d2] }
  | _ => none }
def periodBackRow : OpenClaim := { program := "ythlbmeemdhofpaa", sum := "8215feae60aced4e401febabeff7128bd01da4ff62966483560bc332bef56cd9", func := "analemma/analemmalaw10.PeriodBack", spec := "periodBack", inPlace := ["math/bits.Add64", "math/bits.Sub64"], unfollowed := true, recurses := true, apart := false }
def PeriodBackSaid : Prop := periodBackRow.holds Try.pinned (OpenSpec.ofChange periodBackSpec)

/-- ITS FALSE NEIGHBOUR: 'it returns false'. Refute it at one input. -/
def periodBackWrong : ChangeSpec := { name := "periodBack", fn := fun _ => fun
  | [d1, d2] => { results := [.lit (.bool false)], args := [d1, d2] }
  | _ => none }
def PeriodBackWrongFalsely : Prop := periodBackRow.holds Try.pinned (OpenSpec.ofChange periodBackWrong)

/-- 'analemmalaw10.PeriodUnits': WHATEVER THE INPUT: true; the input reads as it did. -/
def periodUnitsSpec : ChangeSpec := { name := "periodUnits", fn := fun _ => fun
  | [d1, d2] => { results := [.lit (.bool true)], args := [d1, d2] }
  | _ => none }
def periodUnitsRow : OpenClaim := { program := "ythlbmeemdhofpaa", sum := "8215feae60aced4e401febabeff7128bd01da4ff62966483560bc332bef56cd9", func := "analemma/analemmalaw10.PeriodUnits", spec := "periodUnits", inPlace := ["math/bits.Sub64"], unfollowed := true, recurses := true, apart := false }
def PeriodUnitsSaid : Prop := periodUnitsRow.holds Try.pinned (OpenSpec.ofChange periodUnitsSpec)

/-- ITS FALSE NEIGHBOUR: 'it returns false'. Refute it at one input. -/
def periodUnitsWrong : ChangeSpec := { name := "periodUnits", fn := fun _ => fun
  | [d1, d2] => { results := [.lit (.bool false)], args := [d1, d2] }
  | _ => none }
def PeriodUnitsWrongFalsely : Prop := periodUnitsRow.holds Try.pinned (OpenSpec.ofChange periodUnitsWrong)

/- THE SECOND FORM. 'bulk': how many values and letters a reading holds, each counted each time it is reached (what is shared counts as often as it is met; a slice's spare places count too). A statement '..UptoSaid' is the law's where the arguments, and the package variables that the reading takes, are together of bulk at most 1048576: NARROWER than '..Said'. Prove '..Said' where nothing that the law and all that it calls make is longer than what came in: it says more and counts as full. Else prove '..UptoSaid'. A law counts once. -/
mutual
def uptoBulk {H : Type} : DataW H → Nat
  | .lit (.string bytes) => bytes.length + 1
  | .lit _ => 1
  | .nil => 1
  | .ptr d => uptoBulk d + 1
  | .slice elems spare => uptoBulkAll elems + uptoBulkAll spare + 1
  | .agg parts => uptoBulkAll parts + 1
  | .iface _ d => uptoBulk d + 1
  | .map entries => uptoBulkEntries entries + 1
  | .held _ => 1
def uptoBulkAll {H : Type} : List (DataW H) → Nat
  | [] => 0
  | d :: r => uptoBulk d + uptoBulkAll r
def uptoBulkEntries {H : Type} : List (Lit × DataW H) → Nat
  | [] => 0
  | x :: r => uptoBulkEntry x + uptoBulkEntries r
def uptoBulkEntry {H : Type} : Lit × DataW H → Nat
  | (.string bytes, d) => bytes.length + uptoBulk d + 1
  | (_, d) => uptoBulk d + 1
 end
def uptoSmall : (H : Type) → List (DataW H) → Bool := fun _ ds => decide (uptoBulkAll ds ≤ 1048576)
def OpenSpec.upto (s : _root_.Go.ChangeSpec) : _root_.Go.OpenSpec := { _root_.Go.OpenSpec.ofChange s with cond := some uptoSmall }

/-- 'analemmalaw10.PeriodSums', WHERE WHAT IT READS IS OF BULK AT MOST 1048576: true; the input reads as it did. -/
def periodSumsUptoRow : OpenClaim := { program := "ythlbmeemdhofpaa", sum := "8215feae60aced4e401febabeff7128bd01da4ff62966483560bc332bef56cd9", func := "analemma/analemmalaw10.PeriodSums", spec := "periodSums", inPlace := ["math/bits.Add64", "math/bits.Sub64"], unfollowed := true, recurses := true, apart := false, narrowed := true }
def PeriodSumsUptoSaid : Prop := periodSumsUptoRow.holds Try.pinned (OpenSpec.upto periodSumsSpec)

/-- 'analemmalaw10.PeriodTimes', WHERE WHAT IT READS IS OF BULK AT MOST 1048576: true; the input reads as it did. -/
def periodTimesUptoRow : OpenClaim := { program := "ythlbmeemdhofpaa", sum := "8215feae60aced4e401febabeff7128bd01da4ff62966483560bc332bef56cd9", func := "analemma/analemmalaw10.PeriodTimes", spec := "periodTimes", inPlace := ["math/bits.Sub64"], unfollowed := true, recurses := true, apart := false, narrowed := true }
def PeriodTimesUptoSaid : Prop := periodTimesUptoRow.holds Try.pinned (OpenSpec.upto periodTimesSpec)

/-- 'analemmalaw10.PeriodBalanced', WHERE WHAT IT READS IS OF BULK AT MOST 1048576: true; the input reads as it did. -/
def periodBalancedUptoRow : OpenClaim := { program := "ythlbmeemdhofpaa", sum := "8215feae60aced4e401febabeff7128bd01da4ff62966483560bc332bef56cd9", func := "analemma/analemmalaw10.PeriodBalanced", spec := "periodBalanced", inPlace := ["math/bits.Sub64"], unfollowed := true, recurses := true, apart := false, narrowed := true }
def PeriodBalancedUptoSaid : Prop := periodBalancedUptoRow.holds Try.pinned (OpenSpec.upto periodBalancedSpec)

/-- 'analemmalaw10.PeriodBack', WHERE WHAT IT READS IS OF BULK AT MOST 1048576: true; the input reads as it did. -/
def periodBackUptoRow : OpenClaim := { program := "ythlbmeemdhofpaa", sum := "8215feae60aced4e401febabeff7128bd01da4ff62966483560bc332bef56cd9", func := "analemma/analemmalaw10.PeriodBack", spec := "periodBack", inPlace := ["math/bits.Add64", "math/bits.Sub64"], unfollowed := true, recurses := true, apart := false, narrowed := true }
def PeriodBackUptoSaid : Prop := periodBackUptoRow.holds Try.pinned (OpenSpec.upto periodBackSpec)

/-- 'analemmalaw10.PeriodUnits', WHERE WHAT IT READS IS OF BULK AT MOST 1048576: true; the input reads as it did. -/
def periodUnitsUptoRow : OpenClaim := { program := "ythlbmeemdhofpaa", sum := "8215feae60aced4e401febabeff7128bd01da4ff62966483560bc332bef56cd9", func := "analemma/analemmalaw10.PeriodUnits", spec := "periodUnits", inPlace := ["math/bits.Sub64"], unfollowed := true, recurses := true, apart := false, narrowed := true }
def PeriodUnitsUptoSaid : Prop := periodUnitsUptoRow.holds Try.pinned (OpenSpec.upto periodUnitsSpec)

end Rows
end Go.Proofs.Ythlbmeemdhofpaa
