/-
  NARROWER THAN 'FOR EVERY INPUT', by the rows' own cells (each row's printed sentence says how): CiviltimeSecs: laid · CiviltimeSums: laid · CiviltimeBack: laid · CiviltimeWays: laid.
  DERIVED. THE GIVEN ROWS OF THIS SEAT. 4 by the template 'for every input the law returns true; each argument reads behind the call as it read before'; 0 by the template 'total and deterministic' (their statements: YtaoljjhhbmblhaaDoorTotals.lean).
  GIVEN WITH THE SEED: the statements are not yours to turn. If you find one false, say at which input.
  Laid BY PROGRAM, IN A SANDBOX (cutbox-rows.mjs): the forced cells as the released guide's own fill.sh prints them over the translation aaa178797be7335b… (all of the seat's roots in one cut). By AI agents, Wed Nov 11 2026. No macro, syntax, notation, axiom, sorry.
-/
import Derived.Test.YtaoljjhhbmblhaaDoorChecked
import GoSem.Claim
import GoSem.ClaimJoined
import GoSem.ClaimMapViews
import Derived.JoinedTies
import Derived.KernelRfl
namespace Go.Proofs.YtaoljjhhbmblhaaDoor
/- THE CELL 'sum', in the pinned program and in every row, IS THE sha256 OF THE DUMP (.gsa) THAT YtaoljjhhbmblhaaDoorProg.lean LOADS. Nothing in Lean hashes anything: it is a label: what it is worth is what the hold of that sum in a sandbox is worth. -/
noncomputable def Tryd.pinned : Pinned := { name := "ytaoljjhhbmblhaadoor", sum := "aaa178797be7335bd8327fe2d9fca3ecfc161002d3a803309a2d164b652ed87f", checked := Tryd.checked }
namespace Rows
def none {H : Type} : Left H := { results := [], args := [] }

/- WHAT THE LISTED PACKAGE-LEVEL VARIABLES READ AS WHEN THE CALL BEGINS. Each datum BY PROGRAM (the guide's laid-datum.mjs) off the statement by which the dump's own 'gosem.cut.vars' lays the variable. In a bare row this is a premise. The card (YtaoljjhhbmblhaaDoorCards.lean) ties it to the program's text. -/
def laid_analemma_civil_monthDays {H : Type} : DataW H := .agg [.lit (.int .i64 31), .lit (.int .i64 28), .lit (.int .i64 31), .lit (.int .i64 30), .lit (.int .i64 31), .lit (.int .i64 30), .lit (.int .i64 31), .lit (.int .i64 31), .lit (.int .i64 30), .lit (.int .i64 31), .lit (.int .i64 30), .lit (.int .i64 31)]
def laid_analemma_clock_sizes {H : Type} : DataW H := .agg [.lit (.int .i64 24), .lit (.int .i64 60), .lit (.int .i64 60), .lit (.int .i64 1000000000)]

/-- 'analemmalaw09.CiviltimeSecs': WHATEVER THE INPUT: true; the input reads as it did. -/
def civiltimeSecsSpec : ChangeSpec := { name := "civiltimeSecs", fn := fun _ => fun
  | [d1, d2, d3] => { results := [.lit (.bool true)], args := [d1, d2, d3] }
  | _ => none }
def civiltimeSecsRow : OpenClaim := { program := "ytaoljjhhbmblhaadoor", sum := "aaa178797be7335bd8327fe2d9fca3ecfc161002d3a803309a2d164b652ed87f", func := "analemma/analemmalaw09.CiviltimeSecs", spec := "civiltimeSecs", named := ["analemma/clock.sizes", "analemma/civil.monthDays"], apart := false, laid := [("analemma/civil.monthDays", laid_analemma_civil_monthDays), ("analemma/clock.sizes", laid_analemma_clock_sizes)] }
def CiviltimeSecsSaid : Prop := civiltimeSecsRow.holds Tryd.pinned (OpenSpec.ofChange civiltimeSecsSpec)

/-- ITS FALSE NEIGHBOUR: 'it returns false'. Refute it at one input. -/
def civiltimeSecsWrong : ChangeSpec := { name := "civiltimeSecs", fn := fun _ => fun
  | [d1, d2, d3] => { results := [.lit (.bool false)], args := [d1, d2, d3] }
  | _ => none }
def CiviltimeSecsWrongFalsely : Prop := civiltimeSecsRow.holds Tryd.pinned (OpenSpec.ofChange civiltimeSecsWrong)

/-- 'analemmalaw09.CiviltimeSums': WHATEVER THE INPUT: true; the input reads as it did. -/
def civiltimeSumsSpec : ChangeSpec := { name := "civiltimeSums", fn := fun _ => fun
  | [d1, d2, d3] => { results := [.lit (.bool true)], args := [d1, d2, d3] }
  | _ => none }
def civiltimeSumsRow : OpenClaim := { program := "ytaoljjhhbmblhaadoor", sum := "aaa178797be7335bd8327fe2d9fca3ecfc161002d3a803309a2d164b652ed87f", func := "analemma/analemmalaw09.CiviltimeSums", spec := "civiltimeSums", inPlace := ["math/bits.Sub64", "math/bits.Add64"], named := ["analemma/clock.sizes", "analemma/civil.monthDays", "math/bits.divideError", "math/bits.overflowError"], apart := false, laid := [("analemma/civil.monthDays", laid_analemma_civil_monthDays), ("analemma/clock.sizes", laid_analemma_clock_sizes)] }
def CiviltimeSumsSaid : Prop := civiltimeSumsRow.holds Tryd.pinned (OpenSpec.ofChange civiltimeSumsSpec)

/-- ITS FALSE NEIGHBOUR: 'it returns false'. Refute it at one input. -/
def civiltimeSumsWrong : ChangeSpec := { name := "civiltimeSums", fn := fun _ => fun
  | [d1, d2, d3] => { results := [.lit (.bool false)], args := [d1, d2, d3] }
  | _ => none }
def CiviltimeSumsWrongFalsely : Prop := civiltimeSumsRow.holds Tryd.pinned (OpenSpec.ofChange civiltimeSumsWrong)

/-- 'analemmalaw09.CiviltimeBack': WHATEVER THE INPUT: true; the input reads as it did. -/
def civiltimeBackSpec : ChangeSpec := { name := "civiltimeBack", fn := fun _ => fun
  | [d] => { results := [.lit (.bool true)], args := [d] }
  | _ => none }
def civiltimeBackRow : OpenClaim := { program := "ytaoljjhhbmblhaadoor", sum := "aaa178797be7335bd8327fe2d9fca3ecfc161002d3a803309a2d164b652ed87f", func := "analemma/analemmalaw09.CiviltimeBack", spec := "civiltimeBack", named := ["analemma/clock.sizes", "analemma/civil.monthDays"], apart := false, laid := [("analemma/civil.monthDays", laid_analemma_civil_monthDays), ("analemma/clock.sizes", laid_analemma_clock_sizes)] }
def CiviltimeBackSaid : Prop := civiltimeBackRow.holds Tryd.pinned (OpenSpec.ofChange civiltimeBackSpec)

/-- ITS FALSE NEIGHBOUR: 'it returns false'. Refute it at one input. -/
def civiltimeBackWrong : ChangeSpec := { name := "civiltimeBack", fn := fun _ => fun
  | [d] => { results := [.lit (.bool false)], args := [d] }
  | _ => none }
def CiviltimeBackWrongFalsely : Prop := civiltimeBackRow.holds Tryd.pinned (OpenSpec.ofChange civiltimeBackWrong)

/-- 'analemmalaw09.CiviltimeWays': WHATEVER THE INPUT: true; the input reads as it did. -/
def civiltimeWaysSpec : ChangeSpec := { name := "civiltimeWays", fn := fun _ => fun
  | [d1, d2] => { results := [.lit (.bool true)], args := [d1, d2] }
  | _ => none }
def civiltimeWaysRow : OpenClaim := { program := "ytaoljjhhbmblhaadoor", sum := "aaa178797be7335bd8327fe2d9fca3ecfc161002d3a803309a2d164b652ed87f", func := "analemma/analemmalaw09.CiviltimeWays", spec := "civiltimeWays", inPlace := ["math/bits.Sub64", "math/bits.Add64"], named := ["analemma/clock.sizes", "analemma/civil.monthDays", "math/bits.divideError", "math/bits.overflowError"], apart := false, laid := [("analemma/civil.monthDays", laid_analemma_civil_monthDays), ("analemma/clock.sizes", laid_analemma_clock_sizes)] }
def CiviltimeWaysSaid : Prop := civiltimeWaysRow.holds Tryd.pinned (OpenSpec.ofChange civiltimeWaysSpec)

/-- ITS FALSE NEIGHBOUR: 'it returns false'. Refute it at one input. -/
def civiltimeWaysWrong : ChangeSpec := { name := "civiltimeWays", fn := fun _ => fun
  | [d1, d2] => { results := [.lit (.bool false)], args := [d1, d2] }
  | _ => none }
def CiviltimeWaysWrongFalsely : Prop := civiltimeWaysRow.holds Tryd.pinned (OpenSpec.ofChange civiltimeWaysWrong)

/- THE SECOND FORM. 'bulk': how many values and letters a reading holds, each counted each time it is reached (what is shared counts as often as it is met; a slice's spare places count too). A statement '..UptoSaid' is the law's where the arguments, and the package variables that the reading takes, are together of bulk at most 1048576: NARROWER than '..Said'. Prove '..Said' where nothing that the law and all that it calls make is longer than what came in: it says more and counts as full. Else prove '..UptoSaid'. A law counts once. -/
mutual
def uptoBulk {H : Type} : DataW H → Nat
  | .lit (.string bytes) => bytes.length + 1
  | .lit _ => 1
  | .nil => 1
  | .ptr d => uptoBulk d + 1
  | .slice elems spare => uptoBulkAll elems + uptoBulkAll spare + 1
  | .agg parts => uptoBulkAll parts + 1
  | .iface _ d => uptoBulk d + 1
  | .map entries => uptoBulkEntries entries + 1
  | .held _ => 1
def uptoBulkAll {H : Type} : List (DataW H) → Nat
  | [] => 0
  | d :: r => uptoBulk d + uptoBulkAll r
def uptoBulkEntries {H : Type} : List (Lit × DataW H) → Nat
  | [] => 0
  | x :: r => uptoBulkEntry x + uptoBulkEntries r
def uptoBulkEntry {H : Type} : Lit × DataW H → Nat
  | (.string bytes, d) => bytes.length + uptoBulk d + 1
  | (_, d) => uptoBulk d + 1
 end
def uptoSmall : (H : Type) → List (DataW H) → Bool := fun _ ds => decide (uptoBulkAll ds ≤ 1048576)
def OpenSpec.upto (s : _root_.Go.ChangeSpec) : _root_.Go.OpenSpec := { _root_.Go.OpenSpec.ofChange s with cond := some uptoSmall }

/-- 'analemmalaw09.CiviltimeSecs', WHERE WHAT IT READS IS OF BULK AT MOST 1048576: true; the input reads as it did. -/
def civiltimeSecsUptoRow : OpenClaim := { program := "ytaoljjhhbmblhaadoor", sum := "aaa178797be7335bd8327fe2d9fca3ecfc161002d3a803309a2d164b652ed87f", func := "analemma/analemmalaw09.CiviltimeSecs", spec := "civiltimeSecs", named := ["analemma/clock.sizes", "analemma/civil.monthDays"], apart := false, laid := [("analemma/civil.monthDays", laid_analemma_civil_monthDays), ("analemma/clock.sizes", laid_analemma_clock_sizes)], narrowed := true }
def CiviltimeSecsUptoSaid : Prop := civiltimeSecsUptoRow.holds Tryd.pinned (OpenSpec.upto civiltimeSecsSpec)

/-- 'analemmalaw09.CiviltimeSums', WHERE WHAT IT READS IS OF BULK AT MOST 1048576: true; the input reads as it did. -/
def civiltimeSumsUptoRow : OpenClaim := { program := "ytaoljjhhbmblhaadoor", sum := "aaa178797be7335bd8327fe2d9fca3ecfc161002d3a803309a2d164b652ed87f", func := "analemma/analemmalaw09.CiviltimeSums", spec := "civiltimeSums", inPlace := ["math/bits.Sub64", "math/bits.Add64"], named := ["analemma/clock.sizes", "analemma/civil.monthDays", "math/bits.divideError", "math/bits.overflowError"], apart := false, laid := [("analemma/civil.monthDays", laid_analemma_civil_monthDays), ("analemma/clock.sizes", laid_analemma_clock_sizes)], narrowed := true }
def CiviltimeSumsUptoSaid : Prop := civiltimeSumsUptoRow.holds Tryd.pinned (OpenSpec.upto civiltimeSumsSpec)

/-- 'analemmalaw09.CiviltimeBack', WHERE WHAT IT READS IS OF BULK AT MOST 1048576: true; the input reads as it did. -/
def civiltimeBackUptoRow : OpenClaim := { program := "ytaoljjhhbmblhaadoor", sum := "aaa178797be7335bd8327fe2d9fca3ecfc161002d3a803309a2d164b652ed87f", func := "analemma/analemmalaw09.CiviltimeBack", spec := "civiltimeBack", named := ["analemma/clock.sizes", "analemma/civil.monthDays"], apart := false, laid := [("analemma/civil.monthDays", laid_analemma_civil_monthDays), ("analemma/clock.sizes", laid_analemma_clock_sizes)], narrowed := true }
def CiviltimeBackUptoSaid : Prop := civiltimeBackUptoRow.holds Tryd.pinned (OpenSpec.upto civiltimeBackSpec)

/-- 'analemmalaw09.CiviltimeWays', WHERE WHAT IT READS IS OF BULK AT MOST 1048576: true; the input reads as it did. -/
def civiltimeWaysUptoRow : OpenClaim := { program := "ytaoljjhhbmblhaadoor", sum := "aaa178797be7335bd8327fe2d9fca3ecfc161002d3a803309a2d164b652ed87f", func := "analemma/analemmalaw09.CiviltimeWays", spec := "civiltimeWays", inPlace := ["math/bits.Sub64", "math/bits.Add64"], named := ["analemma/clock.sizes", "analemma/civil.monthDays", "math/bits.divideError", "math/bits.overflowError"], apart := false, laid := [("analemma/civil.monthDays", laid_analemma_civil_monthDays), ("analemma/clock.sizes", laid_analemma_clock_sizes)], narrowed := true }
def CiviltimeWaysUptoSaid : Prop := civiltimeWaysUptoRow.holds Tryd.pinned (OpenSpec.upto civiltimeWaysSpec)

end Rows
end Go.Proofs.YtaoljjhhbmblhaaDoor
