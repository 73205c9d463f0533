/-
  No cell of these rows narrows 'for every input' (looked for: loops, veiled, ifaces, maps, wideKeys, modest, calm, conditions, laid).
  DERIVED. THE GIVEN ROWS OF THIS SEAT. 10 by the template 'for every input the law returns true; each argument reads behind the call as it read before'; 0 by the template 'total and deterministic' (their statements: YtkmhebfahfaokaaTotals.lean).
  GIVEN WITH THE SEED: the statements are not yours to turn. If you find one false, say at which input.
  Laid BY PROGRAM, IN A SANDBOX (cutbox-rows.mjs): the forced cells as the released guide's own fill.sh prints them over the translation c80e9db8f1f20705… (all of the seat's roots in one cut). By AI agents, Wed Nov 11 2026. No macro, syntax, notation, axiom, sorry.
-/
import Derived.Test.YtkmhebfahfaokaaChecked
import GoSem.Claim
import GoSem.ClaimJoined
import GoSem.ClaimMapViews
import Derived.JoinedTies
import Derived.KernelRfl
namespace Go.Proofs.Ytkmhebfahfaokaa
/- THE CELL 'sum', in the pinned program and in every row, IS THE sha256 OF THE DUMP (.gsa) THAT YtkmhebfahfaokaaProg.lean LOADS. Nothing in Lean hashes anything: it is a label: what it is worth is what the hold of that sum in a sandbox is worth. -/
noncomputable def Try.pinned : Pinned := { name := "ytkmhebfahfaokaa", sum := "c80e9db8f1f207052d400f1f0286392bfae90b64e9355fb7ce92f3efb0eeac61", checked := Try.checked }
namespace Rows
def none {H : Type} : Left H := { results := [], args := [] }

/-- 'analemmalaw01.WideSums': WHATEVER THE INPUT: true; the input reads as it did. -/
def wideSumsSpec : ChangeSpec := { name := "wideSums", fn := fun _ => fun
  | [d1, d2] => { results := [.lit (.bool true)], args := [d1, d2] }
  | _ => none }
def wideSumsRow : OpenClaim := { program := "ytkmhebfahfaokaa", sum := "c80e9db8f1f207052d400f1f0286392bfae90b64e9355fb7ce92f3efb0eeac61", func := "analemma/analemmalaw01.WideSums", spec := "wideSums", inPlace := ["math/bits.Add64", "math/bits.Sub64"], named := ["math/bits.divideError", "math/bits.overflowError"], apart := false }
def WideSumsSaid : Prop := wideSumsRow.holds Try.pinned (OpenSpec.ofChange wideSumsSpec)

/-- ITS FALSE NEIGHBOUR: 'it returns false'. Refute it at one input. -/
def wideSumsWrong : ChangeSpec := { name := "wideSums", fn := fun _ => fun
  | [d1, d2] => { results := [.lit (.bool false)], args := [d1, d2] }
  | _ => none }
def WideSumsWrongFalsely : Prop := wideSumsRow.holds Try.pinned (OpenSpec.ofChange wideSumsWrong)

/-- 'analemmalaw01.WideMuls': WHATEVER THE INPUT: true; the input reads as it did. -/
def wideMulsSpec : ChangeSpec := { name := "wideMuls", fn := fun _ => fun
  | [d1, d2, d3] => { results := [.lit (.bool true)], args := [d1, d2, d3] }
  | _ => none }
def wideMulsRow : OpenClaim := { program := "ytkmhebfahfaokaa", sum := "c80e9db8f1f207052d400f1f0286392bfae90b64e9355fb7ce92f3efb0eeac61", func := "analemma/analemmalaw01.WideMuls", spec := "wideMuls", inPlace := ["math/bits.Add64", "math/bits.Sub64"], named := ["math/bits.divideError", "math/bits.overflowError"], apart := false }
def WideMulsSaid : Prop := wideMulsRow.holds Try.pinned (OpenSpec.ofChange wideMulsSpec)

/-- ITS FALSE NEIGHBOUR: 'it returns false'. Refute it at one input. -/
def wideMulsWrong : ChangeSpec := { name := "wideMuls", fn := fun _ => fun
  | [d1, d2, d3] => { results := [.lit (.bool false)], args := [d1, d2, d3] }
  | _ => none }
def WideMulsWrongFalsely : Prop := wideMulsRow.holds Try.pinned (OpenSpec.ofChange wideMulsWrong)

/-- 'analemmalaw01.WideInts': WHATEVER THE INPUT: true; the input reads as it did. -/
def wideIntsSpec : ChangeSpec := { name := "wideInts", fn := fun _ => fun
  | [d1, d2] => { results := [.lit (.bool true)], args := [d1, d2] }
  | _ => none }
def wideIntsRow : OpenClaim := { program := "ytkmhebfahfaokaa", sum := "c80e9db8f1f207052d400f1f0286392bfae90b64e9355fb7ce92f3efb0eeac61", func := "analemma/analemmalaw01.WideInts", spec := "wideInts", inPlace := ["math/bits.Add64", "math/bits.Sub64"], named := ["math/bits.divideError", "math/bits.overflowError"], apart := false }
def WideIntsSaid : Prop := wideIntsRow.holds Try.pinned (OpenSpec.ofChange wideIntsSpec)

/-- ITS FALSE NEIGHBOUR: 'it returns false'. Refute it at one input. -/
def wideIntsWrong : ChangeSpec := { name := "wideInts", fn := fun _ => fun
  | [d1, d2] => { results := [.lit (.bool false)], args := [d1, d2] }
  | _ => none }
def WideIntsWrongFalsely : Prop := wideIntsRow.holds Try.pinned (OpenSpec.ofChange wideIntsWrong)

/-- 'analemmalaw01.WideTexts': WHATEVER THE INPUT: true; the input reads as it did. -/
def wideTextsSpec : ChangeSpec := { name := "wideTexts", fn := fun _ => fun
  | [d1, d2] => { results := [.lit (.bool true)], args := [d1, d2] }
  | _ => none }
def wideTextsRow : OpenClaim := { program := "ytkmhebfahfaokaa", sum := "c80e9db8f1f207052d400f1f0286392bfae90b64e9355fb7ce92f3efb0eeac61", func := "analemma/analemmalaw01.WideTexts", spec := "wideTexts", inPlace := ["math/bits.Sub64", "math/bits.Add64"], named := ["math/bits.divideError", "math/bits.overflowError"], apart := false }
def WideTextsSaid : Prop := wideTextsRow.holds Try.pinned (OpenSpec.ofChange wideTextsSpec)

/-- ITS FALSE NEIGHBOUR: 'it returns false'. Refute it at one input. -/
def wideTextsWrong : ChangeSpec := { name := "wideTexts", fn := fun _ => fun
  | [d1, d2] => { results := [.lit (.bool false)], args := [d1, d2] }
  | _ => none }
def WideTextsWrongFalsely : Prop := wideTextsRow.holds Try.pinned (OpenSpec.ofChange wideTextsWrong)

/-- 'analemmalaw01.WideBack': WHATEVER THE INPUT: true; the input reads as it did. -/
def wideBackSpec : ChangeSpec := { name := "wideBack", fn := fun _ => fun
  | [d1, d2, d3] => { results := [.lit (.bool true)], args := [d1, d2, d3] }
  | _ => none }
def wideBackRow : OpenClaim := { program := "ytkmhebfahfaokaa", sum := "c80e9db8f1f207052d400f1f0286392bfae90b64e9355fb7ce92f3efb0eeac61", func := "analemma/analemmalaw01.WideBack", spec := "wideBack", inPlace := ["math/bits.Add64", "math/bits.Sub64"], named := ["math/bits.divideError", "math/bits.overflowError"], apart := false }
def WideBackSaid : Prop := wideBackRow.holds Try.pinned (OpenSpec.ofChange wideBackSpec)

/-- ITS FALSE NEIGHBOUR: 'it returns false'. Refute it at one input. -/
def wideBackWrong : ChangeSpec := { name := "wideBack", fn := fun _ => fun
  | [d1, d2, d3] => { results := [.lit (.bool false)], args := [d1, d2, d3] }
  | _ => none }
def WideBackWrongFalsely : Prop := wideBackRow.holds Try.pinned (OpenSpec.ofChange wideBackWrong)

/-- 'analemmalaw02.CheckedSums': WHATEVER THE INPUT: true; the input reads as it did. -/
def checkedSumsSpec : ChangeSpec := { name := "checkedSums", fn := fun _ => fun
  | [d1, d2] => { results := [.lit (.bool true)], args := [d1, d2] }
  | _ => none }
def checkedSumsRow : OpenClaim := { program := "ytkmhebfahfaokaa", sum := "c80e9db8f1f207052d400f1f0286392bfae90b64e9355fb7ce92f3efb0eeac61", func := "analemma/analemmalaw02.CheckedSums", spec := "checkedSums", inPlace := ["math/bits.Add64", "math/bits.Sub64"], named := ["math/bits.divideError", "math/bits.overflowError"], apart := false }
def CheckedSumsSaid : Prop := checkedSumsRow.holds Try.pinned (OpenSpec.ofChange checkedSumsSpec)

/-- ITS FALSE NEIGHBOUR: 'it returns false'. Refute it at one input. -/
def checkedSumsWrong : ChangeSpec := { name := "checkedSums", fn := fun _ => fun
  | [d1, d2] => { results := [.lit (.bool false)], args := [d1, d2] }
  | _ => none }
def CheckedSumsWrongFalsely : Prop := checkedSumsRow.holds Try.pinned (OpenSpec.ofChange checkedSumsWrong)

/-- 'analemmalaw02.CheckedProducts': WHATEVER THE INPUT: true; the input reads as it did. -/
def checkedProductsSpec : ChangeSpec := { name := "checkedProducts", fn := fun _ => fun
  | [d1, d2] => { results := [.lit (.bool true)], args := [d1, d2] }
  | _ => none }
def checkedProductsRow : OpenClaim := { program := "ytkmhebfahfaokaa", sum := "c80e9db8f1f207052d400f1f0286392bfae90b64e9355fb7ce92f3efb0eeac61", func := "analemma/analemmalaw02.CheckedProducts", spec := "checkedProducts", inPlace := ["math/bits.Sub64", "math/bits.Add64"], named := ["math/bits.divideError", "math/bits.overflowError"], apart := false }
def CheckedProductsSaid : Prop := checkedProductsRow.holds Try.pinned (OpenSpec.ofChange checkedProductsSpec)

/-- ITS FALSE NEIGHBOUR: 'it returns false'. Refute it at one input. -/
def checkedProductsWrong : ChangeSpec := { name := "checkedProducts", fn := fun _ => fun
  | [d1, d2] => { results := [.lit (.bool false)], args := [d1, d2] }
  | _ => none }
def CheckedProductsWrongFalsely : Prop := checkedProductsRow.holds Try.pinned (OpenSpec.ofChange checkedProductsWrong)

/-- 'analemmalaw02.CheckedFloors': WHATEVER THE INPUT: true; the input reads as it did. -/
def checkedFloorsSpec : ChangeSpec := { name := "checkedFloors", fn := fun _ => fun
  | [d1, d2] => { results := [.lit (.bool true)], args := [d1, d2] }
  | _ => none }
def checkedFloorsRow : OpenClaim := { program := "ytkmhebfahfaokaa", sum := "c80e9db8f1f207052d400f1f0286392bfae90b64e9355fb7ce92f3efb0eeac61", func := "analemma/analemmalaw02.CheckedFloors", spec := "checkedFloors", inPlace := ["math/bits.Add64", "math/bits.Sub64"], named := ["math/bits.divideError", "math/bits.overflowError"], apart := false }
def CheckedFloorsSaid : Prop := checkedFloorsRow.holds Try.pinned (OpenSpec.ofChange checkedFloorsSpec)

/-- ITS FALSE NEIGHBOUR: 'it returns false'. Refute it at one input. -/
def checkedFloorsWrong : ChangeSpec := { name := "checkedFloors", fn := fun _ => fun
  | [d1, d2] => { results := [.lit (.bool false)], args := [d1, d2] }
  | _ => none }
def CheckedFloorsWrongFalsely : Prop := checkedFloorsRow.holds Try.pinned (OpenSpec.ofChange checkedFloorsWrong)

/-- 'analemmalaw02.CheckedMulDivs': WHATEVER THE INPUT: true; the input reads as it did. -/
def checkedMulDivsSpec : ChangeSpec := { name := "checkedMulDivs", fn := fun _ => fun
  | [d1, d2, d3] => { results := [.lit (.bool true)], args := [d1, d2, d3] }
  | _ => none }
def checkedMulDivsRow : OpenClaim := { program := "ytkmhebfahfaokaa", sum := "c80e9db8f1f207052d400f1f0286392bfae90b64e9355fb7ce92f3efb0eeac61", func := "analemma/analemmalaw02.CheckedMulDivs", spec := "checkedMulDivs", inPlace := ["math/bits.Add64", "math/bits.Sub64"], named := ["math/bits.divideError", "math/bits.overflowError"], apart := false }
def CheckedMulDivsSaid : Prop := checkedMulDivsRow.holds Try.pinned (OpenSpec.ofChange checkedMulDivsSpec)

/-- ITS FALSE NEIGHBOUR: 'it returns false'. Refute it at one input. -/
def checkedMulDivsWrong : ChangeSpec := { name := "checkedMulDivs", fn := fun _ => fun
  | [d1, d2, d3] => { results := [.lit (.bool false)], args := [d1, d2, d3] }
  | _ => none }
def CheckedMulDivsWrongFalsely : Prop := checkedMulDivsRow.holds Try.pinned (OpenSpec.ofChange checkedMulDivsWrong)

/-- 'analemmalaw02.CheckedRests': WHATEVER THE INPUT: true; the input reads as it did. -/
def checkedRestsSpec : ChangeSpec := { name := "checkedRests", fn := fun _ => fun
  | [d1, d2] => { results := [.lit (.bool true)], args := [d1, d2] }
  | _ => none }
def checkedRestsRow : OpenClaim := { program := "ytkmhebfahfaokaa", sum := "c80e9db8f1f207052d400f1f0286392bfae90b64e9355fb7ce92f3efb0eeac61", func := "analemma/analemmalaw02.CheckedRests", spec := "checkedRests", inPlace := ["math/bits.Add64", "math/bits.Sub64"], named := ["math/bits.divideError", "math/bits.overflowError"], apart := false }
def CheckedRestsSaid : Prop := checkedRestsRow.holds Try.pinned (OpenSpec.ofChange checkedRestsSpec)

/-- ITS FALSE NEIGHBOUR: 'it returns false'. Refute it at one input. -/
def checkedRestsWrong : ChangeSpec := { name := "checkedRests", fn := fun _ => fun
  | [d1, d2] => { results := [.lit (.bool false)], args := [d1, d2] }
  | _ => none }
def CheckedRestsWrongFalsely : Prop := checkedRestsRow.holds Try.pinned (OpenSpec.ofChange checkedRestsWrong)

/- THE SECOND FORM. 'bulk': how many values and letters a reading holds, each counted each time it is reached (what is shared counts as often as it is met; a slice's spare places count too). A statement '..UptoSaid' is the law's where the arguments, and the package variables that the reading takes, are together of bulk at most 1048576: NARROWER than '..Said'. Prove '..Said' where nothing that the law and all that it calls make is longer than what came in: it says more and counts as full. Else prove '..UptoSaid'. A law counts once. -/
mutual
def uptoBulk {H : Type} : DataW H → Nat
  | .lit (.string bytes) => bytes.length + 1
  | .lit _ => 1
  | .nil => 1
  | .ptr d => uptoBulk d + 1
  | .slice elems spare => uptoBulkAll elems + uptoBulkAll spare + 1
  | .agg parts => uptoBulkAll parts + 1
  | .iface _ d => uptoBulk d + 1
  | .map entries => uptoBulkEntries entries + 1
  | .held _ => 1
def uptoBulkAll {H : Type} : List (DataW H) → Nat
  | [] => 0
  | d :: r => uptoBulk d + uptoBulkAll r
def uptoBulkEntries {H : Type} : List (Lit × DataW H) → Nat
  | [] => 0
  | x :: r => uptoBulkEntry x + uptoBulkEntries r
def uptoBulkEntry {H : Type} : Lit × DataW H → Nat
  | (.string bytes, d) => bytes.length + uptoBulk d + 1
  | (_, d) => uptoBulk d + 1
 end
def uptoSmall : (H : Type) → List (DataW H) → Bool := fun _ ds => decide (uptoBulkAll ds ≤ 1048576)
def OpenSpec.upto (s : _root_.Go.ChangeSpec) : _root_.Go.OpenSpec := { _root_.Go.OpenSpec.ofChange s with cond := some uptoSmall }

/-- 'analemmalaw01.WideSums', WHERE WHAT IT READS IS OF BULK AT MOST 1048576: true; the input reads as it did. -/
def wideSumsUptoRow : OpenClaim := { program := "ytkmhebfahfaokaa", sum := "c80e9db8f1f207052d400f1f0286392bfae90b64e9355fb7ce92f3efb0eeac61", func := "analemma/analemmalaw01.WideSums", spec := "wideSums", inPlace := ["math/bits.Add64", "math/bits.Sub64"], named := ["math/bits.divideError", "math/bits.overflowError"], apart := false, narrowed := true }
def WideSumsUptoSaid : Prop := wideSumsUptoRow.holds Try.pinned (OpenSpec.upto wideSumsSpec)

/-- 'analemmalaw01.WideMuls', WHERE WHAT IT READS IS OF BULK AT MOST 1048576: true; the input reads as it did. -/
def wideMulsUptoRow : OpenClaim := { program := "ytkmhebfahfaokaa", sum := "c80e9db8f1f207052d400f1f0286392bfae90b64e9355fb7ce92f3efb0eeac61", func := "analemma/analemmalaw01.WideMuls", spec := "wideMuls", inPlace := ["math/bits.Add64", "math/bits.Sub64"], named := ["math/bits.divideError", "math/bits.overflowError"], apart := false, narrowed := true }
def WideMulsUptoSaid : Prop := wideMulsUptoRow.holds Try.pinned (OpenSpec.upto wideMulsSpec)

/-- 'analemmalaw01.WideInts', WHERE WHAT IT READS IS OF BULK AT MOST 1048576: true; the input reads as it did. -/
def wideIntsUptoRow : OpenClaim := { program := "ytkmhebfahfaokaa", sum := "c80e9db8f1f207052d400f1f0286392bfae90b64e9355fb7ce92f3efb0eeac61", func := "analemma/analemmalaw01.WideInts", spec := "wideInts", inPlace := ["math/bits.Add64", "math/bits.Sub64"], named := ["math/bits.divideError", "math/bits.overflowError"], apart := false, narrowed := true }
def WideIntsUptoSaid : Prop := wideIntsUptoRow.holds Try.pinned (OpenSpec.upto wideIntsSpec)

/-- 'analemmalaw01.WideTexts', WHERE WHAT IT READS IS OF BULK AT MOST 1048576: true; the input reads as it did. -/
def wideTextsUptoRow : OpenClaim := { program := "ytkmhebfahfaokaa", sum := "c80e9db8f1f207052d400f1f0286392bfae90b64e9355fb7ce92f3efb0eeac61", func := "analemma/analemmalaw01.WideTexts", spec := "wideTexts", inPlace := ["math/bits.Sub64", "math/bits.Add64"], named := ["math/bits.divideError", "math/bits.overflowError"], apart := false, narrowed := true }
def WideTextsUptoSaid : Prop := wideTextsUptoRow.holds Try.pinned (OpenSpec.upto wideTextsSpec)

/-- 'analemmalaw01.WideBack', WHERE WHAT IT READS IS OF BULK AT MOST 1048576: true; the input reads as it did. -/
def wideBackUptoRow : OpenClaim := { program := "ytkmhebfahfaokaa", sum := "c80e9db8f1f207052d400f1f0286392bfae90b64e9355fb7ce92f3efb0eeac61", func := "analemma/analemmalaw01.WideBack", spec := "wideBack", inPlace := ["math/bits.Add64", "math/bits.Sub64"], named := ["math/bits.divideError", "math/bits.overflowError"], apart := false, narrowed := true }
def WideBackUptoSaid : Prop := wideBackUptoRow.holds Try.pinned (OpenSpec.upto wideBackSpec)

/-- 'analemmalaw02.CheckedSums', WHERE WHAT IT READS IS OF BULK AT MOST 1048576: true; the input reads as it did. -/
def checkedSumsUptoRow : OpenClaim := { program := "ytkmhebfahfaokaa", sum := "c80e9db8f1f207052d400f1f0286392bfae90b64e9355fb7ce92f3efb0eeac61", func := "analemma/analemmalaw02.CheckedSums", spec := "checkedSums", inPlace := ["math/bits.Add64", "math/bits.Sub64"], named := ["math/bits.divideError", "math/bits.overflowError"], apart := false, narrowed := true }
def CheckedSumsUptoSaid : Prop := checkedSumsUptoRow.holds Try.pinned (OpenSpec.upto checkedSumsSpec)

/-- 'analemmalaw02.CheckedProducts', WHERE WHAT IT READS IS OF BULK AT MOST 1048576: true; the input reads as it did. -/
def checkedProductsUptoRow : OpenClaim := { program := "ytkmhebfahfaokaa", sum := "c80e9db8f1f207052d400f1f0286392bfae90b64e9355fb7ce92f3efb0eeac61", func := "analemma/analemmalaw02.CheckedProducts", spec := "checkedProducts", inPlace := ["math/bits.Sub64", "math/bits.Add64"], named := ["math/bits.divideError", "math/bits.overflowError"], apart := false, narrowed := true }
def CheckedProductsUptoSaid : Prop := checkedProductsUptoRow.holds Try.pinned (OpenSpec.upto checkedProductsSpec)

/-- 'analemmalaw02.CheckedFloors', WHERE WHAT IT READS IS OF BULK AT MOST 1048576: true; the input reads as it did. -/
def checkedFloorsUptoRow : OpenClaim := { program := "ytkmhebfahfaokaa", sum := "c80e9db8f1f207052d400f1f0286392bfae90b64e9355fb7ce92f3efb0eeac61", func := "analemma/analemmalaw02.CheckedFloors", spec := "checkedFloors", inPlace := ["math/bits.Add64", "math/bits.Sub64"], named := ["math/bits.divideError", "math/bits.overflowError"], apart := false, narrowed := true }
def CheckedFloorsUptoSaid : Prop := checkedFloorsUptoRow.holds Try.pinned (OpenSpec.upto checkedFloorsSpec)

/-- 'analemmalaw02.CheckedMulDivs', WHERE WHAT IT READS IS OF BULK AT MOST 1048576: true; the input reads as it did. -/
def checkedMulDivsUptoRow : OpenClaim := { program := "ytkmhebfahfaokaa", sum := "c80e9db8f1f207052d400f1f0286392bfae90b64e9355fb7ce92f3efb0eeac61", func := "analemma/analemmalaw02.CheckedMulDivs", spec := "checkedMulDivs", inPlace := ["math/bits.Add64", "math/bits.Sub64"], named := ["math/bits.divideError", "math/bits.overflowError"], apart := false, narrowed := true }
def CheckedMulDivsUptoSaid : Prop := checkedMulDivsUptoRow.holds Try.pinned (OpenSpec.upto checkedMulDivsSpec)

/-- 'analemmalaw02.CheckedRests', WHERE WHAT IT READS IS OF BULK AT MOST 1048576: true; the input reads as it did. -/
def checkedRestsUptoRow : OpenClaim := { program := "ytkmhebfahfaokaa", sum := "c80e9db8f1f207052d400f1f0286392bfae90b64e9355fb7ce92f3efb0eeac61", func := "analemma/analemmalaw02.CheckedRests", spec := "checkedRests", inPlace := ["math/bits.Add64", "math/bits.Sub64"], named := ["math/bits.divideError", "math/bits.overflowError"], apart := false, narrowed := true }
def CheckedRestsUptoSaid : Prop := checkedRestsUptoRow.holds Try.pinned (OpenSpec.upto checkedRestsSpec)

end Rows
end Go.Proofs.Ytkmhebfahfaokaa
