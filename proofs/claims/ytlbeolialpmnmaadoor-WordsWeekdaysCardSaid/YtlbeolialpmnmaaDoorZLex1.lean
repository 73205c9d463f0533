/- Several texts in one: LisA, LexA. -/
import Derived.Test.YtlbeolialpmnmaaDoorRows
import Derived.WalkKit
import Derived.ProofKit
import Derived.OpenShut
import Derived.Handy
import Derived.Outline
import Derived.Lib.Hide
import Derived.Below
import Derived.OwnWalk
import Derived.Laws.OwnMore
import Derived.Deep.AppendLies
import Derived.Laws.Strings
import Derived.Laws.Strings2
import Derived.Laws.Slices
namespace Go.Proofs.YtlbeolialpmnmaaDoor
set_option linter.unusedVariables false
open Go.ChangeShapes Go.WideShapes Go.ChangeAt Go.RowKit
def Lies (w : World) (g : Nat) (xs : List Value) : Prop := ∀ j u, xs[j]? = some u → w.cell? ⟨g, j, none⟩ = some u
theorem Lies.keep {w w' : World} {g : Nat} {xs : List Value} (h : Lies w g xs) (hb : w'.heap[g]? = w.heap[g]?) : Lies w' g xs :=
  fun j u hu => (World.cell?_of_block (a := ⟨g, j, none⟩) hb).trans (h j u hu)
end Go.Proofs.YtlbeolialpmnmaaDoor
namespace Go.Proofs.YtlbeolialpmnmaaDoor
set_option linter.unusedVariables false
open Go.ChangeShapes Go.WideShapes Go.ChangeAt Go.RowKit
@[irreducible] def bs (l : List UInt8) : ByteArray := ⟨l.toArray⟩
theorem bs_toList (l : List UInt8) : (bs l).data.toList = l := by unfold bs; simp
theorem bs_list (l : List UInt8) : (bs l).toList = l := by rw [ByteArray.toList_eq]; exact bs_toList l
theorem bs_of (s : ByteArray) : bs s.data.toList = s := by unfold bs; simp
theorem bs_size (l : List UInt8) : (bs l).size = l.length := by unfold bs; simp [ByteArray.size]
theorem size_toList (s : ByteArray) : s.data.toList.length = s.size := Array.length_toList
theorem extract_bs (s : ByteArray) (a k : Nat) : s.extract a k = bs ((s.data.toList.take k).drop a) := by
  apply ByteArray.ext
  unfold bs
  rw [ByteArray.data_extract]
  apply Array.ext'
  simp [Array.toList_extract, List.extract_eq_take_drop, List.drop_take]
theorem append_bs (a b : List UInt8) : bs a ++ bs b = bs (a ++ b) := by
  apply ByteArray.ext
  unfold bs
  rw [ByteArray.data_append]
  simp
theorem snocInd {α : Type} {P : List α → Prop} (h0 : P []) (h : ∀ l c, P l → P (l ++ [c])) (l : List α) : P l := by
  have key : ∀ r : List α, P r.reverse := by
    intro r
    induction r with
    | nil => exact h0
    | cons c r ih => rw [List.reverse_cons]; exact h _ _ ih
  have := key l.reverse
  rwa [List.reverse_reverse] at this
theorem get_of_toList (s : ByteArray) (k : Nat) (h' : k < s.size) (h : k < s.data.toList.length) : s[k] = s.data.toList[k] := by simp [ByteArray.getElem_eq_getElem_data]
theorem get_bs (L : List UInt8) (k : Nat) (h : k < L.length) (h' : k < (bs L).size) : (bs L)[k] = L[k] := by
  have e : (bs L).data.toList = L := bs_toList L
  rw [get_of_toList (bs L) k h' (by rw [e]; exact h)]
  congr 1
theorem byte_bs (L : List UInt8) (k : Nat) (h : k < L.length) (h' : k < (bs L).size) {c : Nat} (hc : L[k].toNat = c) : ((bs L)[k]'h').toNat = c := by rw [get_bs L k h h']; exact hc
theorem take_snoc {l : List UInt8} {k : Nat} (h : k < l.length) : l.take (k + 1) = l.take k ++ [l[k]] := List.take_succ_eq_append_getElem h
theorem slice_bs (L : List UInt8) (a b : Nat) (hab : a ≤ b) (hb : b ≤ L.length) {A B : Int} (hA : A = (a : Int)) (hB : B = (b : Int)) (W : World) :
    (Instr.slice 9 (.string (bs L)) (some (.int .i64 A)) (some (.int .i64 B)) none).run Tryd.prog W = .ok (.string (bs ((L.take b).drop a))) W := by
  subst hA
  subst hB
  rw [run_slice_string W 9 (bs L) .i64 .i64 a b Tryd.underlying9 (by omega) (by omega) (by rw [bs_size]; omega)]
  rw [extract_bs, bs_toList]
  rfl
theorem slice_from (L : List UInt8) (a : Nat) (ha : a ≤ L.length) {A : Int} (hA : A = (a : Int)) (W : World) :
    (Instr.slice 9 (.string (bs L)) (some (.int .i64 A)) none none).run Tryd.prog W = .ok (.string (bs (L.drop a))) W := by
  subst hA
  rw [run_slice_string_l W 9 (bs L) Tryd.underlying9 .i64 a (by omega) (by rw [bs_size]; omega)]
  rw [extract_bs, bs_toList, bs_size, List.take_length]
  rfl
theorem slice_upto (L : List UInt8) (b : Nat) (hb : b ≤ L.length) {B : Int} (hB : B = (b : Int)) (W : World) :
    (Instr.slice 9 (.string (bs L)) none (some (.int .i64 B)) none).run Tryd.prog W = .ok (.string (bs (L.take b))) W := by
  subst hB
  rw [run_slice_string_h W 9 (bs L) Tryd.underlying9 .i64 b (by omega) (by rw [bs_size]; omega)]
  rw [extract_bs, bs_toList]
  rfl
end Go.Proofs.YtlbeolialpmnmaaDoor
