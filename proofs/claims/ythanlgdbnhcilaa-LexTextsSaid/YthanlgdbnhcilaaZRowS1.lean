/- Several texts in one: RowS. -/
import Derived.Test.YthanlgdbnhcilaaZPkg2
import Derived.Laws.Tables
namespace Go.Proofs.Ythanlgdbnhcilaa
set_option linter.unusedVariables false
set_option linter.unusedSimpArgs false
open Go.ChangeShapes Go.WideShapes Go.ChangeAt Go.RowKit
theorem row_set1 {w : World} {b : Nat} {cs : Array Value} {t : TypeId} (h : w.heap[b]? = some (.cells cs t (0, 0))) (j : Nat) (p : Value) :
    (w.setCell ⟨b, j, none⟩ p).heap[b]? = some (.cells (cs.setIfInBounds j p) t (0, 0)) := by
  simp [World.setCell, Array.getElem?_modify, h]
theorem row_other1 {w : World} {b k : Nat} {o : Option Obj} (hne : b ≠ k) (h : w.heap[b]? = o) (j : Nat) (p : Value) : (w.setCell ⟨k, j, none⟩ p).heap[b]? = o := by
  rw [Below.heap_setCell _ _ _ _ (by show b ≠ k; exact hne)]; exact h
end Go.Proofs.Ythanlgdbnhcilaa
