/- Several texts in one: RowS. -/
import Derived.Test.YtafecnlaodgmkaaGreatDoorY2Pkg2
import Derived.Laws.Tables
namespace Go.Proofs.YtafecnlaodgmkaaGreatDoor
set_option linter.unusedVariables false
set_option linter.unusedSimpArgs false
open Go.ChangeShapes Go.WideShapes Go.ChangeAt Go.RowKit
theorem keep1 {W0 W : World} {k : Nat} (h : Below W0.heap.size W0 W) (hk : W0.heap.size ≤ k) (j : Nat) (a : Value) : Below W0.heap.size W0 (W.setCell ⟨k, j, none⟩ a) := h.setCell (by exact hk) _
theorem row_set1 {w : World} {b : Nat} {cs : Array Value} {t : TypeId} (h : w.heap[b]? = some (.cells cs t (0, 0))) (j : Nat) (p : Value) :
    (w.setCell ⟨b, j, none⟩ p).heap[b]? = some (.cells (cs.setIfInBounds j p) t (0, 0)) := by
  simp [World.setCell, Array.getElem?_modify, h]
theorem row_other1 {w : World} {b k : Nat} {o : Option Obj} (hne : b ≠ k) (h : w.heap[b]? = o) (j : Nat) (p : Value) : (w.setCell ⟨k, j, none⟩ p).heap[b]? = o := by
  rw [Below.heap_setCell _ _ _ _ (by show b ≠ k; exact hne)]; exact h
theorem keep3 {W0 W : World} {k : Nat} (h : Below W0.heap.size W0 W) (hk : W0.heap.size ≤ k) (a b c : Value) : Below W0.heap.size W0 (((W.setCell ⟨k, 0, none⟩ a).setCell ⟨k, 1, none⟩ b).setCell ⟨k, 2, none⟩ c) :=
  ((h.setCell (by exact hk) _).setCell (by exact hk) _).setCell (by exact hk) _
theorem row_set3 {w : World} {b : Nat} {x y z : Value} {t : TypeId} (h : w.heap[b]? = some (.cells #[x, y, z] t (0, 0))) (p q r : Value) :
    (((w.setCell ⟨b, 0, none⟩ p).setCell ⟨b, 1, none⟩ q).setCell ⟨b, 2, none⟩ r).heap[b]? = some (.cells #[p, q, r] t (0, 0)) := by
  simp [World.setCell, Array.getElem?_modify, h]
theorem row_other3 {w : World} {b k : Nat} {o : Option Obj} (hne : b ≠ k) (h : w.heap[b]? = o) (p q r : Value) : (((w.setCell ⟨k, 0, none⟩ p).setCell ⟨k, 1, none⟩ q).setCell ⟨k, 2, none⟩ r).heap[b]? = o :=
  row_other1 hne (row_other1 hne (row_other1 hne h 0 p) 1 q) 2 r
theorem cell3 {W0 W : World} {k b o : Nat} {v : Value} (hk : W0.heap.size ≤ k) (p q r : Value) (hlt : b < W0.heap.size) (hc : W.cell? ⟨b, o, none⟩ = some v) : (((W.setCell ⟨k, 0, none⟩ p).setCell ⟨k, 1, none⟩ q).setCell ⟨k, 2, none⟩ r).cell? ⟨b, o, none⟩ = some v := by
  rw [← hc]
  have h1 : (((W.setCell ⟨k, 0, none⟩ p).setCell ⟨k, 1, none⟩ q).setCell ⟨k, 2, none⟩ r).heap[b]? = W.heap[b]? := row_other3 (by omega) rfl p q r
  unfold World.cell?
  simp only [h1]
theorem keepRow {n : Nat} {W0 W : World} {k : Nat} (h : Below n W0 W) (hk : n ≤ k) (cs : Array Value) : Below n W0 (W.setRow k cs) := by
  refine h.trans ⟨rfl, rfl, rfl, by simp [World.setRow], fun i hi => ?_⟩
  simp only [World.setRow, Array.getElem?_modify]
  rw [if_neg (by omega)]
theorem row_otherR {w : World} {b k : Nat} {o : Option Obj} (hne : b ≠ k) (h : w.heap[b]? = o) (cs : Array Value) : (w.setRow k cs).heap[b]? = o := by
  simp only [World.setRow, Array.getElem?_modify]
  rw [if_neg (by omega)]; exact h
end Go.Proofs.YtafecnlaodgmkaaGreatDoor
