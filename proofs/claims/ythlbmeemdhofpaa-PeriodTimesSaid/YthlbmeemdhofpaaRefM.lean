/- Contract of the plain answer of layer 1: the product. -/
import Derived.Test.YthlbmeemdhofpaaRefD
import Derived.WalkKit
import Derived.ProofKit
import Derived.OpenShut
import Derived.Handy
import Derived.Outline
import Derived.Lib.Hide
namespace Go.Proofs.Ythlbmeemdhofpaa
set_option linter.unusedVariables false
open Go.ChangeShapes Go.WideShapes Go.ChangeAt Go.RowKit

/-- Three blocks from s on: a number's two cells, and two rows of bits; below them all is as it was. -/
structure Mst (s : Nat) (w wr : World) (f g : Nat → Bool) : Prop where
  z : wr.heap[s]? = some (.cells #[.int .u64 0, .int .u64 0] 60 (0, 0))
  c : wr.heap[s + 1]? = some (.cells (bv f) 74 (0, 0))
  d : wr.heap[s + 1 + 1]? = some (.cells (bv g) 74 (0, 0))
  b : Below s w wr
theorem Mst.size {s : Nat} {w wr : World} {f g : Nat → Bool} (h : Mst s w wr f g) : s + 1 + 1 < wr.heap.size := by
  rcases Nat.lt_or_ge (s + 1 + 1) wr.heap.size with h1 | h1
  · exact h1
  · have := h.d; rw [Array.getElem?_eq_none h1] at this; cases this
theorem heap_setCell_bv {wr : World} {b k : Nat} {g : Nat → Bool} {t : TypeId} {fr : Nat × Nat} (x : Bool) (h : wr.heap[b]? = some (.cells (bv g) t fr)) : (wr.setCell ⟨b, k, none⟩ (.bool x)).heap[b]? = some (.cells (bv (upd g k x)) t fr) := by
  simp only [World.setCell, Array.getElem?_modify, if_true, h, Option.map_some]
  rw [← bv_set]; rfl
theorem Mst.setD {s : Nat} {w wr : World} {f g : Nat → Bool} (h : Mst s w wr f g) (k : Nat) (x : Bool) : Mst s w (wr.setCell ⟨s + 1 + 1, k, none⟩ (.bool x)) f (upd g k x) :=
  ⟨by rw [Below.heap_setCell _ _ _ _ (by show s ≠ s + 1 + 1; omega)]; exact h.z, by rw [Below.heap_setCell _ _ _ _ (by show s + 1 ≠ s + 1 + 1; omega)]; exact h.c, heap_setCell_bv x h.d, h.b.setCell (by show s ≤ s + 1 + 1; omega) _⟩
theorem Mst.call {s : Nat} {w wr w1 : World} {f g : Nat → Bool} (h : Mst s w wr f g) (hb : Below wr.heap.size wr w1) : Mst s w w1 f g := by
  have := h.size
  exact ⟨by rw [hb.block _ (by omega)]; exact h.z, by rw [hb.block _ (by omega)]; exact h.c, by rw [hb.block _ (by omega)]; exact h.d, h.b.trans (hb.mono (by omega))⟩
theorem Mst.rowC {s : Nat} {w wr : World} {f g : Nat → Bool} (h : Mst s w wr f g) (f' : Nat → Bool) : Mst s w (wr.setRow (s + 1) (bv f')) f' g := by
  refine ⟨?_, ?_, ?_, h.b.trans ⟨rfl, rfl, rfl, by simp [World.setRow], fun i hi => by simp [World.setRow, Array.getElem?_modify, show ¬ s + 1 = i by omega]⟩⟩
  · simp only [World.setRow, Array.getElem?_modify, show ¬ s + 1 = s by omega, if_false]; exact h.z
  · simp only [World.setRow, Array.getElem?_modify, if_true, h.c, Option.map_some]
  · simp only [World.setRow, Array.getElem?_modify, show ¬ s + 1 = s + 1 + 1 by omega, if_false]; exact h.d
theorem Mst.congr {s : Nat} {w wr : World} {f g f' g' : Nat → Bool} (h : Mst s w wr f g) (hf : bv f = bv f') (hg : bv g = bv g') : Mst s w wr f' g' :=
  ⟨h.z, by rw [← hf]; exact h.c, by rw [← hg]; exact h.d, h.b⟩
theorem Mst.cellD {s : Nat} {w wr : World} {f g : Nat → Bool} (h : Mst s w wr f g) (k : Nat) (hk : k < 128) : wr.cell? ⟨s + 1 + 1, k, none⟩ = some (.bool (g k)) := by
  rw [cell_of_row _ _ _ _ _ _ h.d, bv_get g k hk]
theorem Mst.freeD {s : Nat} {w wr : World} {f g : Nat → Bool} (h : Mst s w wr f g) (k : Nat) : wr.frozen? ⟨s + 1 + 1, k, none⟩ = false := by simp [World.frozen?, h.d]
theorem Mst.cellZ {s : Nat} {w wr : World} {f g : Nat → Bool} (h : Mst s w wr f g) (k : Nat) (hk : k < 2) : wr.cell? ⟨s, k, none⟩ = some (.int .u64 0) := by
  rw [cell_of_row _ _ _ _ _ _ h.z]
  match k, hk with
  | 0, _ => rfl
  | 1, _ => rfl
theorem Mst.freeZ {s : Nat} {w wr : World} {f g : Nat → Bool} (h : Mst s w wr f g) (k : Nat) : wr.frozen? ⟨s, k, none⟩ = false := by simp [World.frozen?, h.z]

def lay (a i : Nat) : Nat → Bool := fun k => decide (k < i) && a.testBit k
theorem lay_zero (a : Nat) : lay a 0 = fun _ => false := by funext k; simp [lay]
theorem lay_succ (a i : Nat) : upd (lay a i) i (a.testBit i) = lay a (i + 1) := by
  funext k
  simp only [upd, lay]
  by_cases h2 : k = i
  · subst h2; simp
  · rw [if_neg h2, show decide (k < i) = decide (k < i + 1) by rw [decide_eq_decide]; omega]
theorem lay_end (a : Nat) (ha : U a) : bv (lay a 64) = bv (Nat.testBit a) := by
  apply bv_congr
  intro k _
  unfold lay
  by_cases h : k < 64
  · simp [h]
  · have : a.testBit k = false := Nat.testBit_lt_two_pow (Nat.lt_of_lt_of_le (show a < 2 ^ 64 from ha) (Nat.pow_le_pow_right (by omega) (by omega)))
    simp [this]
/-- d while it is moved up by one: from the top down to k. -/
def mov (D k : Nat) : Nat → Bool := fun j => if k < j then D.testBit (j - 1) else D.testBit j
theorem mov_start (D : Nat) : bv (mov D 127) = bv (Nat.testBit D) := bv_congr fun k hk => by simp [mov, show ¬ 127 < k by omega]
theorem mov_step (D k : Nat) (h : 0 < k) : upd (mov D k) k (mov D k (k - 1)) = mov D (k - 1) := by
  funext j
  simp only [upd, mov]
  by_cases h1 : j = k
  · subst h1; simp [show ¬ j < j - 1 by omega, show j - 1 < j by omega]
  · rw [if_neg h1]
    by_cases h2 : k < j
    · rw [if_pos h2, if_pos (by omega)]
    · rw [if_neg h2, if_neg (by omega)]
theorem mov_end (D : Nat) (hD : 2 * D < 340282366920938463463374607431768211456) : bv (upd (mov D 0) 0 false) = bv (Nat.testBit (2 * D)) := by
  apply bv_congr
  intro j _
  simp only [upd, mov]
  by_cases h : j = 0
  · subst h; simp
  · rw [if_neg h, if_pos (by omega)]
    obtain ⟨i, rfl⟩ : ∃ i, j = i + 1 := ⟨j - 1, by omega⟩
    rw [Nat.testBit_succ]; simp
theorem bv_num {f : Nat → Bool} {n : Nat} (h : val f 128 = n) : bv f = bv (Nat.testBit n) := by rw [bv_val, h]
theorem mul_step (a b i : Nat) : a * (b % 2 ^ (i + 1)) = a * (b % 2 ^ i) + (if b.testBit i then a * 2 ^ i else 0) := by
  rw [Nat.mod_pow_succ, Nat.testBit_eq_decide_div_mod_eq, Nat.mul_add]
  by_cases h : b / 2 ^ i % 2 = 1
  · simp [h]
  · have : b / 2 ^ i % 2 = 0 := by omega
    simp [this]
theorem mul_lt (a b : Nat) (ha : U a) (i : Nat) (hi : i ≤ 64) (hb : b ≤ 2 ^ i) : a * b < 340282366920938463463374607431768211456 := by
  have h1 : a * b ≤ a * 2 ^ i := Nat.mul_le_mul_left _ hb
  have h2 : 2 ^ i ≤ 2 ^ 64 := Nat.pow_le_pow_right (by omega) hi
  have h3 : a * 2 ^ i ≤ a * 2 ^ 64 := Nat.mul_le_mul_left _ h2
  unfold U at ha; omega
end Go.Proofs.Ythlbmeemdhofpaa
