/- Contract of the plain answer of layer 1: quotient and rest. -/
import Derived.Test.YthlbmeemdhofpaaRefM
import Derived.WalkKit
import Derived.ProofKit
import Derived.OpenShut
import Derived.Handy
import Derived.Outline
import Derived.Lib.Hide
import Derived.Test.YthlbmeemdhofpaaLotP
namespace Go.Proofs.Ythlbmeemdhofpaa
set_option linter.unusedVariables false
open Go.ChangeShapes Go.WideShapes Go.ChangeAt Go.RowKit

theorem lt_of_heap {w : World} {k : Nat} {o : Obj} (h : w.heap[k]? = some o) : k < w.heap.size := by
  rcases Nat.lt_or_ge k w.heap.size with h1 | h1
  · exact h1
  · rw [Array.getElem?_eq_none h1] at h; cases h
structure Dst (n : Nat) (w wr : World) (f g : Nat → Bool) : Prop where
  x : wr.heap[n]? = some (.cells (bv f) 74 (0, 0))
  q : wr.heap[n + 1]? = some (.cells (bv g) 74 (0, 0))
  b : Below n w wr
theorem Dst.setQ {n : Nat} {w wr : World} {f g : Nat → Bool} (h : Dst n w wr f g) (k : Nat) (x : Bool) : Dst n w (wr.setCell ⟨n + 1, k, none⟩ (.bool x)) f (upd g k x) :=
  ⟨by rw [Below.heap_setCell _ _ _ _ (by show n ≠ n + 1; omega)]; exact h.x, heap_setCell_bv x h.q, h.b.setCell (by show n ≤ n + 1; omega) _⟩
theorem Dst.cellX {n : Nat} {w wr : World} {f g : Nat → Bool} (h : Dst n w wr f g) (k : Nat) (hk : k < 128) : wr.cell? ⟨n, k, none⟩ = some (.bool (f k)) := by
  rw [cell_of_row _ _ _ _ _ _ h.x, bv_get f k hk]
theorem Dst.cellQ {n : Nat} {w wr : World} {f g : Nat → Bool} (h : Dst n w wr f g) (k : Nat) (hk : k < 128) : wr.cell? ⟨n + 1, k, none⟩ = some (.bool (g k)) := by
  rw [cell_of_row _ _ _ _ _ _ h.q, bv_get g k hk]
theorem Dst.freeQ {n : Nat} {w wr : World} {f g : Nat → Bool} (h : Dst n w wr f g) (k : Nat) : wr.frozen? ⟨n + 1, k, none⟩ = false := by simp [World.frozen?, h.q]
theorem Dst.congr {n : Nat} {w wr : World} {f g f' g' : Nat → Bool} (h : Dst n w wr f g) (hf : bv f = bv f') (hg : bv g = bv g') : Dst n w wr f' g' :=
  ⟨by rw [← hf]; exact h.x, by rw [← hg]; exact h.q, h.b⟩

/-- the quotient's bits while they are laid from the top down. -/
def qq (Q k : Nat) : Nat → Bool := fun j => decide (k ≤ j) && Q.testBit j
theorem qq_start (Q : Nat) : bv (qq Q 128) = bv fun _ => false := bv_congr fun j hj => by simp [qq, show ¬ 128 ≤ j by omega]
theorem qq_zero (Q : Nat) : qq Q 0 = Nat.testBit Q := by funext j; simp [qq]
theorem qq_set (Q i : Nat) (h : Q.testBit i = true) : upd (qq Q (i + 1)) i true = qq Q i := by
  funext j
  simp only [upd, qq]
  by_cases h1 : j = i
  · subst h1; simp [h]
  · rw [if_neg h1, show decide (i + 1 ≤ j) = decide (i ≤ j) by rw [decide_eq_decide]; omega]
theorem qq_keep (Q i : Nat) (h : Q.testBit i = false) : qq Q (i + 1) = qq Q i := by
  funext j
  simp only [qq]
  by_cases h1 : j = i
  · subst h1; simp [h]
  · rw [show decide (i + 1 ≤ j) = decide (i ≤ j) by rw [decide_eq_decide]; omega]
theorem div_step (A b i : Nat) (hb : 0 < b) : let r := A / 2 ^ (i + 1) % b; let r2 := 2 * r + (A.testBit i).toNat
    (A / b).testBit i = decide (b ≤ r2) ∧ A / 2 ^ i % b = (if b ≤ r2 then r2 - b else r2) ∧ r < b := by
  intro r r2
  have hM : A / 2 ^ i = 2 * (A / 2 ^ (i + 1)) + (A.testBit i).toNat := by
    rw [Nat.pow_succ, ← Nat.div_div_eq_div_mul, Nat.testBit_eq_decide_div_mod_eq]
    generalize A / 2 ^ i = M
    by_cases h : M % 2 = 1
    · simp [h]; omega
    · simp [h]; omega
  have hr : r < b := Nat.mod_lt _ hb
  have hq : (A / b).testBit i = decide ((A / 2 ^ i) / b % 2 = 1) := by
    rw [Nat.testBit_eq_decide_div_mod_eq, Nat.div_div_eq_div_mul, Nat.div_div_eq_div_mul, Nat.mul_comm b]
  have hd : A / 2 ^ (i + 1) = b * (A / 2 ^ (i + 1) / b) + r := (Nat.div_add_mod _ _).symm
  have hb2 : (A.testBit i).toNat < 2 := by cases A.testBit i <;> decide
  have e : A / 2 ^ i = b * (2 * (A / 2 ^ (i + 1) / b)) + r2 := by
    rw [hM]
    have : r2 = 2 * r + (A.testBit i).toNat := rfl
    rw [this]
    generalize A / 2 ^ (i + 1) / b = Qq at *
    generalize A / 2 ^ (i + 1) = M at *
    have : b * (2 * Qq) = 2 * (b * Qq) := by rw [Nat.mul_left_comm]
    omega
  generalize A / 2 ^ (i + 1) / b = Qq at e
  rw [hq]
  have hr2 : r2 < 2 * b := by show 2 * r + _ < 2 * b; omega
  by_cases hc : b ≤ r2
  · have e1 : A / 2 ^ i = b * (2 * Qq + 1) + (r2 - b) := by rw [e, Nat.mul_add]; omega
    refine ⟨?_, ?_, hr⟩
    · rw [e1, Nat.mul_add_div hb, Nat.div_eq_of_lt (by omega)]; simp [hc]
    · rw [e1, Nat.mul_add_mod, Nat.mod_eq_of_lt (by omega), if_pos hc]
  · refine ⟨?_, ?_, hr⟩
    · rw [e, Nat.mul_add_div hb, Nat.div_eq_of_lt (by omega)]; simp [hc]
    · rw [e, Nat.mul_add_mod, Nat.mod_eq_of_lt (by omega), if_neg hc]

theorem or_one (x y : Nat) (hx : x = 2 * y) (h : U x) : bits .or .u64 (x : Int) 1 = ((x + 1 : Nat) : Int) := by
  have := u64_or_nat x 1 h (by omega)
  rw [show ((1 : Nat) : Int) = 1 from rfl] at this
  rw [this, hx]
  have h2 := Nat.two_pow_add_eq_or_of_lt (show 1 < 2 ^ 1 by omega) y
  rw [Nat.pow_one] at h2
  rw [← h2]

end Go.Proofs.Ythlbmeemdhofpaa
