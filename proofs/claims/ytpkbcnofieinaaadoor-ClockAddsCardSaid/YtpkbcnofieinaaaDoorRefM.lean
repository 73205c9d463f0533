/- Contract of the plain answer of layer 1: the product. -/
import Derived.Test.YtpkbcnofieinaaaDoorRefD
import Derived.WalkKit
import Derived.ProofKit
import Derived.OpenShut
import Derived.Handy
import Derived.Outline
import Derived.Lib.Hide
namespace Go.Proofs.YtpkbcnofieinaaaDoor
set_option linter.unusedVariables false
open Go.ChangeShapes Go.WideShapes Go.ChangeAt Go.RowKit

theorem heap_setCell_bv {wr : World} {b k : Nat} {g : Nat → Bool} {t : TypeId} {fr : Nat × Nat} (x : Bool) (h : wr.heap[b]? = some (.cells (bv g) t fr)) : (wr.setCell ⟨b, k, none⟩ (.bool x)).heap[b]? = some (.cells (bv (upd g k x)) t fr) := by
  simp only [World.setCell, Array.getElem?_modify, if_true, h, Option.map_some]
  rw [← bv_set]; rfl
def lay (a i : Nat) : Nat → Bool := fun k => decide (k < i) && a.testBit k
theorem lay_zero (a : Nat) : lay a 0 = fun _ => false := by funext k; simp [lay]
theorem lay_succ (a i : Nat) : upd (lay a i) i (a.testBit i) = lay a (i + 1) := by
  funext k
  simp only [upd, lay]
  by_cases h2 : k = i
  · subst h2; simp
  · rw [if_neg h2, show decide (k < i) = decide (k < i + 1) by rw [decide_eq_decide]; omega]
theorem lay_end (a : Nat) (ha : U a) : bv (lay a 64) = bv (Nat.testBit a) := by
  apply bv_congr
  intro k _
  unfold lay
  by_cases h : k < 64
  · simp [h]
  · have : a.testBit k = false := Nat.testBit_lt_two_pow (Nat.lt_of_lt_of_le (show a < 2 ^ 64 from ha) (Nat.pow_le_pow_right (by omega) (by omega)))
    simp [this]
/-- d while it is moved up by one: from the top down to k. -/
def mov (D k : Nat) : Nat → Bool := fun j => if k < j then D.testBit (j - 1) else D.testBit j
theorem mov_start (D : Nat) : bv (mov D 127) = bv (Nat.testBit D) := bv_congr fun k hk => by simp [mov, show ¬ 127 < k by omega]
theorem mov_step (D k : Nat) (h : 0 < k) : upd (mov D k) k (mov D k (k - 1)) = mov D (k - 1) := by
  funext j
  simp only [upd, mov]
  by_cases h1 : j = k
  · subst h1; simp [show ¬ j < j - 1 by omega, show j - 1 < j by omega]
  · rw [if_neg h1]
    by_cases h2 : k < j
    · rw [if_pos h2, if_pos (by omega)]
    · rw [if_neg h2, if_neg (by omega)]
theorem mov_end (D : Nat) (hD : 2 * D < 340282366920938463463374607431768211456) : bv (upd (mov D 0) 0 false) = bv (Nat.testBit (2 * D)) := by
  apply bv_congr
  intro j _
  simp only [upd, mov]
  by_cases h : j = 0
  · subst h; simp
  · rw [if_neg h, if_pos (by omega)]
    obtain ⟨i, rfl⟩ : ∃ i, j = i + 1 := ⟨j - 1, by omega⟩
    rw [Nat.testBit_succ]; simp
theorem bv_num {f : Nat → Bool} {n : Nat} (h : val f 128 = n) : bv f = bv (Nat.testBit n) := by rw [bv_val, h]
theorem mul_step (a b i : Nat) : a * (b % 2 ^ (i + 1)) = a * (b % 2 ^ i) + (if b.testBit i then a * 2 ^ i else 0) := by
  rw [Nat.mod_pow_succ, Nat.testBit_eq_decide_div_mod_eq, Nat.mul_add]
  by_cases h : b / 2 ^ i % 2 = 1
  · simp [h]
  · have : b / 2 ^ i % 2 = 0 := by omega
    simp [this]
theorem mul_lt (a b : Nat) (ha : U a) (i : Nat) (hi : i ≤ 64) (hb : b ≤ 2 ^ i) : a * b < 340282366920938463463374607431768211456 := by
  have h1 : a * b ≤ a * 2 ^ i := Nat.mul_le_mul_left _ hb
  have h2 : 2 ^ i ≤ 2 ^ 64 := Nat.pow_le_pow_right (by omega) hi
  have h3 : a * 2 ^ i ≤ a * 2 ^ 64 := Nat.mul_le_mul_left _ h2
  unfold U at ha; omega
end Go.Proofs.YtpkbcnofieinaaaDoor
