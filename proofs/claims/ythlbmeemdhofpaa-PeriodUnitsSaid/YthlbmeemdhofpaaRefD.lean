/- Contracts of the plain answers of layer 1: sum, difference, order, ints. -/
import Derived.Test.YthlbmeemdhofpaaRefA
import Derived.Test.YthlbmeemdhofpaaRefB
import Derived.Test.YthlbmeemdhofpaaRefC
import Derived.WalkKit
import Derived.ProofKit
import Derived.OpenShut
import Derived.Handy
import Derived.Outline
import Derived.Lib.Hide
import Derived.Deep.RegionHeld3
import Derived.Deep.WholeRow
import Derived.Deep.DeepCutAuto
import Derived.Test.YthlbmeemdhofpaaLotP
namespace Go.Proofs.Ythlbmeemdhofpaa
set_option linter.unusedVariables false
open Go.ChangeShapes Go.WideShapes Go.ChangeAt Go.RowKit

def big (n : Nat) : Bool := decide (340282366920938463463374607431768211456 ≤ n)
theorem sm_add (A B : Nat) (hA : A < 340282366920938463463374607431768211456) (hB : B < 340282366920938463463374607431768211456) :
    hi (val (sm A.testBit B.testBit false) 128) = hi (A + B) ∧ lo (val (sm A.testBit B.testBit false) 128) = lo (A + B) ∧ cr A.testBit B.testBit false 128 = big (A + B) := by
  have h := sum_val A.testBit B.testBit false 128
  rw [val_testBit, val_testBit] at h
  have hs := val_lt (sm A.testBit B.testBit false) 128
  generalize val (sm A.testBit B.testBit false) 128 = s at *
  generalize cr A.testBit B.testBit false 128 = c at *
  unfold hi lo big
  cases c <;> simp at h <;> simp <;> omega

theorem there_new (W : World) (c : Nat → Bool) : (W.alloc (.cells (bv c) 74)).there W.heap.size 0 128 := fun j hj => by
  rw [Nat.zero_add, World.cell?_alloc_at _ _ _ _ rfl, World.frozen?_alloc_at _ _ _ _ rfl, bv_get c j hj]
  exact ⟨rfl, rfl⟩
theorem there_below {V w1 : World} (hb : Below V.heap.size V w1) : ∀ k, k < V.heap.size → V.there k 0 128 → w1.there k 0 128 := fun k hk h j hj => by
  obtain ⟨hc, hf⟩ := bcell hb
  rw [hc _ _ hk, hf _ _ hk]; exact h j hj
theorem there_keep {V w1 : World} {k : Nat} (hb : Below V.heap.size V w1) (h : V.there k 0 128) : w1.there k 0 128 := by
  have h0 := (h 0 (by omega)).1
  have hk : k < V.heap.size := by
    rcases Nat.lt_or_ge k V.heap.size with h1 | h1
    · exact h1
    · simp [World.cell?, Array.getElem?_eq_none h1] at h0
  exact there_below hb k hk h
theorem there_alloc {W w1 : World} {c : Nat → Bool} (hb : Below (W.alloc (.cells (bv c) 74)).heap.size (W.alloc (.cells (bv c) 74)) w1) : w1.there W.heap.size 0 128 := there_keep hb (there_new W c)
theorem there_allocd {W w1 : World} {c : Nat → Bool} (hb : Below (W.alloc (.cells (bv c) 74)).drew.heap.size (W.alloc (.cells (bv c) 74)).drew w1) : w1.there W.heap.size 0 128 := there_keep hb (by simpa using there_new W c)
theorem lt_below {V w1 : World} (hb : Below V.heap.size V w1) : ∀ k, k < V.heap.size → k < w1.heap.size := fun k hk => Nat.lt_of_lt_of_le hk hb.size
theorem keepS {W0 W w1 : World} (h : Below W0.heap.size W0 W) (hb : Below W.heap.size W w1) : Below W0.heap.size W0 w1 := h.trans (hb.mono h.size)
theorem keepA {W0 W : World} (h : Below W0.heap.size W0 W) (o : Obj) : Below W0.heap.size W0 (W.alloc o) := h.alloc h.size o
theorem cellS {W0 W w1 : World} {b o : Nat} {v : Value} (h : Below W0.heap.size W0 W) (hb : Below W.heap.size W w1) (hlt : b < W0.heap.size) (hc : W.cell? ⟨b, o, none⟩ = some v) : w1.cell? ⟨b, o, none⟩ = some v := by
  rw [hb.cell (p := ⟨b, o, none⟩) (Nat.lt_of_lt_of_le hlt h.size)]; exact hc
theorem cellA {W0 W : World} {b o : Nat} {v : Value} (h : Below W0.heap.size W0 W) (x : Obj) (hlt : b < W0.heap.size) (hc : W.cell? ⟨b, o, none⟩ = some v) : (W.alloc x).cell? ⟨b, o, none⟩ = some v :=
  cellS h ((Below.refl _ _).alloc (Nat.le_refl _) x) hlt hc

theorem keepAd {W0 W : World} (h : Below W0.heap.size W0 W) (o : Obj) : Below W0.heap.size W0 (W.alloc o).drew := (keepA h o).drew
theorem cellAd {W0 W : World} {b o : Nat} {v : Value} (h : Below W0.heap.size W0 W) (x : Obj) (hlt : b < W0.heap.size) (hc : W.cell? ⟨b, o, none⟩ = some v) : (W.alloc x).drew.cell? ⟨b, o, none⟩ = some v := by
  rw [World.cell?_drew]; exact cellA h x hlt hc
theorem heap_setCells (b : Nat) : ∀ (vs : List Value) (o : Nat) (w : World) (i : Nat), i ≠ b → (w.setCells b o vs).heap[i]? = w.heap[i]? := by
  intro vs
  induction vs with
  | nil => intro o w i _; rfl
  | cons v vs ih => intro o w i hi; simp only [World.setCells]; rw [ih _ _ _ hi]; exact Below.heap_setCell _ _ _ _ hi
theorem below_setCells (b : Nat) : ∀ (vs : List Value) (o : Nat) (w : World), Below b w (w.setCells b o vs) := by
  intro vs
  induction vs with
  | nil => intro o w; exact Below.refl _ _
  | cons v vs ih => intro o w; simp only [World.setCells]; exact ((Below.refl b w).setCell (by simp) _).trans (ih _ _)
theorem keepR {W0 W : World} {k : Nat} (h : Below W0.heap.size W0 W) (hk : W0.heap.size ≤ k) (c : List Value) : Below W0.heap.size W0 (W.setCells k 0 c) :=
  h.trans ((below_setCells k c 0 W).mono hk)
theorem cellR {W0 W : World} {k b o : Nat} {v : Value} (hk : W0.heap.size ≤ k) (c : List Value) (hlt : b < W0.heap.size) (hc : W.cell? ⟨b, o, none⟩ = some v) : (W.setCells k 0 c).cell? ⟨b, o, none⟩ = some v := by
  rw [← hc]
  have h1 := heap_setCells k c 0 W b (by omega)
  unfold World.cell?
  simp only [h1]
end Go.Proofs.Ythlbmeemdhofpaa
