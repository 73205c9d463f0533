/- Several texts in one: RefA, RefD, RefP, RefF. -/
import Derived.Test.YtafecnlaodgmkaaGreatDoorY2Pkg1
import Derived.Test.YtafecnlaodgmkaaGreatDoorRows
import Derived.WalkKit
import Derived.ProofKit
import Derived.OpenShut
import Derived.Handy
import Derived.Outline
import Derived.Lib.Hide
import Derived.Laws.Rows
import Derived.Deep.WholeRow
import Derived.Deep.RegionHeld3
import Derived.Deep.DeepCutAuto
namespace Go.Proofs.YtafecnlaodgmkaaGreatDoor
set_option linter.unusedVariables false
open Go.ChangeShapes Go.WideShapes Go.ChangeAt Go.RowKit
theorem bcell {W w1 : World} (hb : Below W.heap.size W w1) : (∀ b o, b < W.heap.size → w1.cell? ⟨b, o, none⟩ = W.cell? ⟨b, o, none⟩) ∧ (∀ b o, b < W.heap.size → w1.frozen? ⟨b, o, none⟩ = W.frozen? ⟨b, o, none⟩) :=
  ⟨fun b o h => hb.cell (p := ⟨b, o, none⟩) h, fun b o h => hb.frozen (p := ⟨b, o, none⟩) h⟩
end Go.Proofs.YtafecnlaodgmkaaGreatDoor
namespace Go.Proofs.YtafecnlaodgmkaaGreatDoor
set_option linter.unusedVariables false
open Go.ChangeShapes Go.WideShapes Go.ChangeAt Go.RowKit
def big (n : Nat) : Bool := decide (340282366920938463463374607431768211456 ≤ n)
theorem lt_below {V w1 : World} (hb : Below V.heap.size V w1) : ∀ k, k < V.heap.size → k < w1.heap.size := fun k hk => Nat.lt_of_lt_of_le hk hb.size
theorem keepS {W0 W w1 : World} (h : Below W0.heap.size W0 W) (hb : Below W.heap.size W w1) : Below W0.heap.size W0 w1 := h.trans (hb.mono h.size)
theorem keepA {W0 W : World} (h : Below W0.heap.size W0 W) (o : Obj) : Below W0.heap.size W0 (W.alloc o) := h.alloc h.size o
theorem cellS {W0 W w1 : World} {b o : Nat} {v : Value} (h : Below W0.heap.size W0 W) (hb : Below W.heap.size W w1) (hlt : b < W0.heap.size) (hc : W.cell? ⟨b, o, none⟩ = some v) : w1.cell? ⟨b, o, none⟩ = some v := by
  rw [hb.cell (p := ⟨b, o, none⟩) (Nat.lt_of_lt_of_le hlt h.size)]; exact hc
theorem cellA {W0 W : World} {b o : Nat} {v : Value} (h : Below W0.heap.size W0 W) (x : Obj) (hlt : b < W0.heap.size) (hc : W.cell? ⟨b, o, none⟩ = some v) : (W.alloc x).cell? ⟨b, o, none⟩ = some v :=
  cellS h ((Below.refl _ _).alloc (Nat.le_refl _) x) hlt hc
theorem keepAd {W0 W : World} (h : Below W0.heap.size W0 W) (o : Obj) : Below W0.heap.size W0 (W.alloc o).drew := (keepA h o).drew
theorem cellAd {W0 W : World} {b o : Nat} {v : Value} (h : Below W0.heap.size W0 W) (x : Obj) (hlt : b < W0.heap.size) (hc : W.cell? ⟨b, o, none⟩ = some v) : (W.alloc x).drew.cell? ⟨b, o, none⟩ = some v := by
  rw [World.cell?_drew]; exact cellA h x hlt hc
end Go.Proofs.YtafecnlaodgmkaaGreatDoor
namespace Go.Proofs.YtafecnlaodgmkaaGreatDoor
set_option linter.unusedVariables false
open Go.ChangeShapes Go.WideShapes Go.ChangeAt Go.RowKit
theorem lt_of_heap {w : World} {k : Nat} {o : Obj} (h : w.heap[k]? = some o) : k < w.heap.size := by
  rcases Nat.lt_or_ge k w.heap.size with h1 | h1
  · exact h1
  · rw [Array.getElem?_eq_none h1] at h; cases h
end Go.Proofs.YtafecnlaodgmkaaGreatDoor
namespace Go.Proofs.YtafecnlaodgmkaaGreatDoor
set_option linter.unusedVariables false
open Go.ChangeShapes Go.WideShapes Go.ChangeAt Go.RowKit
def neg (h : Nat) : Bool := decide (9223372036854775808 ≤ h)
end Go.Proofs.YtafecnlaodgmkaaGreatDoor
