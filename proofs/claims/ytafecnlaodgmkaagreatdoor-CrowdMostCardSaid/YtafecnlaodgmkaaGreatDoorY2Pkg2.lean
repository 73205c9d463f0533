/- Several texts in one: LotQ. -/
import Derived.Test.YtafecnlaodgmkaaGreatDoorY2Sm
import Derived.Test.YtafecnlaodgmkaaGreatDoorY2Pkg1
import Derived.Test.YtafecnlaodgmkaaGreatDoorY2Ref1
import Derived.Test.YtafecnlaodgmkaaGreatDoorShelf
import Derived.WalkKit
import Derived.ProofKit
import Derived.OpenShut
import Derived.Handy
import Derived.Outline
import Derived.Lib.Hide
import Derived.WalkSpells
import Derived.WalkLawsBesides
import Derived.Deep.RegionHeld3
import Derived.Deep.DeepCutAuto
import Derived.Lib.ConvBytes
import Derived.Lib.Strings
import Derived.OwnWalk
import Derived.Deep.WholeRow
import Derived.Shelf.Spec.BitsCarry
import Derived.Shelf.Bits.Mul64
import Derived.Deep.QuietTactic
import Derived.BigQuiet
import Derived.Lib.SmallJoins
namespace Go.Proofs.YtafecnlaodgmkaaGreatDoor
set_option linter.unusedVariables false
open Go.ChangeShapes Go.WideShapes Go.ChangeAt Go.RowKit
theorem row_set {w : World} {b : Nat} {x y : Value} {t : TypeId} (h : w.heap[b]? = some (.cells #[x, y] t (0, 0))) (p q : Value) :
    ((w.setCell ⟨b, 0, none⟩ p).setCell ⟨b, 1, none⟩ q).heap[b]? = some (.cells #[p, q] t (0, 0)) := by
  simp [World.setCell, Array.getElem?_modify, h]
theorem row_alloc {w : World} {b : Nat} {x : Obj} (h : w.heap[b]? = some x) (o : Obj) : (w.alloc o).heap[b]? = some x := by
  rw [heap_alloc_old _ _ (lt_of_heap h)]; exact h
end Go.Proofs.YtafecnlaodgmkaaGreatDoor
namespace Go.Proofs.YtafecnlaodgmkaaGreatDoor
set_option linter.unusedVariables false
open Go.ChangeShapes Go.WideShapes Go.ChangeAt Go.RowKit
end Go.Proofs.YtafecnlaodgmkaaGreatDoor
namespace Go.Proofs.YtafecnlaodgmkaaGreatDoor
set_option linter.unusedVariables false
open Go.ChangeShapes Go.WideShapes Go.ChangeAt Go.RowKit
end Go.Proofs.YtafecnlaodgmkaaGreatDoor
namespace Go.Proofs.YtafecnlaodgmkaaGreatDoor
set_option linter.unusedVariables false
open Go.ChangeShapes Go.WideShapes Go.ChangeAt Go.RowKit
theorem row_call {V w1 : World} {k : Nat} {o : Obj} (hb : Below V.heap.size V w1) (h : V.heap[k]? = some o) : w1.heap[k]? = some o := by rw [hb.block _ (lt_of_heap h)]; exact h
theorem row_new {W w1 : World} {o : Obj} (hb : Below (W.alloc o).heap.size (W.alloc o) w1) : w1.heap[W.heap.size]? = some o := row_call hb (heap_alloc_new W o)
theorem row_newd {W w1 : World} {o : Obj} (hb : Below (W.alloc o).drew.heap.size (W.alloc o).drew w1) : w1.heap[W.heap.size]? = some o := row_call hb (heap_alloc_new W o)
theorem row_cellA {w : World} {k : Nat} {cs : Array Value} {T : TypeId} (h : w.heap[k]? = some (.cells cs T (0, 0))) : ∀ i, w.cell? ⟨k, i, none⟩ = cs[i]? := fun i => cry h
theorem row_frozA {w : World} {k : Nat} {cs : Array Value} {T : TypeId} (h : w.heap[k]? = some (.cells cs T (0, 0))) : ∀ i, w.frozen? ⟨k, i, none⟩ = false := fun i => by simp [World.frozen?, h]
theorem keep2 {W0 W : World} {k : Nat} (h : Below W0.heap.size W0 W) (hk : W0.heap.size ≤ k) (a b : Value) : Below W0.heap.size W0 ((W.setCell ⟨k, 0, none⟩ a).setCell ⟨k, 1, none⟩ b) :=
  (h.setCell (by exact hk) _).setCell (by exact hk) _
theorem cell2 {W0 W : World} {k b o : Nat} {v : Value} (hk : W0.heap.size ≤ k) (p q : Value) (hlt : b < W0.heap.size) (hc : W.cell? ⟨b, o, none⟩ = some v) : ((W.setCell ⟨k, 0, none⟩ p).setCell ⟨k, 1, none⟩ q).cell? ⟨b, o, none⟩ = some v := by
  rw [← hc]
  have h1 : ((W.setCell ⟨k, 0, none⟩ p).setCell ⟨k, 1, none⟩ q).heap[b]? = W.heap[b]? := by
    rw [Below.heap_setCell _ _ _ _ (by show b ≠ k; omega), Below.heap_setCell _ _ _ _ (by show b ≠ k; omega)]
  unfold World.cell?
  simp only [h1]
theorem keepZ {W0 W : World} (h : ∃ o, Below W0.heap.size W0 (W.alloc o)) (hg : W0.heap.size ≤ W.heap.size) (o' : Obj) : Below W0.heap.size W0 (W.alloc o') :=
  let ⟨_, h⟩ := h
  ⟨h.os, h.tape, h.output, by simp; omega, fun k hk => by
    have := h.block k hk
    rw [heap_alloc_old _ _ (by omega)] at this
    rw [heap_alloc_old _ _ (by omega)]; exact this⟩
theorem cellZ {W0 W : World} {b j : Nat} {v : Value} (hg : W0.heap.size ≤ W.heap.size) (o' : Obj) (hlt : b < W0.heap.size) (hc : ∃ o, (W.alloc o).cell? ⟨b, j, none⟩ = some v) : (W.alloc o').cell? ⟨b, j, none⟩ = some v := by
  obtain ⟨o, hc⟩ := hc
  have h1 : b < W.heap.size := by omega
  rw [World.cell?_alloc_past _ _ _ h1] at hc
  rw [World.cell?_alloc_past _ _ _ h1]; exact hc
end Go.Proofs.YtafecnlaodgmkaaGreatDoor
namespace Go.Proofs.YtafecnlaodgmkaaGreatDoor
set_option linter.unusedVariables false
open Go.ChangeShapes Go.WideShapes Go.ChangeAt Go.RowKit
end Go.Proofs.YtafecnlaodgmkaaGreatDoor
namespace Go.Proofs.YtafecnlaodgmkaaGreatDoor
set_option linter.unusedVariables false
open Go.ChangeShapes Go.WideShapes Go.ChangeAt Go.RowKit
end Go.Proofs.YtafecnlaodgmkaaGreatDoor
namespace Go.Proofs.YtafecnlaodgmkaaGreatDoor
set_option linter.unusedVariables false
open Go.ChangeShapes Go.WideShapes Go.ChangeAt Go.RowKit
end Go.Proofs.YtafecnlaodgmkaaGreatDoor
namespace Go.Proofs.YtafecnlaodgmkaaGreatDoor
set_option linter.unusedVariables false
open Go.ChangeShapes Go.WideShapes Go.ChangeAt Go.RowKit
end Go.Proofs.YtafecnlaodgmkaaGreatDoor
namespace Go.Proofs.YtafecnlaodgmkaaGreatDoor
set_option linter.unusedVariables false
open Go.ChangeShapes Go.WideShapes Go.ChangeAt Go.RowKit
end Go.Proofs.YtafecnlaodgmkaaGreatDoor
namespace Go.Proofs.YtafecnlaodgmkaaGreatDoor
set_option linter.unusedVariables false
open Go.ChangeShapes Go.WideShapes Go.ChangeAt Go.RowKit
end Go.Proofs.YtafecnlaodgmkaaGreatDoor
namespace Go.Proofs.YtafecnlaodgmkaaGreatDoor
set_option linter.unusedVariables false
open Go.ChangeShapes Go.WideShapes Go.ChangeAt Go.RowKit
theorem int_bd {a : Int} (w : (Lit.int .i64 a).wf = true) : -9223372036854775808 ≤ a ∧ a < 9223372036854775808 := by
  have h := bounds_i64 w
  omega
end Go.Proofs.YtafecnlaodgmkaaGreatDoor
namespace Go.Proofs.YtafecnlaodgmkaaGreatDoor
set_option linter.unusedVariables false
open Go.ChangeShapes Go.WideShapes Go.ChangeAt Go.RowKit
end Go.Proofs.YtafecnlaodgmkaaGreatDoor
namespace Go.Proofs.YtafecnlaodgmkaaGreatDoor
set_option linter.unusedVariables false
open Go.ChangeShapes Go.WideShapes Go.ChangeAt Go.RowKit
theorem row_at {w : World} {k k' : Nat} {o : Option Obj} (e : k = k') (h : w.heap[k]? = o) : w.heap[k']? = o := e ▸ h
theorem row_by {w w' : World} {k : Nat} {o : Option Obj} (e : w' = w) (h : w.heap[k]? = o) : w'.heap[k]? = o := e ▸ h
theorem below_by {n : Nat} {w v v' : World} (e : v' = v) (h : Below n w v) : Below n w v' := e ▸ h
end Go.Proofs.YtafecnlaodgmkaaGreatDoor
namespace Go.Proofs.YtafecnlaodgmkaaGreatDoor
set_option linter.unusedVariables false
open Go.ChangeShapes Go.WideShapes Go.ChangeAt Go.RowKit
def zw (z : Int) : Nat := (z % 340282366920938463463374607431768211456).toNat
@[irreducible] def zl (z : Int) : Nat := lo (zw z)
def sz (h l : Nat) : Int := if neg h then (num h l : Int) - 340282366920938463463374607431768211456 else (num h l : Int)
end Go.Proofs.YtafecnlaodgmkaaGreatDoor
namespace Go.Proofs.YtafecnlaodgmkaaGreatDoor
set_option linter.unusedVariables false
open Go.ChangeShapes Go.WideShapes Go.ChangeAt Go.RowKit
@[irreducible] def cb (x y : Int) : Bool := big (zw x + zw y)
end Go.Proofs.YtafecnlaodgmkaaGreatDoor
namespace Go.Proofs.YtafecnlaodgmkaaGreatDoor
set_option linter.unusedVariables false
open Go.ChangeShapes Go.WideShapes Go.ChangeAt Go.RowKit
end Go.Proofs.YtafecnlaodgmkaaGreatDoor
namespace Go.Proofs.YtafecnlaodgmkaaGreatDoor
set_option linter.unusedVariables false
set_option linter.unusedSimpArgs false
open Go.ChangeShapes Go.WideShapes Go.ChangeAt Go.RowKit
end Go.Proofs.YtafecnlaodgmkaaGreatDoor
namespace Go.Proofs.YtafecnlaodgmkaaGreatDoor
set_option linter.unusedVariables false
set_option linter.unusedSimpArgs false
open Go.ChangeShapes Go.WideShapes Go.ChangeAt Go.RowKit
def fq (n c : Int) : Int := if 0 < c then n / c else (-n) / (-c)
def fr (n c : Int) : Int := n - c * fq n c
def sg (c : Int) (r : Nat) : Int := if c < 0 then -(r : Int) else (r : Int)
end Go.Proofs.YtafecnlaodgmkaaGreatDoor
namespace Go.Proofs.YtafecnlaodgmkaaGreatDoor
set_option linter.unusedVariables false
set_option linter.unusedSimpArgs false
open Go.ChangeShapes Go.WideShapes Go.ChangeAt Go.RowKit
theorem ediv_uniq {n d k r : Int} (hd : 0 < d) (h : n = d * k + r) (h0 : 0 ≤ r) (h1 : r < d) : n / d = k :=
  ((Int.ediv_emod_unique hd).2 ⟨by omega, h0, h1⟩).1
theorem neg_div0 {m d : Nat} (hd : 0 < d) (h : m % d = 0) : -(m : Int) / (d : Int) = -((m / d : Nat) : Int) := by
  have e := Nat.div_add_mod m d
  refine ediv_uniq (r := 0) (by omega) ?_ (by omega) (by omega)
  rw [Int.mul_neg]
  have : ((d * (m / d) : Nat) : Int) = (d : Int) * ((m / d : Nat) : Int) := Int.natCast_mul _ _
  omega
structure SG (n c : Int) (m d : Nat) (p z : Bool) : Prop where
  n1 : p = true → n = (m : Int)
  n0 : p = false → n = -(m : Int)
  c1 : z = true → c = -(d : Int)
  c0 : z = false → c = (d : Int)
  d : 0 < d
theorem SG.zero {n c : Int} {m d : Nat} {p z : Bool} (h : SG n c m d p z) (e : ((!p) == z) = false) (hr : m % d = 0) : fq n c = -((m / d : Nat) : Int) ∧ fr n c = sg c (m % d) := by
  have hd := h.d
  have e1 := Nat.div_add_mod m d
  have e2 : ((d * (m / d) : Nat) : Int) = (d : Int) * ((m / d : Nat) : Int) := Int.natCast_mul _ _
  have e3 := neg_div0 hd hr
  cases p <;> cases z
  · have hn := h.n0 rfl; have hc := h.c0 rfl
    have q : fq n c = -((m / d : Nat) : Int) := by unfold fq; rw [hn, hc, if_pos (by omega), e3]
    refine ⟨q, ?_⟩
    unfold fr sg
    rw [q, hn, hc, if_neg (by omega), Int.mul_neg]
    omega
  · cases e
  · cases e
  · have hn := h.n1 rfl; have hc := h.c1 rfl
    have q : fq n c = -((m / d : Nat) : Int) := by unfold fq; rw [hn, hc, if_neg (by omega), Int.neg_neg, e3]
    refine ⟨q, ?_⟩
    unfold fr sg
    rw [q, hn, hc, if_pos (by omega), Int.neg_mul_neg]
    omega
end Go.Proofs.YtafecnlaodgmkaaGreatDoor
namespace Go.Proofs.YtafecnlaodgmkaaGreatDoor
set_option linter.unusedVariables false
set_option linter.unusedSimpArgs false
open Go.ChangeShapes Go.WideShapes Go.ChangeAt Go.RowKit
end Go.Proofs.YtafecnlaodgmkaaGreatDoor
