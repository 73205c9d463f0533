/- Several texts in one: LotQ. -/
import Derived.Test.YthanlgdbnhcilaaZPkg1
import Derived.Test.YthanlgdbnhcilaaZRef1
import Derived.Test.YthanlgdbnhcilaaShelf
import Derived.WalkKit
import Derived.ProofKit
import Derived.OpenShut
import Derived.Handy
import Derived.Outline
import Derived.Lib.Hide
import Derived.WalkSpells
import Derived.WalkLawsBesides
import Derived.Deep.RegionHeld3
import Derived.Deep.DeepCutAuto
import Derived.Lib.ConvBytes
import Derived.Lib.Strings
import Derived.OwnWalk
import Derived.Deep.WholeRow
import Derived.Test.YthanlgdbnhcilaaRows
import Derived.Laws.Rows
import Derived.Shelf.Spec.BitsCarry
import Derived.Shelf.Bits.Mul64
import Derived.Deep.QuietTactic
import Derived.BigQuiet
import Derived.Lib.SmallJoins
namespace Go.Proofs.Ythanlgdbnhcilaa
set_option linter.unusedVariables false
open Go.ChangeShapes Go.WideShapes Go.ChangeAt Go.RowKit
end Go.Proofs.Ythanlgdbnhcilaa
namespace Go.Proofs.Ythanlgdbnhcilaa
set_option linter.unusedVariables false
open Go.ChangeShapes Go.WideShapes Go.ChangeAt Go.RowKit
end Go.Proofs.Ythanlgdbnhcilaa
namespace Go.Proofs.Ythanlgdbnhcilaa
set_option linter.unusedVariables false
open Go.ChangeShapes Go.WideShapes Go.ChangeAt Go.RowKit
end Go.Proofs.Ythanlgdbnhcilaa
namespace Go.Proofs.Ythanlgdbnhcilaa
set_option linter.unusedVariables false
open Go.ChangeShapes Go.WideShapes Go.ChangeAt Go.RowKit
end Go.Proofs.Ythanlgdbnhcilaa
namespace Go.Proofs.Ythanlgdbnhcilaa
set_option linter.unusedVariables false
open Go.ChangeShapes Go.WideShapes Go.ChangeAt Go.RowKit
end Go.Proofs.Ythanlgdbnhcilaa
namespace Go.Proofs.Ythanlgdbnhcilaa
set_option linter.unusedVariables false
open Go.ChangeShapes Go.WideShapes Go.ChangeAt Go.RowKit
end Go.Proofs.Ythanlgdbnhcilaa
namespace Go.Proofs.Ythanlgdbnhcilaa
set_option linter.unusedVariables false
open Go.ChangeShapes Go.WideShapes Go.ChangeAt Go.RowKit
end Go.Proofs.Ythanlgdbnhcilaa
namespace Go.Proofs.Ythanlgdbnhcilaa
set_option linter.unusedVariables false
open Go.ChangeShapes Go.WideShapes Go.ChangeAt Go.RowKit
end Go.Proofs.Ythanlgdbnhcilaa
namespace Go.Proofs.Ythanlgdbnhcilaa
set_option linter.unusedVariables false
open Go.ChangeShapes Go.WideShapes Go.ChangeAt Go.RowKit
end Go.Proofs.Ythanlgdbnhcilaa
namespace Go.Proofs.Ythanlgdbnhcilaa
set_option linter.unusedVariables false
open Go.ChangeShapes Go.WideShapes Go.ChangeAt Go.RowKit
end Go.Proofs.Ythanlgdbnhcilaa
namespace Go.Proofs.Ythanlgdbnhcilaa
set_option linter.unusedVariables false
open Go.ChangeShapes Go.WideShapes Go.ChangeAt Go.RowKit
end Go.Proofs.Ythanlgdbnhcilaa
namespace Go.Proofs.Ythanlgdbnhcilaa
set_option linter.unusedVariables false
open Go.ChangeShapes Go.WideShapes Go.ChangeAt Go.RowKit
end Go.Proofs.Ythanlgdbnhcilaa
namespace Go.Proofs.Ythanlgdbnhcilaa
set_option linter.unusedVariables false
open Go.ChangeShapes Go.WideShapes Go.ChangeAt Go.RowKit
end Go.Proofs.Ythanlgdbnhcilaa
namespace Go.Proofs.Ythanlgdbnhcilaa
set_option linter.unusedVariables false
open Go.ChangeShapes Go.WideShapes Go.ChangeAt Go.RowKit
def sz (h l : Nat) : Int := if neg h then (num h l : Int) - 340282366920938463463374607431768211456 else (num h l : Int)
end Go.Proofs.Ythanlgdbnhcilaa
namespace Go.Proofs.Ythanlgdbnhcilaa
set_option linter.unusedVariables false
open Go.ChangeShapes Go.WideShapes Go.ChangeAt Go.RowKit
end Go.Proofs.Ythanlgdbnhcilaa
namespace Go.Proofs.Ythanlgdbnhcilaa
set_option linter.unusedVariables false
open Go.ChangeShapes Go.WideShapes Go.ChangeAt Go.RowKit
end Go.Proofs.Ythanlgdbnhcilaa
namespace Go.Proofs.Ythanlgdbnhcilaa
set_option linter.unusedVariables false
set_option linter.unusedSimpArgs false
open Go.ChangeShapes Go.WideShapes Go.ChangeAt Go.RowKit
end Go.Proofs.Ythanlgdbnhcilaa
namespace Go.Proofs.Ythanlgdbnhcilaa
set_option linter.unusedVariables false
set_option linter.unusedSimpArgs false
open Go.ChangeShapes Go.WideShapes Go.ChangeAt Go.RowKit
def fq (n c : Int) : Int := if 0 < c then n / c else (-n) / (-c)
def fr (n c : Int) : Int := n - c * fq n c
def sg (c : Int) (r : Nat) : Int := if c < 0 then -(r : Int) else (r : Int)
end Go.Proofs.Ythanlgdbnhcilaa
namespace Go.Proofs.Ythanlgdbnhcilaa
set_option linter.unusedVariables false
set_option linter.unusedSimpArgs false
open Go.ChangeShapes Go.WideShapes Go.ChangeAt Go.RowKit
theorem ediv_uniq {n d k r : Int} (hd : 0 < d) (h : n = d * k + r) (h0 : 0 ≤ r) (h1 : r < d) : n / d = k :=
  ((Int.ediv_emod_unique hd).2 ⟨by omega, h0, h1⟩).1
theorem neg_div0 {m d : Nat} (hd : 0 < d) (h : m % d = 0) : -(m : Int) / (d : Int) = -((m / d : Nat) : Int) := by
  have e := Nat.div_add_mod m d
  refine ediv_uniq (r := 0) (by omega) ?_ (by omega) (by omega)
  rw [Int.mul_neg]
  have : ((d * (m / d) : Nat) : Int) = (d : Int) * ((m / d : Nat) : Int) := Int.natCast_mul _ _
  omega
structure SG (n c : Int) (m d : Nat) (p z : Bool) : Prop where
  n1 : p = true → n = (m : Int)
  n0 : p = false → n = -(m : Int)
  c1 : z = true → c = -(d : Int)
  c0 : z = false → c = (d : Int)
  d : 0 < d
theorem SG.zero {n c : Int} {m d : Nat} {p z : Bool} (h : SG n c m d p z) (e : ((!p) == z) = false) (hr : m % d = 0) : fq n c = -((m / d : Nat) : Int) ∧ fr n c = sg c (m % d) := by
  have hd := h.d
  have e1 := Nat.div_add_mod m d
  have e2 : ((d * (m / d) : Nat) : Int) = (d : Int) * ((m / d : Nat) : Int) := Int.natCast_mul _ _
  have e3 := neg_div0 hd hr
  cases p <;> cases z
  · have hn := h.n0 rfl; have hc := h.c0 rfl
    have q : fq n c = -((m / d : Nat) : Int) := by unfold fq; rw [hn, hc, if_pos (by omega), e3]
    refine ⟨q, ?_⟩
    unfold fr sg
    rw [q, hn, hc, if_neg (by omega), Int.mul_neg]
    omega
  · cases e
  · cases e
  · have hn := h.n1 rfl; have hc := h.c1 rfl
    have q : fq n c = -((m / d : Nat) : Int) := by unfold fq; rw [hn, hc, if_neg (by omega), Int.neg_neg, e3]
    refine ⟨q, ?_⟩
    unfold fr sg
    rw [q, hn, hc, if_pos (by omega), Int.neg_mul_neg]
    omega
end Go.Proofs.Ythanlgdbnhcilaa
namespace Go.Proofs.Ythanlgdbnhcilaa
set_option linter.unusedVariables false
set_option linter.unusedSimpArgs false
open Go.ChangeShapes Go.WideShapes Go.ChangeAt Go.RowKit
end Go.Proofs.Ythanlgdbnhcilaa
