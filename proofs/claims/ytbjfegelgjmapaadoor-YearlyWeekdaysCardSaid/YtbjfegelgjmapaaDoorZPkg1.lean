/- Several texts in one: LotP. -/
import Derived.WalkKit
import Derived.Laws.Bits64b
import Derived.Laws.BitsAllLaws
import Derived.Lib.BitFns
import Derived.Deep.RegionHeld3
namespace Go.Proofs.YtbjfegelgjmapaaDoor
set_option linter.unusedVariables false
open Go.RowKit
@[irreducible] def hi (n : Nat) : Nat := n / 18446744073709551616 % 18446744073709551616
@[irreducible] def lo (n : Nat) : Nat := n % 18446744073709551616
def bv (f : Nat → Bool) : Array Value := Array.ofFn (n := 128) fun k => .bool (f k)
attribute [irreducible] bv
end Go.Proofs.YtbjfegelgjmapaaDoor
namespace Go.Proofs.YtbjfegelgjmapaaDoor
open Go.RowKit
structure KD (u Y y1 y0 n : Nat) : Prop where
  y : Y = y1 * 4294967296 + y0
  y0 : y0 < 4294967296
  y1 : 2147483648 ≤ y1 ∧ y1 < 4294967296
  u : u < Y
  n : n < 4294967296
@[irreducible] def kq (u Y n : Nat) : Nat := (u * 4294967296 + n) / Y
structure KI (u Y y1 n q r : Nat) : Prop where
  e : u = q * y1 + r
  lo : kq u Y n ≤ q
  hi : q ≤ 4294967297
theorem KD.pos {u Y y1 y0 n : Nat} (k : KD u Y y1 y0 n) : 0 < Y := by have := k.u; omega
theorem KI.times {u Y y1 y0 n q r : Nat} (k : KD u Y y1 y0 n) (i : KI u Y y1 n q r) : q * Y + r * 4294967296 = u * 4294967296 + q * y0 := by
  have h1 := i.e; have h2 := k.y
  rw [h2, h1, Nat.mul_add, Nat.add_mul, Nat.mul_assoc]; omega
theorem KI.done {u Y y1 y0 n q r : Nat} (k : KD u Y y1 y0 n) (i : KI u Y y1 n q r) (h : q * y0 ≤ 4294967296 * r + n) : q = kq u Y n := by
  refine Nat.le_antisymm ?_ i.lo
  unfold kq; rw [Nat.le_div_iff_mul_le k.pos]
  have := i.times k; omega
theorem KI.over {u Y y1 y0 n q r : Nat} (k : KD u Y y1 y0 n) (i : KI u Y y1 n q r) (hq : q ≤ 4294967296) (h : 4294967296 ≤ r) : q = kq u Y n := by
  refine i.done k ?_
  have h1 : q * y0 ≤ 4294967296 * 4294967295 := Nat.mul_le_mul hq (by have := k.y0; omega)
  omega
end Go.Proofs.YtbjfegelgjmapaaDoor
namespace Go.Proofs.YtbjfegelgjmapaaDoor
open Go Go.ChangeShapes
def shutQ (Q : Exit → Act → World → Prop) : Exit → Act → World → Prop := Q
theorem wp_shut {P : Program} {c : Code} {Q : Exit → Act → World → Prop} {a : Act} {w : World} (h : c.wp P (shutQ Q) a w) : c.wp P Q a w := h
theorem shut_ret {P : Program} {fn : Func} {R : Ending → World → Prop} {a : Act} {w : World} {v : Value} (hr : (results fn a.tmps).run P w = .ok v w) (hd : a.defers = []) (hR : R (.returned v) w) : shutQ (bodyPost P fn R) .ret a w := bodyPost_ret hr hd hR
end Go.Proofs.YtbjfegelgjmapaaDoor
namespace Go.Proofs.YtbjfegelgjmapaaDoor
open Go
set_option linter.unusedVariables false
variable {P : Program} {ops : Array Oper} {Q : Exit → Act → World → Prop} {md : Region.Mode} {S : World → Prop}
def planOK (md : Region.Mode) (ops : Array Oper) : Array Bool → List (Nat × Bool) → Bool
  | L, [] => (Region.ready md ops L).isEmpty
  | L, (i, true) :: r => Region.free md ops L i && (Region.ready md ops L).contains i && planOK md ops (L.setIfInBounds i true) r
  | L, (i, false) :: r => (Region.ready md ops L == [i]) && planOK md ops (L.setIfInBounds i true) r
def wpPlan (P : Program) (ops : Array Oper) (Q : Exit → Act → World → Prop) (S : World → Prop) : List (Nat × Bool) → Act → World → Prop
  | [], a, w => Q .normal a w
  | (i, true) :: r, a, w => ∃ o v, ops[i]? = some o ∧ YieldsIf P ops S o v a ∧ wpPlan P ops Q S r (a.put o.dst v) w
  | (i, false) :: r, a, w => wpOp P ops Q i (fun a' w' => S w' ∧ wpPlan P ops Q S r a' w') a w
theorem plan_any (hn : Region.noSelect ops = true) (hQ : ∀ (o : Oper) (v : Value) c a w, Q (.panic c) (a.put o.dst v) w → Q (.panic c) a w) :
    ∀ (plan : List (Nat × Bool)) (L : Array Bool) (a : Act) (w : World), planOK md ops L plan = true → S w → wpPlan P ops Q S plan a w → wpAnyH P md ops Q S plan.length L a w := by
  intro plan
  induction plan with
  | nil =>
    intro L a w hp hS h
    exact wpAnyH_done (List.isEmpty_iff.1 hp) h _
  | cons x r ih =>
    intro L a w hp hS h
    obtain ⟨i, b⟩ := x
    cases b
    · rw [planOK, Bool.and_eq_true] at hp
      refine wpAnyH_all (rs := [i]) (eq_of_beq hp.1) (by simp) ?_
      intro j hj
      rw [List.mem_singleton] at hj
      subst hj
      exact wpOp_mono (fun a' w' h' => ⟨h'.1, ih _ a' w' hp.2 h'.1 h'.2⟩) h
    · rw [planOK, Bool.and_eq_true, Bool.and_eq_true] at hp
      obtain ⟨o, v, ho, hy, h'⟩ := h
      exact wpAnyH_take ho hn hp.1.1 hp.1.2 (hQ o v) hy hS (ih _ _ _ hp.2 hS h')
theorem region_plan (plan : List (Nat × Bool)) {id : Nat} {a : Act} {w : World} (hm : P.follows .mixedOrders = true) (hn : Region.noSelect ops = true)
    (hp : planOK .any ops (Array.replicate ops.size false) plan = true) (hl : plan.length = ops.size) (hS : S w.drew)
    (h : wpPlan P ops (NoPanic Q) S plan a w.drew) : (Code.region id ops true).wp P Q a w :=
  wp_region_noPanic (wp_region_held_drew (S := S) hm hS fun _ => (by
    have x := plan_any (Q := NoPanic Q) hn (fun _ _ _ _ _ h => h) plan _ a w.drew hp hS h
    rw [hl] at x
    exact x))
theorem plan_yes {i : Nat} {r : List (Nat × Bool)} {a : Act} {w : World} {o : Oper} {v : Value} (ho : ops[i]? = some o) (hy : YieldsIf P ops S o v a)
    (h : wpPlan P ops Q S r (a.put o.dst v) w) : wpPlan P ops Q S ((i, true) :: r) a w := ⟨o, v, ho, hy, h⟩
theorem plan_call {i : Nat} {r : List (Nat × Bool)} {a : Act} {w : World} {o : Oper} (ho : ops[i]? = some o)
    (h : ∀ K' : Act → World → Prop, Shut (∀ a w, S w → wpPlan P ops Q S r a w → K' a w) → if Region.wanted o (yielded ops a.tmps) = true then Oper.wp P o a w K' Q else K' (a.put o.dst undef) w) :
    wpPlan P ops Q S ((i, false) :: r) a w :=
  wpOp_step ho (fun K' hK => h K' (fun a w hS hW => hK a w ⟨hS, hW⟩))
theorem plan_calls {i : Nat} {r : List (Nat × Bool)} {a : Act} {w : World} {o : Oper} (ho : ops[i]? = some o) (hw : Region.wanted o (yielded ops a.tmps) = true)
    (h : ∀ K' : Act → World → Prop, Shut (∀ a w, S w → wpPlan P ops Q S r a w → K' a w) → Oper.wp P o a w K' Q) :
    wpPlan P ops Q S ((i, false) :: r) a w :=
  plan_call ho (fun K hK => by rw [if_pos hw]; exact h K hK)
theorem plan_done {a : Act} {w : World} (h : Q .normal a w) : wpPlan P ops Q S [] a w := h
end Go.Proofs.YtbjfegelgjmapaaDoor
