/- Several texts in one: LotP. -/
import Derived.WalkKit
import Derived.Laws.Bits64b
import Derived.Laws.BitsAllLaws
import Derived.Lib.BitFns
import Derived.Deep.RegionHeld3
namespace Go.Proofs.YtafecnlaodgmkaaGreatDoor
set_option linter.unusedVariables false
open Go.RowKit
def U (n : Nat) : Prop := n < 18446744073709551616
@[irreducible] def num (h l : Nat) : Nat := h * 18446744073709551616 + l
@[irreducible] def hi (n : Nat) : Nat := n / 18446744073709551616 % 18446744073709551616
@[irreducible] def lo (n : Nat) : Nat := n % 18446744073709551616
theorem U.lt {n : Nat} (h : U n) : n < 18446744073709551616 := h
def bv (f : Nat → Bool) : Array Value := Array.ofFn (n := 128) fun k => .bool (f k)
attribute [irreducible] bv
def val (f : Nat → Bool) : Nat → Nat
  | 0 => 0
  | n + 1 => val f n + (if f n then 2 ^ n else 0)
end Go.Proofs.YtafecnlaodgmkaaGreatDoor
namespace Go.Proofs.YtafecnlaodgmkaaGreatDoor
open Go.RowKit
structure KD (u Y y1 y0 n : Nat) : Prop where
  y : Y = y1 * 4294967296 + y0
  y0 : y0 < 4294967296
  y1 : 2147483648 ≤ y1 ∧ y1 < 4294967296
  u : u < Y
  n : n < 4294967296
@[irreducible] def kq (u Y n : Nat) : Nat := (u * 4294967296 + n) / Y
@[irreducible] def kr (u Y n : Nat) : Nat := (u * 4294967296 + n) % Y
structure KI (u Y y1 n q r : Nat) : Prop where
  e : u = q * y1 + r
  lo : kq u Y n ≤ q
  hi : q ≤ 4294967297
theorem KD.pos {u Y y1 y0 n : Nat} (k : KD u Y y1 y0 n) : 0 < Y := by have := k.u; omega
theorem KD.lt {u Y y1 y0 n : Nat} (k : KD u Y y1 y0 n) : Y < 18446744073709551616 := by have := k.y; have := k.y0; have := k.y1; omega
theorem kqr (u Y n : Nat) : u * 4294967296 + n = kq u Y n * Y + kr u Y n := by unfold kq kr; have h := Nat.div_add_mod (u * 4294967296 + n) Y; rw [Nat.mul_comm Y] at h; exact h.symm
theorem KI.times {u Y y1 y0 n q r : Nat} (k : KD u Y y1 y0 n) (i : KI u Y y1 n q r) : q * Y + r * 4294967296 = u * 4294967296 + q * y0 := by
  have h1 := i.e; have h2 := k.y
  rw [h2, h1, Nat.mul_add, Nat.add_mul, Nat.mul_assoc]; omega
theorem KI.done {u Y y1 y0 n q r : Nat} (k : KD u Y y1 y0 n) (i : KI u Y y1 n q r) (h : q * y0 ≤ 4294967296 * r + n) : q = kq u Y n := by
  refine Nat.le_antisymm ?_ i.lo
  unfold kq; rw [Nat.le_div_iff_mul_le k.pos]
  have := i.times k; omega
theorem KI.over {u Y y1 y0 n q r : Nat} (k : KD u Y y1 y0 n) (i : KI u Y y1 n q r) (hq : q ≤ 4294967296) (h : 4294967296 ≤ r) : q = kq u Y n := by
  refine i.done k ?_
  have h1 : q * y0 ≤ 4294967296 * 4294967295 := Nat.mul_le_mul hq (by have := k.y0; omega)
  omega
theorem KI.start {u Y y1 y0 n : Nat} (k : KD u Y y1 y0 n) : KI u Y y1 n (u / y1) (u % y1) ∧ u % y1 < 4294967296 := by
  have p : 0 < y1 := by have := k.y1; omega
  refine ⟨⟨?_, ?_, ?_⟩, ?_⟩
  · rw [Nat.mul_comm]; exact (Nat.div_add_mod _ _).symm
  · rw [Nat.le_div_iff_mul_le p]
    have h1 := kqr u Y n
    have h2 := k.n
    have h3 : kq u Y n * Y = kq u Y n * y1 * 4294967296 + kq u Y n * y0 := by rw [k.y, Nat.mul_add, Nat.mul_assoc]
    generalize kq u Y n * y1 = A at *
    generalize kq u Y n * y0 = C at *
    omega
  · have h1 := k.u; have h2 := k.y; have h3 := k.y0; have h4 := k.y1
    have : u / y1 < 4294967298 := by
      rw [Nat.div_lt_iff_lt_mul p]; omega
    omega
  · have := Nat.mod_lt u p; have := k.y1; omega
structure ND (y s Y : Nat) : Prop where
  sle : s ≤ 63
  eY : Y = y * 2 ^ s
  lo : 9223372036854775808 ≤ Y
  hi : Y < 18446744073709551616
theorem bitLenAux_spec (f : Nat) : ∀ x, x < 2 ^ f → x < 2 ^ Lib.bitLenAux f x ∧ (x ≠ 0 → 1 ≤ Lib.bitLenAux f x ∧ 2 ^ (Lib.bitLenAux f x - 1) ≤ x) ∧ Lib.bitLenAux f x ≤ f := by
  induction f with
  | zero => intro x hx; rw [Nat.pow_zero] at hx; obtain rfl : x = 0 := by omega
            simp [Lib.bitLenAux]
  | succ f ih =>
    intro x hx
    unfold Lib.bitLenAux
    by_cases h : x = 0
    · subst h; simp
    · rw [if_neg h]
      obtain ⟨i1, i2, i3⟩ := ih (x / 2) (by rw [Nat.pow_succ] at hx; omega)
      refine ⟨?_, fun _ => ⟨by omega, ?_⟩, by omega⟩
      · rw [Nat.add_comm, Nat.pow_succ]; omega
      · by_cases h2 : x / 2 = 0
        · rw [h2]
          have : Lib.bitLenAux f 0 = 0 := by cases f <;> simp [Lib.bitLenAux]
          rw [this]; simp; omega
        · obtain ⟨j1, j2⟩ := i2 h2
          rw [show 1 + Lib.bitLenAux f (x / 2) - 1 = (Lib.bitLenAux f (x / 2) - 1) + 1 by omega, Nat.pow_succ]; omega
theorem ND.of (y : Nat) (hy : 0 < y) (hu : U y) : 1 ≤ Lib.bitLen y ∧ Lib.bitLen y ≤ 64 ∧ ND y (64 - Lib.bitLen y) (y * 2 ^ (64 - Lib.bitLen y)) := by
  obtain ⟨a, b, h2⟩ := bitLenAux_spec 64 y hu
  obtain ⟨h1, b⟩ := b (by omega)
  change y < 2 ^ Lib.bitLen y at a
  change 1 ≤ Lib.bitLen y at h1
  change 2 ^ (Lib.bitLen y - 1) ≤ y at b
  change Lib.bitLen y ≤ 64 at h2
  refine ⟨h1, h2, by omega, rfl, ?_, ?_⟩
  · have : 2 ^ (Lib.bitLen y - 1) * 2 ^ (64 - Lib.bitLen y) = 2 ^ 63 := by rw [← Nat.pow_add]; congr 1; omega
    have := Nat.mul_le_mul_right (2 ^ (64 - Lib.bitLen y)) b
    omega
  · have : 2 ^ Lib.bitLen y * 2 ^ (64 - Lib.bitLen y) = 2 ^ 64 := by rw [← Nat.pow_add]; congr 1; omega
    have := Nat.mul_lt_mul_of_pos_right a (Nat.two_pow_pos (64 - Lib.bitLen y))
    omega
theorem ND.num {y s Y : Nat} (d : ND y s Y) {h l : Nat} (hl : U l) (hh : h < y) :
    h * 2 ^ s < 18446744073709551616 ∧ (h * 2 ^ s) ||| (l / 2 ^ (64 - s)) = h * 2 ^ s + l / 2 ^ (64 - s) ∧ h * 2 ^ s + l / 2 ^ (64 - s) < Y ∧
    num h l * 2 ^ s = (h * 2 ^ s + l / 2 ^ (64 - s)) * 18446744073709551616 + (l * 2 ^ s) % 18446744073709551616 := by
  have p : 0 < 2 ^ s := Nat.two_pow_pos s
  have e64 : 2 ^ s * 2 ^ (64 - s) = 18446744073709551616 := by rw [← Nat.pow_add, show s + (64 - s) = 64 by have := d.sle; omega]
  have h1 : (h + 1) * 2 ^ s ≤ Y := by rw [d.eY]; exact Nat.mul_le_mul_right _ hh
  have h2 : l / 2 ^ (64 - s) < 2 ^ s := by
    rw [Nat.div_lt_iff_lt_mul (Nat.two_pow_pos _), e64]; exact hl
  have h3 := d.hi
  rw [Nat.add_mul, Nat.one_mul] at h1
  refine ⟨by omega, ?_, by omega, ?_⟩
  · have := Nat.two_pow_add_eq_or_of_lt h2 h
    rw [Nat.mul_comm h]; exact this.symm
  · have h4 : l * 2 ^ s / 18446744073709551616 = l / 2 ^ (64 - s) := by
      rw [← e64, Nat.mul_comm l, Nat.mul_div_mul_left _ _ p]
    have h5 := Nat.div_add_mod (l * 2 ^ s) 18446744073709551616
    rw [h4] at h5
    unfold Go.Proofs.YtafecnlaodgmkaaGreatDoor.num
    rw [Nat.add_mul (h * 18446744073709551616), Nat.mul_right_comm h]
    generalize h * 2 ^ s = a at *
    generalize l * 2 ^ s = b at *
    generalize l / 2 ^ (64 - s) = c at *
    omega
end Go.Proofs.YtafecnlaodgmkaaGreatDoor
namespace Go.Proofs.YtafecnlaodgmkaaGreatDoor
open Go Go.ChangeShapes
def shutQ (Q : Exit → Act → World → Prop) : Exit → Act → World → Prop := Q
theorem wp_shut {P : Program} {c : Code} {Q : Exit → Act → World → Prop} {a : Act} {w : World} (h : c.wp P (shutQ Q) a w) : c.wp P Q a w := h
theorem shut_ret {P : Program} {fn : Func} {R : Ending → World → Prop} {a : Act} {w : World} {v : Value} (hr : (results fn a.tmps).run P w = .ok v w) (hd : a.defers = []) (hR : R (.returned v) w) : shutQ (bodyPost P fn R) .ret a w := bodyPost_ret hr hd hR
end Go.Proofs.YtafecnlaodgmkaaGreatDoor
namespace Go.Proofs.YtafecnlaodgmkaaGreatDoor
open Go
set_option linter.unusedVariables false
variable {P : Program} {ops : Array Oper} {Q : Exit → Act → World → Prop} {md : Region.Mode} {S : World → Prop}
def planOK (md : Region.Mode) (ops : Array Oper) : Array Bool → List (Nat × Bool) → Bool
  | L, [] => (Region.ready md ops L).isEmpty
  | L, (i, true) :: r => Region.free md ops L i && (Region.ready md ops L).contains i && planOK md ops (L.setIfInBounds i true) r
  | L, (i, false) :: r => (Region.ready md ops L == [i]) && planOK md ops (L.setIfInBounds i true) r
def wpPlan (P : Program) (ops : Array Oper) (Q : Exit → Act → World → Prop) (S : World → Prop) : List (Nat × Bool) → Act → World → Prop
  | [], a, w => Q .normal a w
  | (i, true) :: r, a, w => ∃ o v, ops[i]? = some o ∧ YieldsIf P ops S o v a ∧ wpPlan P ops Q S r (a.put o.dst v) w
  | (i, false) :: r, a, w => wpOp P ops Q i (fun a' w' => S w' ∧ wpPlan P ops Q S r a' w') a w
theorem plan_any (hn : Region.noSelect ops = true) (hQ : ∀ (o : Oper) (v : Value) c a w, Q (.panic c) (a.put o.dst v) w → Q (.panic c) a w) :
    ∀ (plan : List (Nat × Bool)) (L : Array Bool) (a : Act) (w : World), planOK md ops L plan = true → S w → wpPlan P ops Q S plan a w → wpAnyH P md ops Q S plan.length L a w := by
  intro plan
  induction plan with
  | nil =>
    intro L a w hp hS h
    exact wpAnyH_done (List.isEmpty_iff.1 hp) h _
  | cons x r ih =>
    intro L a w hp hS h
    obtain ⟨i, b⟩ := x
    cases b
    · rw [planOK, Bool.and_eq_true] at hp
      refine wpAnyH_all (rs := [i]) (eq_of_beq hp.1) (by simp) ?_
      intro j hj
      rw [List.mem_singleton] at hj
      subst hj
      exact wpOp_mono (fun a' w' h' => ⟨h'.1, ih _ a' w' hp.2 h'.1 h'.2⟩) h
    · rw [planOK, Bool.and_eq_true, Bool.and_eq_true] at hp
      obtain ⟨o, v, ho, hy, h'⟩ := h
      exact wpAnyH_take ho hn hp.1.1 hp.1.2 (hQ o v) hy hS (ih _ _ _ hp.2 hS h')
theorem region_plan (plan : List (Nat × Bool)) {id : Nat} {a : Act} {w : World} (hm : P.follows .mixedOrders = true) (hn : Region.noSelect ops = true)
    (hp : planOK .any ops (Array.replicate ops.size false) plan = true) (hl : plan.length = ops.size) (hS : S w.drew)
    (h : wpPlan P ops (NoPanic Q) S plan a w.drew) : (Code.region id ops true).wp P Q a w :=
  wp_region_noPanic (wp_region_held_drew (S := S) hm hS fun _ => (by
    have x := plan_any (Q := NoPanic Q) hn (fun _ _ _ _ _ h => h) plan _ a w.drew hp hS h
    rw [hl] at x
    exact x))
theorem plan_yes {i : Nat} {r : List (Nat × Bool)} {a : Act} {w : World} {o : Oper} {v : Value} (ho : ops[i]? = some o) (hy : YieldsIf P ops S o v a)
    (h : wpPlan P ops Q S r (a.put o.dst v) w) : wpPlan P ops Q S ((i, true) :: r) a w := ⟨o, v, ho, hy, h⟩
theorem plan_call {i : Nat} {r : List (Nat × Bool)} {a : Act} {w : World} {o : Oper} (ho : ops[i]? = some o)
    (h : ∀ K' : Act → World → Prop, Shut (∀ a w, S w → wpPlan P ops Q S r a w → K' a w) → if Region.wanted o (yielded ops a.tmps) = true then Oper.wp P o a w K' Q else K' (a.put o.dst undef) w) :
    wpPlan P ops Q S ((i, false) :: r) a w :=
  wpOp_step ho (fun K' hK => h K' (fun a w hS hW => hK a w ⟨hS, hW⟩))
theorem plan_calls {i : Nat} {r : List (Nat × Bool)} {a : Act} {w : World} {o : Oper} (ho : ops[i]? = some o) (hw : Region.wanted o (yielded ops a.tmps) = true)
    (h : ∀ K' : Act → World → Prop, Shut (∀ a w, S w → wpPlan P ops Q S r a w → K' a w) → Oper.wp P o a w K' Q) :
    wpPlan P ops Q S ((i, false) :: r) a w :=
  plan_call ho (fun K hK => by rw [if_pos hw]; exact h K hK)
theorem plan_done {a : Act} {w : World} (h : Q .normal a w) : wpPlan P ops Q S [] a w := h
end Go.Proofs.YtafecnlaodgmkaaGreatDoor
