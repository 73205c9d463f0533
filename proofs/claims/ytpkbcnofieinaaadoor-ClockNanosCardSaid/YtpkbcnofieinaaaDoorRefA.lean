/- Contracts of the plain answers of layer 1: rows of bits, their sum, and what stands on them. -/
import Derived.Test.YtpkbcnofieinaaaDoorRows
import Derived.Test.YtpkbcnofieinaaaDoorLotP
import Derived.WalkKit
import Derived.ProofKit
import Derived.OpenShut
import Derived.Handy
import Derived.Outline
import Derived.Lib.Hide
import Derived.Laws.Rows
import Derived.Deep.WholeRow
namespace Go.Proofs.YtpkbcnofieinaaaDoor
set_option linter.unusedVariables false
open Go.ChangeShapes Go.WideShapes Go.ChangeAt Go.RowKit

theorem bcell {W w1 : World} (hb : Below W.heap.size W w1) : (∀ b o, b < W.heap.size → w1.cell? ⟨b, o, none⟩ = W.cell? ⟨b, o, none⟩) ∧ (∀ b o, b < W.heap.size → w1.frozen? ⟨b, o, none⟩ = W.frozen? ⟨b, o, none⟩) :=
  ⟨fun b o h => hb.cell (p := ⟨b, o, none⟩) h, fun b o h => hb.frozen (p := ⟨b, o, none⟩) h⟩

theorem World.setRow_past (w : World) (o : Obj) (n : Nat) (c : Array Value) (hn : n < w.heap.size) : (w.alloc o).setRow n c = (w.setRow n c).alloc o := by
  simp only [World.setRow, World.alloc]
  congr 1
  apply Array.ext_getElem?
  intro i
  by_cases h : n = i
  · subst h; simp [Array.getElem?_push, Array.getElem?_modify, show ¬ n = w.heap.size by omega]
  · simp [Array.getElem?_push, Array.getElem?_modify, h]
theorem setRow_mid (w : World) (A C : Obj) (c c' : Array Value) (t : TypeId) : (((w.alloc A).alloc (.cells c t)).alloc C).setRow (w.heap.size + 1) c' = ((w.alloc A).alloc (.cells c' t)).alloc C := by
  rw [World.setRow_past _ _ _ _ (by simp)]
  have := World.setRow_alloc_new (w.alloc A) c c' t
  rw [World.size_alloc] at this
  rw [this]
theorem setRow_last (w : World) (A : Obj) (c c' : Array Value) (t : TypeId) : ((w.alloc A).alloc (.cells c t)).setRow (w.heap.size + 1) c' = (w.alloc A).alloc (.cells c' t) := by
  have := World.setRow_alloc_new (w.alloc A) c c' t
  rw [World.size_alloc] at this
  rw [this]
theorem setRow_third (w : World) (A B D : Obj) (c c' : Array Value) (t : TypeId) : ((((w.alloc A).alloc B).alloc (.cells c t)).alloc D).setRow (w.heap.size + 1 + 1) c' = (((w.alloc A).alloc B).alloc (.cells c' t)).alloc D := by
  have := setRow_mid (w.alloc A) B D c c' t
  rw [World.size_alloc] at this
  rw [this]
theorem below2 (w : World) (o1 o2 : Obj) : Below w.heap.size w ((w.alloc o1).alloc o2) :=
  ((Below.refl _ _).alloc (Nat.le_refl _) o1).alloc (by simp) o2
theorem below4 (w : World) (o1 o2 o3 o4 : Obj) : Below w.heap.size w ((((w.alloc o1).alloc o2).alloc o3).alloc o4) :=
  ((((Below.refl _ _).alloc (Nat.le_refl _) o1).alloc (by simp) o2).alloc (by simp; omega) o3).alloc (by simp; omega) o4
theorem below3 (w : World) (o1 o2 o3 : Obj) : Below w.heap.size w (((w.alloc o1).alloc o2).alloc o3) :=
  (((Below.refl _ _).alloc (Nat.le_refl _) o1).alloc (by simp) o2).alloc (by simp; omega) o3
theorem bv_one (f : Nat → Bool) : (bv f).all (·.oneCell') = true := by
  rw [Array.all_eq_true]
  intro i hi
  have := bv_get f i (by rw [bv_size] at hi; exact hi)
  rw [Array.getElem?_eq_getElem hi] at this
  simp at this
  rw [this]; rfl
/-- The bits of a number while they are laid: after i rounds. -/
def laid (h l i : Nat) : Nat → Bool := fun k => if k < 64 then decide (k < i) && l.testBit k else decide (k - 64 < i) && h.testBit (k - 64)
theorem laid_zero (h l : Nat) : laid h l 0 = fun _ => false := by funext k; simp [laid]
theorem laid_succ (h l i : Nat) (hi : i < 64) : upd (upd (laid h l i) i (l.testBit i)) (64 + i) (h.testBit i) = laid h l (i + 1) := by
  funext k
  simp only [upd, laid]
  by_cases h1 : k = 64 + i
  · subst h1; simp; omega
  · by_cases h2 : k = i
    · subst h2; simp [hi]
    · rw [if_neg h1, if_neg h2]
      split
      · rw [show decide (k < i) = decide (k < i + 1) by rw [decide_eq_decide]; omega]
      · rw [show decide (k - 64 < i) = decide (k - 64 < i + 1) by rw [decide_eq_decide]; omega]
theorem laid_end (h l : Nat) (hl : U l) : bv (laid h l 64) = bv (num h l).testBit := by
  apply bv_congr
  intro k hk
  unfold U at *
  have e : num h l = 2 ^ 64 * h + l := by unfold num; omega
  rw [e]
  unfold laid
  by_cases h1 : k < 64
  · simp [h1, Nat.testBit_two_pow_mul_add h (show l < 2 ^ 64 by omega)]
  · simp [h1, Nat.testBit_two_pow_mul_add h (show l < 2 ^ 64 by omega)]
    intro h2; omega

/-- The bits turned while they are turned in place. -/
def turnd (f : Nat → Bool) (i : Nat) : Nat → Bool := fun k => if k < i then !f k else f k
theorem turnd_zero (f : Nat → Bool) : turnd f 0 = f := by funext k; simp [turnd]
theorem turnd_at (f : Nat → Bool) (i : Nat) : turnd f i i = f i := by simp [turnd]
theorem turnd_succ (f : Nat → Bool) (i : Nat) : upd (turnd f i) i (!f i) = turnd f (i + 1) := by
  funext k
  simp only [upd, turnd]
  by_cases h2 : k = i
  · subst h2; simp
  · rw [if_neg h2]
    by_cases h3 : k < i
    · rw [if_pos h3, if_pos (by omega)]
    · rw [if_neg h3, if_neg (by omega)]
theorem turnd_end (f : Nat → Bool) : bv (turnd f 128) = bv fun k => !f k := bv_congr fun k hk => by simp [turnd, hk]

theorem results_cell_row2 {P : Program} {fn : Func} {p q : Tmp} {ty : TypeId} (h : fn.results = #[.cell p ty, .tmp q]) (tmps : Array Value) (w : World) (g : Nat) (t : TypeId) (cs : Array Value) (fr : Nat × Nat) (d : TypeDesc)
    (hp : tmps.getD p undef = .pointer (some ⟨g, 0, none⟩)) (hg : w.heap[g]? = some (.cells cs t fr))
    (hu : P.underlying ty = some d) (hd : (match d with | .struct _ | .array _ _ => true | _ => false) = true) (hi : (P.info? ty).map (·.size) = some cs.size) :
    (results fn tmps).run P w = .ok (.tuple #[.agg cs, tmps.getD q undef]) w := by
  have hp' : tmps[p]?.getD undef = .pointer (some ⟨g, 0, none⟩) := by simpa using hp
  simp [results, h, hp', asAddr, run_loadVar_row w g t ty cs fr d hg hu hd hi]
end Go.Proofs.YtpkbcnofieinaaaDoor
