/- Several texts in one: TextA, TextB, TextC, ParseA, ParseB, ParseC, ParseD, ParseE, ParseF, Awake, LawInts, LawMuls, LawBack, ZPlain, ZCalls, ChkA, ChkB, ChkC, ChkD, ChkE. -/
import Derived.Test.YthlbmeemdhofpaaRefP
import Derived.Test.YthlbmeemdhofpaaRefG
import Derived.WalkKit
import Derived.ProofKit
import Derived.OpenShut
import Derived.Handy
import Derived.Outline
import Derived.Lib.Hide
import Derived.WalkSpells
import Derived.WalkLawsBesides
import Derived.Test.YthlbmeemdhofpaaPkgA
import Derived.Test.YthlbmeemdhofpaaLotP
import Derived.Test.YthlbmeemdhofpaaPkgC
import Derived.Deep.RegionHeld3
import Derived.Deep.DeepCutAuto
import Derived.Lib.ConvBytes
import Derived.Lib.Strings
import Derived.Test.YthlbmeemdhofpaaRefN
import Derived.Test.YthlbmeemdhofpaaPkgF
import Derived.OwnWalk
/- Plain facts on decimal digits; contracts of the plain answers' digits. -/
namespace Go.Proofs.Ythlbmeemdhofpaa
set_option linter.unusedVariables false
open Go.ChangeShapes Go.WideShapes Go.ChangeAt Go.RowKit

/-- the digit's byte. -/
def dch (d : Nat) : UInt8 := UInt8.ofNat (48 + d)
def dgf : Nat → Nat → List UInt8
  | 0, _ => []
  | f + 1, n => (if n / 10 = 0 then [] else dgf f (n / 10)) ++ [dch (n % 10)]
/-- a number's digits. -/
def dg (n : Nat) : List UInt8 := dgf (n + 1) n
theorem dgf_eq (n : Nat) : ∀ f g, n < f → n < g → dgf f n = dgf g n := by
  induction n using Nat.strongRecOn with
  | ind n ih =>
    intro f g hf hg
    obtain ⟨f, rfl⟩ : ∃ k, f = k + 1 := ⟨f - 1, by omega⟩
    obtain ⟨g, rfl⟩ : ∃ k, g = k + 1 := ⟨g - 1, by omega⟩
    unfold dgf
    by_cases h : n / 10 = 0
    · simp [h]
    · rw [if_neg h, if_neg h, ih (n / 10) (by omega) f g (by omega) (by omega)]
theorem dg_step (n : Nat) : dg n = (if n / 10 = 0 then [] else dg (n / 10)) ++ [dch (n % 10)] := by
  unfold dg
  conv => lhs; unfold dgf
  by_cases h : n / 10 = 0
  · simp [h]
  · rw [if_neg h, if_neg h, dgf_eq (n / 10) n (n / 10 + 1) (by omega) (by omega)]
theorem dch_val (d : Nat) (h : d < 10) : ((dch d).toNat : Int) = 48 + (d : Int) := by
  unfold dch; rw [UInt8.toNat_ofNat']; omega

theorem str_app (a b : List UInt8) : ((⟨a.toArray⟩ : ByteArray) ++ (⟨b.toArray⟩ : ByteArray)) = ⟨(a ++ b).toArray⟩ := by
  apply ByteArray.ext
  simp [ByteArray.data_append]
theorem row_set {w : World} {b : Nat} {x y : Value} {t : TypeId} (h : w.heap[b]? = some (.cells #[x, y] t (0, 0))) (p q : Value) :
    ((w.setCell ⟨b, 0, none⟩ p).setCell ⟨b, 1, none⟩ q).heap[b]? = some (.cells #[p, q] t (0, 0)) := by
  simp [World.setCell, Array.getElem?_modify, h]
theorem row_alloc {w : World} {b : Nat} {x : Obj} (h : w.heap[b]? = some x) (o : Obj) : (w.alloc o).heap[b]? = some x := by
  rw [heap_alloc_old _ _ (lt_of_heap h)]; exact h
def lenOf : Value → Nat | .string b => b.size | _ => 0
theorem lenStr (st : List UInt8) : lenOf (.string ⟨st.toArray⟩) = st.length := by show st.toArray.size = _; simp
theorem lenApp (c : UInt8) (st : List UInt8) : lenOf (.string (⟨#[c]⟩ ++ ⟨st.toArray⟩)) = st.length + 1 := by
  rw [show ((⟨#[c]⟩ : ByteArray) ++ ⟨st.toArray⟩) = ⟨([c] ++ st).toArray⟩ from str_app [c] st, lenStr]; simp
end Go.Proofs.Ythlbmeemdhofpaa
/- Contracts: the plain answer's text; below 0 and amount of package wide. -/
namespace Go.Proofs.Ythlbmeemdhofpaa
set_option linter.unusedVariables false
open Go.ChangeShapes Go.WideShapes Go.ChangeAt Go.RowKit

/-- the amount. -/
def amt (h l : Nat) : Nat := if neg h then 340282366920938463463374607431768211456 - num h l else num h l
theorem amt_lt {h l : Nat} (u : U h) (v : U l) : amt h l < 340282366920938463463374607431768211456 := by
  have := num_lt u v
  unfold amt
  by_cases n : neg h = true
  · rw [if_pos n]; have : 0 < num h l := by (unfold neg at n; rw [decide_eq_true_eq] at n; unfold num; omega)
    omega
  · rw [if_neg n]; exact this
def txt (h l : Nat) : List UInt8 := if neg h then 45 :: dg (amt h l) else dg (amt h l)
theorem dg_len (n k : Nat) (h : n < 10 ^ (k + 1)) : (dg n).length ≤ k + 1 := by
  induction k generalizing n with
  | zero => rw [dg_step, if_pos (by rw [Nat.zero_add, Nat.pow_one] at h; omega)]; simp
  | succ k ih =>
    rw [dg_step]
    by_cases h0 : n / 10 = 0
    · rw [if_pos h0]; simp
    · rw [if_neg h0]; have := ih (n / 10) (by rw [Nat.pow_succ] at h; omega)
      simp; omega

theorem and_top (h : Nat) (u : U h) : (bits .and .u64 (h : Int) 9223372036854775808 != 0) = neg h := by
  have := u64_and_nat h 9223372036854775808 u (by omega)
  rw [show ((9223372036854775808 : Nat) : Int) = 9223372036854775808 from rfl] at this
  rw [this]
  unfold neg
  have hp : ∀ i, Nat.testBit 9223372036854775808 i = decide (63 = i) := fun i => by rw [show (9223372036854775808 : Nat) = 2 ^ 63 from rfl, Nat.testBit_two_pow]
  have h2 : h &&& 9223372036854775808 = if h.testBit 63 then 9223372036854775808 else 0 := by
    apply Nat.eq_of_testBit_eq
    intro i
    rw [Nat.testBit_and, hp]
    by_cases hi : i = 63
    · subst hi
      cases ht : h.testBit 63
      · simp
      · rw [if_pos rfl, hp]; simp
    · rw [decide_eq_false (Ne.symm hi), Bool.and_false]
      cases ht : h.testBit 63
      · simp
      · rw [if_pos rfl, hp, decide_eq_false (Ne.symm hi)]
  have h3 : h.testBit 63 = decide (9223372036854775808 ≤ h) := by
    rw [Nat.testBit_eq_decide_div_mod_eq, decide_eq_decide]; unfold U at u; omega
  rw [h2, h3]
  by_cases hn : 9223372036854775808 ≤ h
  · rw [decide_eq_true hn]; decide
  · rw [decide_eq_false hn]; decide
end Go.Proofs.Ythlbmeemdhofpaa
/- Contract of package wide: a number's text. -/
namespace Go.Proofs.Ythlbmeemdhofpaa
set_option linter.unusedVariables false
open Go.ChangeShapes Go.WideShapes Go.ChangeAt Go.RowKit

/-- The room of 40 bytes: its last ones are st. -/
def rml (st : List UInt8) : List UInt8 := List.replicate (40 - st.length) 0 ++ st
def rmv (st : List UInt8) : Array Value := ((rml st).map fun c => Value.int .u8 (c.toNat : Int)).toArray
theorem rmv_size (st : List UInt8) (h : st.length ≤ 40) : (rmv st).size = 40 := by simp [rmv, rml]; omega
theorem rmv_zero (st : List UInt8) (h : st.length < 40) : (rmv st)[39 - st.length]? = some (.int .u8 0) := by
  simp only [rmv, rml, List.getElem?_toArray, List.getElem?_map]
  rw [List.getElem?_append_left (by simp; omega), List.getElem?_replicate, if_pos (by omega)]
  rfl
theorem rmv_set (st : List UInt8) (h : st.length < 40) (c : UInt8) : (rmv st).setIfInBounds (39 - st.length) (.int .u8 (c.toNat : Int)) = rmv (c :: st) := by
  unfold rmv
  rw [List.setIfInBounds_toArray]
  congr 1
  have e : Value.int .u8 (c.toNat : Int) = (fun c : UInt8 => Value.int .u8 (c.toNat : Int)) c := rfl
  rw [e, ← List.map_set]
  congr 1
  unfold rml
  rw [show 40 - st.length = (39 - st.length) + 1 by omega, List.set_append_left _ _ (by simp), show 40 - (c :: st).length = 39 - st.length by simp]
  rw [List.replicate_succ', List.set_append_right _ _ (by simp)]
  simp
theorem rmv_tail (st : List UInt8) (h : st.length ≤ 40) (j : Nat) (hj : j < st.length) : (rmv st)[40 - st.length + j]? = some (.int .u8 ((st[j]).toNat : Int)) := by
  simp only [rmv, rml, List.getElem?_toArray, List.getElem?_map]
  rw [List.getElem?_append_right (by simp)]
  simp [List.getElem?_eq_getElem hj]
theorem heap_setCell_rm {wr : World} {b : Nat} {st : List UInt8} {t : TypeId} {fr : Nat × Nat} (hl : st.length < 40) (c : UInt8) (h : wr.heap[b]? = some (.cells (rmv st) t fr)) : (wr.setCell ⟨b, 39 - st.length, none⟩ (.int .u8 (c.toNat : Int))).heap[b]? = some (.cells (rmv (c :: st)) t fr) := by
  simp only [World.setCell, Array.getElem?_modify, if_true, h, Option.map_some]
  rw [← rmv_set st hl c]; rfl
end Go.Proofs.Ythlbmeemdhofpaa
/- Contracts of package wide: one digit more; whether a text is plain digits. -/
namespace Go.Proofs.Ythlbmeemdhofpaa
set_option linter.unusedVariables false
open Go.ChangeShapes Go.WideShapes Go.ChangeAt Go.RowKit

theorem row_call {V w1 : World} {k : Nat} {o : Obj} (hb : Below V.heap.size V w1) (h : V.heap[k]? = some o) : w1.heap[k]? = some o := by rw [hb.block _ (lt_of_heap h)]; exact h
theorem row_new {W w1 : World} {o : Obj} (hb : Below (W.alloc o).heap.size (W.alloc o) w1) : w1.heap[W.heap.size]? = some o := row_call hb (heap_alloc_new W o)
theorem row_newd {W w1 : World} {o : Obj} (hb : Below (W.alloc o).drew.heap.size (W.alloc o).drew w1) : w1.heap[W.heap.size]? = some o := row_call hb (heap_alloc_new W o)
theorem row_cellA {w : World} {k : Nat} {cs : Array Value} {T : TypeId} (h : w.heap[k]? = some (.cells cs T (0, 0))) : ∀ i, w.cell? ⟨k, i, none⟩ = cs[i]? := fun i => cell_of_row _ _ _ _ _ _ h
theorem row_frozA {w : World} {k : Nat} {cs : Array Value} {T : TypeId} (h : w.heap[k]? = some (.cells cs T (0, 0))) : ∀ i, w.frozen? ⟨k, i, none⟩ = false := fun i => by simp [World.frozen?, h]
theorem keep2 {W0 W : World} {k : Nat} (h : Below W0.heap.size W0 W) (hk : W0.heap.size ≤ k) (a b : Value) : Below W0.heap.size W0 ((W.setCell ⟨k, 0, none⟩ a).setCell ⟨k, 1, none⟩ b) :=
  (h.setCell (by exact hk) _).setCell (by exact hk) _
theorem cell2 {W0 W : World} {k b o : Nat} {v : Value} (hk : W0.heap.size ≤ k) (p q : Value) (hlt : b < W0.heap.size) (hc : W.cell? ⟨b, o, none⟩ = some v) : ((W.setCell ⟨k, 0, none⟩ p).setCell ⟨k, 1, none⟩ q).cell? ⟨b, o, none⟩ = some v := by
  rw [← hc]
  have h1 : ((W.setCell ⟨k, 0, none⟩ p).setCell ⟨k, 1, none⟩ q).heap[b]? = W.heap[b]? := by
    rw [Below.heap_setCell _ _ _ _ (by show b ≠ k; omega), Below.heap_setCell _ _ _ _ (by show b ≠ k; omega)]
  unfold World.cell?
  simp only [h1]

theorem keepZ {W0 W : World} (h : ∃ o, Below W0.heap.size W0 (W.alloc o)) (hg : W0.heap.size ≤ W.heap.size) (o' : Obj) : Below W0.heap.size W0 (W.alloc o') :=
  let ⟨_, h⟩ := h
  ⟨h.os, h.tape, h.output, by simp; omega, fun k hk => by
    have := h.block k hk
    rw [heap_alloc_old _ _ (by omega)] at this
    rw [heap_alloc_old _ _ (by omega)]; exact this⟩
theorem cellZ {W0 W : World} {b j : Nat} {v : Value} (hg : W0.heap.size ≤ W.heap.size) (o' : Obj) (hlt : b < W0.heap.size) (hc : ∃ o, (W.alloc o).cell? ⟨b, j, none⟩ = some v) : (W.alloc o').cell? ⟨b, j, none⟩ = some v := by
  obtain ⟨o, hc⟩ := hc
  have h1 : b < W.heap.size := by omega
  rw [World.cell?_alloc_past _ _ _ h1] at hc
  rw [World.cell?_alloc_past _ _ _ h1]; exact hc
theorem grow_math (h l d : Nat) (u : U h) (v : U l) (hd : d < 10) :
    let A := num (lo (h * 10)) 0 + num (hi (l * 10)) (lo (l * 10))
    let B := num (hi A) (lo A) + num 0 d
    hi B = hi (num h l * 10 + d) ∧ lo B = lo (num h l * 10 + d) ∧ (decide (hi (h * 10) = 0) && (!big A && !big B)) = decide (num h l * 10 + d < 340282366920938463463374607431768211456) := by
  intro A B
  have hl10 : l * 10 < 340282366920938463463374607431768211456 := by unfold U at v; omega
  have eA : A = lo (h * 10) * 18446744073709551616 + l * 10 := by
    show num (lo (h * 10)) 0 + num (hi (l * 10)) (lo (l * 10)) = _
    rw [num_hl_of hl10]; unfold num; omega
  have eB : B = A % 340282366920938463463374607431768211456 + d := by
    show num (hi A) (lo A) + num 0 d = _
    rw [num_hl, num_zero]
  have eN : num h l * 10 + d = h * 10 * 18446744073709551616 + l * 10 + d := by unfold num; omega
  have eh : h * 10 = hi (h * 10) * 18446744073709551616 + lo (h * 10) := by unfold hi lo; unfold U at u; omega
  have b1 : lo (h * 10) < 18446744073709551616 := lo_U _
  have b2 : hi (h * 10) < 18446744073709551616 := hi_U _
  rw [eN]
  unfold U at *
  generalize hi (h * 10) = a at *
  generalize lo (h * 10) = b at *
  generalize h * 10 = t at *
  subst eh
  clear eN hl10
  clear_value A B
  subst eA
  subst eB
  unfold big
  refine ⟨?_, ?_, ?_⟩
  · unfold hi; omega
  · unfold lo; omega
  · rw [Bool.eq_iff_iff]
    simp only [Bool.and_eq_true, Bool.not_eq_true', decide_eq_true_eq, decide_eq_false_iff_not]
    omega

end Go.Proofs.Ythlbmeemdhofpaa
/- Contract of package wide: whether a text is plain digits. -/
namespace Go.Proofs.Ythlbmeemdhofpaa
set_option linter.unusedVariables false
open Go.ChangeShapes Go.WideShapes Go.ChangeAt Go.RowKit

def isd (c : UInt8) : Bool := decide (48 ≤ c.toNat) && decide (c.toNat ≤ 57)
def plainB (t : List UInt8) : Bool := !(t.isEmpty || (t.head? == some 48 && decide (1 < t.length))) && t.all isd
theorem below_bytes (w : World) (e : TypeId) (s : ByteArray) : Below w.heap.size w (Lib.bytesWorld w e s) :=
  ⟨rfl, rfl, rfl, by rw [Lib.bytesWorld_size]; omega, fun k hk => Lib.bytesWorld_at_old w e s k hk⟩

theorem all_take_succ (L : List UInt8) (i : Nat) (h : i < L.length) : (L.take (i + 1)).all isd = ((L.take i).all isd && isd (L.getD i 0)) := by
  rw [List.take_succ_eq_append_getElem h, List.all_append]
  simp [List.getD, List.getElem?_eq_getElem h]
theorem all_of_not (L : List UInt8) (i : Nat) (h : i < L.length) (hn : isd (L.getD i 0) = false) : L.all isd = false := by
  rw [List.all_eq_false]
  refine ⟨L[i], List.getElem_mem h, ?_⟩
  simp [List.getD, List.getElem?_eq_getElem h] at hn
  simp [hn]
/-- what is asked ahead of the digits. -/
def headB (t : List UInt8) : Bool := t.isEmpty || (t.head? == some 48 && decide (1 < t.length))

end Go.Proofs.Ythlbmeemdhofpaa
/- Contract of package wide: digits as a number. -/
namespace Go.Proofs.Ythlbmeemdhofpaa
set_option linter.unusedVariables false
open Go.ChangeShapes Go.WideShapes Go.ChangeAt Go.RowKit

def val10 (t : List UInt8) : Nat := t.foldl (fun a c => a * 10 + (c.toNat - 48)) 0
theorem val10_succ (L : List UInt8) (i : Nat) (h : i < L.length) : val10 (L.take (i + 1)) = val10 (L.take i) * 10 + ((L.getD i 0).toNat - 48) := by
  unfold val10
  rw [List.take_succ_eq_append_getElem h, List.foldl_append]
  simp [List.getD, List.getElem?_eq_getElem h]
theorem val10_mono (a : List UInt8) (b : List UInt8) : val10 a ≤ val10 (a ++ b) := by
  unfold val10
  rw [List.foldl_append]
  generalize a.foldl (fun a c => a * 10 + (c.toNat - 48)) 0 = x
  induction b generalizing x with
  | nil => exact Nat.le_refl _
  | cons c b ih => rw [List.foldl_cons]; exact Nat.le_trans (by omega) (ih _)
theorem val10_take (L : List UInt8) (i : Nat) : val10 (L.take i) ≤ val10 L := by
  conv => rhs; rw [← List.take_append_drop i L]
  exact val10_mono _ _
/-- what the digits are worth, or 0 where that is none of 128 bits; whether it is one. -/
def uvN (t : List UInt8) : Nat := if val10 t < 340282366920938463463374607431768211456 then val10 t else 0
def uvB (t : List UInt8) : Bool := decide (val10 t < 340282366920938463463374607431768211456)
theorem uvN_lt (t : List UInt8) : uvN t < 340282366920938463463374607431768211456 := by unfold uvN; split <;> omega
structure Ust (s : Nat) (L : List UInt8) (x y : Nat) (w wr : World) : Prop where
  z : wr.heap[s]? = some (.cells #[.int .u64 0, .int .u64 0] 60 (0, 0))
  x : wr.heap[s + 1]? = some (.cells #[.int .u64 x, .int .u64 y] 60 (0, 0))
  c : ∀ j, j < L.length → wr.cell? ⟨s + 1 + 1, j, none⟩ = some (.int .u8 ((L.getD j 0).toNat : Int))
  n : s + 1 + 1 < wr.heap.size
  b : Below s w wr
theorem Ust.call {s : Nat} {L : List UInt8} {x y : Nat} {w wr w1 : World} (t : Ust s L x y w wr) (hb : Below wr.heap.size wr w1) : Ust s L x y w w1 := by
  have hn := t.n
  exact ⟨row_call hb t.z, row_call hb t.x, fun j hj => by rw [hb.cell (p := ⟨s + 1 + 1, j, none⟩) hn]; exact t.c j hj, Nat.lt_of_lt_of_le hn hb.size, t.b.trans (hb.mono (by omega))⟩
theorem Ust.setX {s : Nat} {L : List UInt8} {x y : Nat} {w wr : World} (t : Ust s L x y w wr) (p q : Nat) : Ust s L p q w ((wr.setCell ⟨s + 1, 0, none⟩ (.int .u64 p)).setCell ⟨s + 1, 1, none⟩ (.int .u64 q)) := by
  refine ⟨?_, row_set t.x _ _, fun j hj => ?_, by simp [World.setCell]; exact t.n, (t.b.setCell (by show s ≤ s + 1; omega) _).setCell (by show s ≤ s + 1; omega) _⟩
  · rw [Below.heap_setCell _ _ _ _ (by show s ≠ s + 1; omega), Below.heap_setCell _ _ _ _ (by show s ≠ s + 1; omega)]; exact t.z
  · rw [← t.c j hj]
    have h1 : ((wr.setCell ⟨s + 1, 0, none⟩ (.int .u64 p)).setCell ⟨s + 1, 1, none⟩ (.int .u64 q)).heap[s + 1 + 1]? = wr.heap[s + 1 + 1]? := by
      rw [Below.heap_setCell _ _ _ _ (by show s + 1 + 1 ≠ s + 1; omega), Below.heap_setCell _ _ _ _ (by show s + 1 + 1 ≠ s + 1; omega)]
    unfold World.cell?
    simp only [h1]

end Go.Proofs.Ythlbmeemdhofpaa
/- Contract of package wide: a text as a number. -/
namespace Go.Proofs.Ythlbmeemdhofpaa
set_option linter.unusedVariables false
open Go.ChangeShapes Go.WideShapes Go.ChangeAt Go.RowKit

def isNeg (t : List UInt8) : Bool := Lib.hasPrefix t [45]
def body (t : List UInt8) : List UInt8 := Lib.trimPrefix t [45]
/-- the form is none: no plain digits, or a 0 below 0. -/
def badForm (t : List UInt8) : Bool := !plainB (body t) || (isNeg t && decide (body t = [48]))
/-- the amount is too great for its sign. -/
def outOf (t : List UInt8) : Bool := if isNeg t then decide (170141183460469231731687303715884105728 < val10 (body t)) else decide (170141183460469231731687303715884105728 ≤ val10 (body t))
def pErr (t : List UInt8) : Nat := if 64 < t.length then 1 else if badForm t then 2 else if outOf t then 8 else 0
def pNum (t : List UInt8) : Nat := if pErr t = 0 then (if isNeg t then 340282366920938463463374607431768211456 - val10 (body t) else val10 (body t)) else 0
theorem body_len (t : List UInt8) : (body t).length ≤ t.length := by
  unfold body Lib.trimPrefix; split <;> simp
theorem plainB_all {t : List UInt8} (h : plainB t = true) : t.all isd = true := by unfold plainB at h; rw [Bool.and_eq_true] at h; exact h.2
theorem hi_zero : hi 0 = 0 := by unfold hi; rfl
theorem lo_zero : lo 0 = 0 := by unfold lo; rfl
end Go.Proofs.Ythlbmeemdhofpaa
/- Contract of package wide: a text as a number: where its form is one. -/
namespace Go.Proofs.Ythlbmeemdhofpaa
set_option linter.unusedVariables false
open Go.ChangeShapes Go.WideShapes Go.ChangeAt Go.RowKit

theorem neg_hi (V : Nat) (h : V < 340282366920938463463374607431768211456) : neg (hi V) = decide (170141183460469231731687303715884105728 ≤ V) := by
  unfold neg hi; rw [decide_eq_decide]; omega
theorem pErr_of {t : List UInt8} (h1 : ¬ 64 < t.length) (h2 : badForm t = false) : pErr t = if outOf t then 8 else 0 := by
  unfold pErr; rw [if_neg h1, h2, if_neg (by decide)]

end Go.Proofs.Ythlbmeemdhofpaa
/- Contract of package wide: a text as a number: below 0; all of it. -/
namespace Go.Proofs.Ythlbmeemdhofpaa
set_option linter.unusedVariables false
open Go.ChangeShapes Go.WideShapes Go.ChangeAt Go.RowKit

theorem val10_pos {B : List UInt8} (hp : plainB B = true) (h0 : ¬ B = [48]) : 0 < val10 B := by
  have hall := plainB_all hp
  unfold plainB at hp
  cases B with
  | nil => simp at hp
  | cons c r =>
    have hc : isd c = true := by rw [List.all_eq_true] at hall; exact hall c (by simp)
    have hc2 : 48 ≤ c.toNat := by unfold isd at hc; rw [Bool.and_eq_true, decide_eq_true_eq] at hc; exact hc.1
    have hne : c ≠ 48 := by
      intro h
      subst h
      cases r with
      | nil => exact h0 rfl
      | cons d r => simp at hp
    have hne2 : c.toNat ≠ 48 := fun h => hne (UInt8.toNat_inj.1 h)
    have h1 := val10_mono [c] r
    have h2 : val10 [c] = c.toNat - 48 := by simp [val10]
    rw [h2] at h1
    have h3 : [c] ++ r = c :: r := rfl
    rw [h3] at h1
    omega

end Go.Proofs.Ythlbmeemdhofpaa
/- The examples of chapter 1: the law's own function that asks them answers true. -/
namespace Go.Proofs.Ythlbmeemdhofpaa
set_option linter.unusedVariables false
open Go.ChangeShapes Go.WideShapes Go.ChangeAt Go.RowKit

def exA : List UInt8 := [45, 49, 55, 48, 49, 52, 49, 49, 56, 51, 52, 54, 48, 52, 54, 57, 50, 51, 49, 55, 51, 49, 54, 56, 55, 51, 48, 51, 55, 49, 53, 56, 56, 52, 49, 48, 53, 55, 50, 56]
theorem exA_err : pErr exA = 0 := by decide +kernel
theorem exA_num : pNum exA = 170141183460469231731687303715884105728 := by decide +kernel
theorem exB_err : pErr [48, 55] = 2 := by decide +kernel
theorem exB_num : pNum [48, 55] = 0 := by decide +kernel
theorem awakeM (w : World) : Calls Try.prog 36 #[.int .u64 9223372036854775808, .int .u64 4] w fun e w' => e = .returned (.agg #[.int .u64 2, .int .u64 0]) ∧ Below w.heap.size w w' := by
  have h := mul_any 9223372036854775808 4 (by unfold U; omega) (by unfold U; omega) w
  rw [show hi (9223372036854775808 * 4) = 2 by unfold hi; rfl, show lo (9223372036854775808 * 4) = 0 by unfold lo; rfl] at h
  exact h
theorem txt_ones : txt 18446744073709551615 18446744073709551615 = [45, 49] := by
  have h1 : neg 18446744073709551615 = true := by unfold neg; exact decide_eq_true (by omega)
  have h2 : amt 18446744073709551615 18446744073709551615 = 1 := by unfold amt; rw [if_pos h1]; unfold num; rfl
  unfold txt
  rw [if_pos h1, h2]
  rfl
end Go.Proofs.Ythlbmeemdhofpaa
/- The walk of the law WideInts. -/
namespace Go.Proofs.Ythlbmeemdhofpaa
set_option linter.unusedVariables false
open Go.ChangeShapes Go.WideShapes Go.ChangeAt Go.RowKit

theorem u64_nat {a : Int} (w : (Lit.int .u64 a).wf = true) : ∃ n : Nat, a = (n : Int) ∧ U n := by
  have h := bounds_u64 w
  exact ⟨a.toNat, by omega, by unfold U; omega⟩
theorem int_bd {a : Int} (w : (Lit.int .i64 a).wf = true) : -9223372036854775808 ≤ a ∧ a < 9223372036854775808 := by
  have h := bounds_i64 w
  omega
theorem sgn_of (n : Int) (b : -9223372036854775808 ≤ n ∧ n < 9223372036854775808) : sgn (ofL n) = n := by unfold sgn ofL; rw [IntKind.wrap_i64]; omega
theorem intOk_of (n : Int) (b : -9223372036854775808 ≤ n ∧ n < 9223372036854775808) : intOk (ofH n) (ofL n) = true := by unfold intOk; rw [sgn_of n b]; simp

end Go.Proofs.Ythlbmeemdhofpaa
/- The walk of the law WideMuls. -/
namespace Go.Proofs.Ythlbmeemdhofpaa
set_option linter.unusedVariables false
open Go.ChangeShapes Go.WideShapes Go.ChangeAt Go.RowKit

/-- what both Divs answer. -/
structure DivR (h l b : Nat) where
  q1 : Nat
  q2 : Nat
  r : Nat
  e : Int
end Go.Proofs.Ythlbmeemdhofpaa
/- The walk of the law WideBack. -/
namespace Go.Proofs.Ythlbmeemdhofpaa
set_option linter.unusedVariables false
open Go.ChangeShapes Go.WideShapes Go.ChangeAt Go.RowKit

theorem row_at {w : World} {k k' : Nat} {o : Option Obj} (e : k = k') (h : w.heap[k]? = o) : w.heap[k']? = o := e ▸ h
theorem row_by {w w' : World} {k : Nat} {o : Option Obj} (e : w' = w) (h : w.heap[k]? = o) : w'.heap[k]? = o := e ▸ h
theorem below_by {n : Nat} {w v v' : World} (e : v' = v) (h : Below n w v) : Below n w v' := e ▸ h
theorem big_no {n : Nat} (h : n < 340282366920938463463374607431768211456) : big n = false := by unfold big; exact decide_eq_false (by omega)
theorem back_math (h l b : Nat) (u : U h) (v : U l) (ub : U b) (h0 : 0 < b) : ∃ q1 q2 r m1 m2 k x1 x2 : Nat, U q1 ∧ U q2 ∧ U r ∧ U m1 ∧ U m2 ∧ U k ∧ U x1 ∧ U x2 ∧ r < b ∧
    hi (num h l / b) = q1 ∧ lo (num h l / b) = q2 ∧ num h l % b = r ∧ hi (q2 * b) = m1 ∧ lo (q2 * b) = m2 ∧ hi (q1 * b) = 0 ∧ lo (q1 * b) = k ∧
    hi (num m1 m2 + num k 0) = x1 ∧ lo (num m1 m2 + num k 0) = x2 ∧ big (num m1 m2 + num k 0) = false ∧ hi (num x1 x2 + num 0 r) = h ∧ lo (num x1 x2 + num 0 r) = l ∧ big (num x1 x2 + num 0 r) = false := by
  have hN := num_lt u v
  have hdm := Nat.div_add_mod (num h l) b
  have hr := Nat.mod_lt (num h l) h0
  have hq : num h l / b ≤ num h l := Nat.div_le_self _ _
  have hqn : num (hi (num h l / b)) (lo (num h l / b)) = num h l / b := num_hl_of (by omega)
  have hb2 : b < 18446744073709551616 := ub
  generalize num h l / b = Q at *
  have hq1 : num (hi Q) (lo Q) = hi Q * 18446744073709551616 + lo Q := by unfold num; rfl
  have hmul : b * Q = hi Q * b * 18446744073709551616 + lo Q * b := by
    have e : b * Q = b * (hi Q * 18446744073709551616 + lo Q) := by rw [← hq1, hqn]
    rw [e, Nat.mul_add, Nat.mul_comm b (lo _), Nat.mul_comm b, Nat.mul_right_comm]
  have hl1 : lo Q * b < 340282366920938463463374607431768211456 := by
    have h1 : lo Q * b ≤ 18446744073709551615 * b := Nat.mul_le_mul_right _ (by have := (lo_U Q).lt; omega)
    have h2 : 18446744073709551615 * b ≤ 18446744073709551615 * 18446744073709551615 := Nat.mul_le_mul_left _ (by omega)
    omega
  have hh1 : hi Q * b < 18446744073709551616 := by omega
  have e3 : hi (hi Q * b) = 0 := by
    generalize hi Q * b = t at *
    unfold hi; omega
  have e4 : lo (hi Q * b) = hi Q * b := by
    generalize hi Q * b = t at *
    unfold lo; omega
  have em : num (hi (lo Q * b)) (lo (lo Q * b)) = lo Q * b := num_hl_of hl1
  have ek : num (lo (hi Q * b)) 0 = hi Q * b * 18446744073709551616 := by rw [e4]; unfold num; omega
  have es : num (hi (lo Q * b)) (lo (lo Q * b)) + num (lo (hi Q * b)) 0 = b * Q := by rw [em, ek, hmul, Nat.add_comm]
  have ex : num (hi (b * Q)) (lo (b * Q)) = b * Q := num_hl_of (by omega)
  have ey : num (hi (b * Q)) (lo (b * Q)) + num 0 (num h l % b) = num h l := by rw [ex, num_zero]; exact hdm
  refine ⟨hi Q, lo Q, num h l % b, hi (lo Q * b), lo (lo Q * b), lo (hi Q * b), hi (b * Q), lo (b * Q), hi_U _, lo_U _, ?_, hi_U _, lo_U _, lo_U _, hi_U _, lo_U _, hr, rfl, rfl, rfl, rfl, rfl, e3, rfl, ?_, ?_, ?_, ?_, ?_, ?_⟩
  · unfold U; omega
  · rw [es]
  · rw [es]
  · rw [es]; exact big_no (by omega)
  · rw [ey]; exact hi_num u v
  · rw [ey]; exact lo_num v
  · rw [ey]; exact big_no hN

theorem there_math (h l c d : Nat) (u : U h) (v : U l) (uc : U c) (ud : U d) : hi (num (hi (num h l + num c d)) (lo (num h l + num c d)) + 340282366920938463463374607431768211456 - num c d) = h ∧
    lo (num (hi (num h l + num c d)) (lo (num h l + num c d)) + 340282366920938463463374607431768211456 - num c d) = l := by
  have h1 := num_lt u v
  have h2 := num_lt uc ud
  rw [num_hl]
  have e : ((num h l + num c d) % 340282366920938463463374607431768211456 + 340282366920938463463374607431768211456 - num c d) % 340282366920938463463374607431768211456 = num h l := by omega
  rw [← hi_mod, ← lo_mod, e]
  exact ⟨hi_num u v, lo_num v⟩

end Go.Proofs.Ythlbmeemdhofpaa
/- Plain facts: integers as numbers of 128 bits, two's complement. No program. -/
namespace Go.Proofs.Ythlbmeemdhofpaa
set_option linter.unusedVariables false
open Go.ChangeShapes Go.WideShapes Go.ChangeAt Go.RowKit

def zw (z : Int) : Nat := (z % 340282366920938463463374607431768211456).toNat
@[irreducible] def zh (z : Int) : Nat := hi (zw z)
@[irreducible] def zl (z : Int) : Nat := lo (zw z)
theorem zw_lt (z : Int) : zw z < 340282366920938463463374607431768211456 := by unfold zw; omega
theorem zh_U (z : Int) : U (zh z) := by unfold zh; exact hi_U _
theorem zl_U (z : Int) : U (zl z) := by unfold zl; exact lo_U _
theorem num_z (z : Int) : num (zh z) (zl z) = zw z := by unfold zh zl; exact num_hl_of (zw_lt z)
theorem hi_z {n : Nat} {z : Int} (h : n % 340282366920938463463374607431768211456 = zw z) : hi n = zh z := by unfold zh; rw [← hi_mod, h]
theorem lo_z {n : Nat} {z : Int} (h : n % 340282366920938463463374607431768211456 = zw z) : lo n = zl z := by unfold zl; rw [← lo_mod, h]
theorem zw_add (x y : Int) : (zw x + zw y) % 340282366920938463463374607431768211456 = zw (x + y) := by unfold zw; omega
theorem zw_sub (x y : Int) : (zw x + 340282366920938463463374607431768211456 - zw y) % 340282366920938463463374607431768211456 = zw (x - y) := by unfold zw; omega
theorem zw_neg (x : Int) : (340282366920938463463374607431768211456 - zw x) % 340282366920938463463374607431768211456 = zw (-x) := by unfold zw; omega
theorem zw_nat (n : Nat) (h : n < 340282366920938463463374607431768211456) : zw (n : Int) = n := by unfold zw; omega
theorem zw_small (h l : Nat) (u : U h) (v : U l) : zw (num h l : Nat) = num h l := zw_nat _ (num_lt u v)
/-- the integer that a number shows, signed. -/
def sz (h l : Nat) : Int := if neg h then (num h l : Int) - 340282366920938463463374607431768211456 else (num h l : Int)
theorem zw_sz (h l : Nat) (u : U h) (v : U l) : zw (sz h l) = num h l := by
  have := num_lt u v
  unfold sz zw
  split <;> omega
theorem zh_sz (h l : Nat) (u : U h) (v : U l) : zh (sz h l) = h := by unfold zh; rw [zw_sz h l u v]; exact hi_num u v
theorem zl_sz (h l : Nat) (u : U h) (v : U l) : zl (sz h l) = l := by unfold zl; rw [zw_sz h l u v]; exact lo_num v
theorem num_bd {h l : Nat} (u : U h) (v : U l) : (neg h = true → 170141183460469231731687303715884105728 ≤ num h l) ∧ (neg h = false → num h l < 170141183460469231731687303715884105728) := by
  unfold neg num
  unfold U at v
  constructor
  · intro hn; have := of_decide_eq_true hn; omega
  · intro hn; have := of_decide_eq_false hn; omega
def in128 (z : Int) : Prop := -170141183460469231731687303715884105728 ≤ z ∧ z < 170141183460469231731687303715884105728
def in64 (z : Int) : Prop := -9223372036854775808 ≤ z ∧ z < 9223372036854775808
instance (z : Int) : Decidable (in64 z) := by unfold in64; infer_instance
theorem in64.wide {z : Int} (h : in64 z) : in128 z := by unfold in64 at h; unfold in128; omega
theorem sz_in (h l : Nat) (u : U h) (v : U l) : in128 (sz h l) := by
  have h1 := num_bd u v
  have h2 := num_lt u v
  unfold sz in128
  cases hn : neg h
  · have := h1.2 hn; simp; omega
  · have := h1.1 hn; simp; omega
theorem zh_of (n : Int) (b : in64 n) : ofH n = zh n := by
  unfold in64 at b
  unfold ofH zh hi zw
  split <;> omega
theorem zl_of (n : Int) : ofL n = zl n := by
  unfold ofL zl lo zw
  omega
theorem neg_z (z : Int) (b : in128 z) : neg (zh z) = decide (z < 0) := by
  unfold in128 at b
  unfold neg zh hi zw
  rw [decide_eq_decide]
  omega
/-- an int's value and error. -/
def iV (z : Int) : Int := if -9223372036854775808 ≤ z ∧ z < 9223372036854775808 then z else 0
def iE (z : Int) : Int := if -9223372036854775808 ≤ z ∧ z < 9223372036854775808 then 0 else 8
theorem iV_of {z : Int} (b : in64 z) : iV z = z := if_pos b
theorem iE_of {z : Int} (b : in64 z) : iE z = 0 := if_pos b
theorem iV_not {z : Int} (b : ¬ in64 z) : iV z = 0 := if_neg b
theorem iE_not {z : Int} (b : ¬ in64 z) : iE z = 8 := if_neg b
theorem iV_in (z : Int) : in64 (iV z) := by unfold iV; split <;> unfold in64 <;> omega
theorem intOk_z (z : Int) (b : in128 z) : intOk (zh z) (zl z) = decide (in64 z) := by
  unfold in128 at b
  unfold intOk sgn
  rw [IntKind.wrap_i64]
  unfold ofH zh zl hi lo zw in64
  by_cases h : -9223372036854775808 ≤ z ∧ z < 9223372036854775808
  · rw [decide_eq_true h, beq_iff_eq]
    split <;> omega
  · rw [decide_eq_false h, beq_eq_false_iff_ne]
    split <;> omega
theorem sgn_z (z : Int) (b : in64 z) : sgn (zl z) = z := by
  unfold in64 at b
  unfold sgn zl lo zw
  rw [IntKind.wrap_i64]
  omega
theorem int_z (z : Int) (b : in128 z) : (if intOk (zh z) (zl z) then sgn (zl z) else 0) = iV z ∧ (if intOk (zh z) (zl z) then (0 : Int) else 8) = iE z := by
  rw [intOk_z z b]
  by_cases h : in64 z
  · rw [decide_eq_true h, if_pos rfl, if_pos rfl, iV_of h, iE_of h, sgn_z z h]; exact ⟨rfl, rfl⟩
  · rw [decide_eq_false h, if_neg (by decide), if_neg (by decide), iV_not h, iE_not h]; exact ⟨rfl, rfl⟩
theorem sz_z (z : Int) (b : in128 z) : sz (zh z) (zl z) = z := by
  unfold sz
  rw [neg_z z b, num_z]
  unfold in128 at b
  unfold zw
  by_cases h : z < 0
  · rw [decide_eq_true h, if_pos rfl]; omega
  · rw [decide_eq_false h, if_neg (by decide)]; omega
end Go.Proofs.Ythlbmeemdhofpaa
/- Contracts over integers: wide's calls and the plain answers of layer 1. -/
namespace Go.Proofs.Ythlbmeemdhofpaa
set_option linter.unusedVariables false
open Go.ChangeShapes Go.WideShapes Go.ChangeAt Go.RowKit

@[irreducible] def cb (x y : Int) : Bool := big (zw x + zw y)
@[irreducible] def bb (x y : Int) : Bool := decide (zw x < zw y)
def cmpZ (x y : Int) : Int := if x = y then 0 else if x < y then -1 else 1
theorem sgn_z2 (x y : Int) (b : in128 x) (c : in128 y) : sgnI (zw x) (zh x) (zw y) (zh y) = cmpZ x y := by
  unfold sgnI cmpI cmpZ
  rw [neg_z x b, neg_z y c]
  unfold in128 at b c
  unfold zw
  by_cases h1 : x < 0 <;> by_cases h2 : y < 0
  · rw [decide_eq_true h1, decide_eq_true h2, if_neg (by decide)]
    repeat' split
    all_goals omega
  · rw [decide_eq_true h1, decide_eq_false h2, if_pos (by decide), if_pos rfl]
    repeat' split
    all_goals omega
  · rw [decide_eq_false h1, decide_eq_true h2, if_pos (by decide), if_neg (by decide)]
    repeat' split
    all_goals omega
  · rw [decide_eq_false h1, decide_eq_false h2, if_neg (by decide)]
    repeat' split
    all_goals omega
theorem zOf_any (n : Int) (b : in64 n) (w : World) : Calls Try.prog 41 #[.int .i64 n] w fun e w' => e = .returned (.agg #[.int .u64 (zh n), .int .u64 (zl n)]) ∧ Below w.heap.size w w' := by
  have h := of_any n b w
  rw [zh_of n b, zl_of n] at h
  exact h

theorem zAdd_any (x y : Int) (w : World) : Calls Try.prog 40 #[.agg #[.int .u64 (zh x), .int .u64 (zl x)], .agg #[.int .u64 (zh y), .int .u64 (zl y)]] w fun e w' => e = .returned (.tuple #[.agg #[.int .u64 (zh (x + y)), .int .u64 (zl (x + y))], .bool (cb x y)]) ∧ Below w.heap.size w w' := by
  have h := add_any (zh x) (zl x) (zh y) (zl y) (zh_U x) (zl_U x) (zh_U y) (zl_U y) w
  rw [num_z, num_z, hi_z (zw_add x y), lo_z (zw_add x y)] at h
  unfold cb
  exact h

theorem zSub_any (x y : Int) (w : World) : Calls Try.prog 42 #[.agg #[.int .u64 (zh x), .int .u64 (zl x)], .agg #[.int .u64 (zh y), .int .u64 (zl y)]] w fun e w' => e = .returned (.tuple #[.agg #[.int .u64 (zh (x - y)), .int .u64 (zl (x - y))], .bool (bb x y)]) ∧ Below w.heap.size w w' := by
  have h := sub_any (zh x) (zl x) (zh y) (zl y) (zh_U x) (zl_U x) (zh_U y) (zl_U y) w
  rw [num_z, num_z, hi_z (zw_sub x y), lo_z (zw_sub x y)] at h
  unfold bb
  exact h

theorem zNeg_any (x : Int) (w : World) : Calls Try.prog 38 #[.agg #[.int .u64 (zh x), .int .u64 (zl x)]] w fun e w' => e = .returned (.agg #[.int .u64 (zh (-x)), .int .u64 (zl (-x))]) ∧ Below w.heap.size w w' := by
  have h := neg_any (zh x) (zl x) (zh_U x) (zl_U x) w
  rw [num_z, hi_z (zw_neg x), lo_z (zw_neg x)] at h
  exact h

theorem zInt_any (x : Int) (b : in128 x) (w : World) : Calls Try.prog 39 #[.agg #[.int .u64 (zh x), .int .u64 (zl x)]] w fun e w' => e = .returned (.tuple #[.int .i64 (iV x), .int .i64 (iE x)]) ∧ Below w.heap.size w w' := by
  have h := int_any (zh x) (zl x) (zh_U x) (zl_U x) w
  rw [(int_z x b).1, (int_z x b).2] at h
  exact h

theorem zMul_any (a b : Nat) (ha : U a) (hb : U b) (w : World) : Calls Try.prog 36 #[.int .u64 a, .int .u64 b] w fun e w' => e = .returned (.agg #[.int .u64 (zh (a * b : Nat)), .int .u64 (zl (a * b : Nat))]) ∧ Below w.heap.size w w' := by
  have h := mul_any a b ha hb w
  have e : a * b % 340282366920938463463374607431768211456 = zw (a * b : Nat) := by unfold zw; omega
  rw [hi_z e, lo_z e] at h
  exact h




theorem rOf_any (n : Int) (b : in64 n) (w : World) : Calls Try.prog 43 #[.int .i64 n] w fun e w' => e = .returned (.agg #[.int .u64 (zh n), .int .u64 (zl n)]) ∧ Below w.heap.size w w' := by
  have h := refOf_any n w
  rw [zh_of n b, zl_of n] at h
  exact h


theorem rSub_any (x y : Int) (w : World) : Calls Try.prog 52 #[.agg #[.int .u64 (zh x), .int .u64 (zl x)], .agg #[.int .u64 (zh y), .int .u64 (zl y)]] w fun e w' => e = .returned (.tuple #[.agg #[.int .u64 (zh (x - y)), .int .u64 (zl (x - y))], .bool (bb x y)]) ∧ Below w.heap.size w w' := by
  have h := refSub_any (zh x) (zl x) (zh y) (zl y) (zh_U x) (zl_U x) (zh_U y) (zl_U y) w
  rw [num_z, num_z, hi_z (zw_sub x y), lo_z (zw_sub x y)] at h
  unfold bb
  exact h

theorem rNeg_any (x : Int) (w : World) : Calls Try.prog 46 #[.agg #[.int .u64 (zh x), .int .u64 (zl x)]] w fun e w' => e = .returned (.agg #[.int .u64 (zh (-x)), .int .u64 (zl (-x))]) ∧ Below w.heap.size w w' := by
  have h := refNeg_any (zh x) (zl x) (zh_U x) (zl_U x) w
  rw [num_z, hi_z (zw_neg x), lo_z (zw_neg x)] at h
  exact h

theorem rInt_any (x : Int) (b : in128 x) (w : World) : Calls Try.prog 34 #[.agg #[.int .u64 (zh x), .int .u64 (zl x)]] w fun e w' => e = .returned (.tuple #[.int .i64 (iV x), .int .i64 (iE x)]) ∧ Below w.heap.size w w' := by
  have h := refInt_any (zh x) (zl x) (zh_U x) (zl_U x) w
  rw [(int_z x b).1, (int_z x b).2] at h
  exact h

theorem rMul_any (a b : Nat) (ha : U a) (hb : U b) (w : World) : Calls Try.prog 44 #[.int .u64 a, .int .u64 b] w fun e w' => e = .returned (.agg #[.int .u64 (zh (a * b : Nat)), .int .u64 (zl (a * b : Nat))]) ∧ Below w.heap.size w w' := by
  have h := refMul_any a b ha hb w
  have e : a * b % 340282366920938463463374607431768211456 = zw (a * b : Nat) := by unfold zw; omega
  rw [hi_z e, lo_z e] at h
  exact h




end Go.Proofs.Ythlbmeemdhofpaa
/- Contracts of package checked's sums, and of the plain answers of layer 2. -/
namespace Go.Proofs.Ythlbmeemdhofpaa
set_option linter.unusedVariables false
open Go.ChangeShapes Go.WideShapes Go.ChangeAt Go.RowKit

theorem row_other {w : World} {b k : Nat} {o : Option Obj} (hne : b ≠ k) (h : w.heap[b]? = o) (p q : Value) : ((w.setCell ⟨k, 0, none⟩ p).setCell ⟨k, 1, none⟩ q).heap[b]? = o := by
  rw [Below.heap_setCell _ _ _ _ (by show b ≠ k; exact hne), Below.heap_setCell _ _ _ _ (by show b ≠ k; exact hne)]; exact h
set_option maxHeartbeats 800000 in
set_option maxRecDepth 100000 in
theorem zcAdd_any (a b : Int) (ba : in64 a) (bb : in64 b) (w : World) : Calls Try.prog 32 #[.int .i64 a, .int .i64 b] w fun e w' => e = .returned (.tuple #[.int .i64 (iV (a + b)), .int .i64 (iE (a + b))]) ∧ Below w.heap.size w w' := by
  have H1 := Lib.hid (zOf_any a ba)
  have H2 := Lib.hid (zOf_any b bb)
  have H3 := Lib.hid (zAdd_any a b)
  have H4 := Lib.hid (zInt_any (a + b) (by unfold in64 at ba bb; unfold in128; omega))
  clear ba bb
  generalize a + b = s at *
  go_enter Try.func32, Try.ntmps32
  go_wp2_with fail
  
  refine (H1.out _).mono ?_
  rintro e V1 ⟨rfl, hb1⟩
  have B1 : Hid (Below w.heap.size w V1) := by first | exact Lib.hid ((Below.refl w.heap.size w).trans (hb1.mono (by first | assumption | (simp <;> omega) | (simp; done)))) | exact Lib.hid (((Below.refl w.heap.size w).alloc (Nat.le_refl _) _).trans (hb1.mono (by first | assumption | (simp <;> omega) | (simp; done)))) | exact Lib.hid ((((Below.refl w.heap.size w).alloc (Nat.le_refl _) _).alloc (by simp <;> omega) _).trans (hb1.mono (by first | assumption | (simp <;> omega) | (simp; done)))) | exact Lib.hid (((((Below.refl w.heap.size w).alloc (Nat.le_refl _) _).alloc (by simp <;> omega) _).alloc (by simp <;> omega) _).trans (hb1.mono (by first | assumption | (simp <;> omega) | (simp; done))))
  clear hb1
  go_simp
  go_wp2_with fail
  refine (H2.out _).mono ?_
  rintro e V2 ⟨rfl, hb2⟩
  have B2 : Hid (Below w.heap.size w V2) := by first | exact Lib.hid ((B1.out).trans (hb2.mono (by have := B1.out.size; first | assumption | (simp <;> omega) | (simp; done)))) | exact Lib.hid (((B1.out).alloc (B1.out.size) _).trans (hb2.mono (by have := B1.out.size; first | assumption | (simp <;> omega) | (simp; done)))) | exact Lib.hid ((((B1.out).alloc (B1.out.size) _).alloc (by have := B1.out.size; simp <;> omega) _).trans (hb2.mono (by have := B1.out.size; first | assumption | (simp <;> omega) | (simp; done)))) | exact Lib.hid (((((B1.out).alloc (B1.out.size) _).alloc (by have := B1.out.size; simp <;> omega) _).alloc (by have := B1.out.size; simp <;> omega) _).trans (hb2.mono (by have := B1.out.size; first | assumption | (simp <;> omega) | (simp; done))))
  clear hb2
  go_simp
  go_wp2_with fail
  refine (H3.out _).mono ?_
  rintro e V3 ⟨rfl, hb3⟩
  have B3 : Hid (Below w.heap.size w V3) := by first | exact Lib.hid ((B2.out).trans (hb3.mono (by have := B2.out.size; first | assumption | (simp <;> omega) | (simp; done)))) | exact Lib.hid (((B2.out).alloc (B2.out.size) _).trans (hb3.mono (by have := B2.out.size; first | assumption | (simp <;> omega) | (simp; done)))) | exact Lib.hid ((((B2.out).alloc (B2.out.size) _).alloc (by have := B2.out.size; simp <;> omega) _).trans (hb3.mono (by have := B2.out.size; first | assumption | (simp <;> omega) | (simp; done)))) | exact Lib.hid (((((B2.out).alloc (B2.out.size) _).alloc (by have := B2.out.size; simp <;> omega) _).alloc (by have := B2.out.size; simp <;> omega) _).trans (hb3.mono (by have := B2.out.size; first | assumption | (simp <;> omega) | (simp; done))))
  clear hb3
  go_simp
  go_wp2_with fail
  refine (H4.out _).mono ?_
  rintro e V4 ⟨rfl, hb4⟩
  have B4 : Hid (Below w.heap.size w V4) := by first | exact Lib.hid ((B3.out).trans (hb4.mono (by have := B3.out.size; first | assumption | (simp <;> omega) | (simp; done)))) | exact Lib.hid (((B3.out).alloc (B3.out.size) _).trans (hb4.mono (by have := B3.out.size; first | assumption | (simp <;> omega) | (simp; done)))) | exact Lib.hid ((((B3.out).alloc (B3.out.size) _).alloc (by have := B3.out.size; simp <;> omega) _).trans (hb4.mono (by have := B3.out.size; first | assumption | (simp <;> omega) | (simp; done)))) | exact Lib.hid (((((B3.out).alloc (B3.out.size) _).alloc (by have := B3.out.size; simp <;> omega) _).alloc (by have := B3.out.size; simp <;> omega) _).trans (hb4.mono (by have := B3.out.size; first | assumption | (simp <;> omega) | (simp; done))))
  clear hb4
  go_simp
  go_wp2
  go_ret2
  exact ⟨rfl, by first | exact B4.out | exact B4.out.alloc B4.out.size _⟩

set_option maxHeartbeats 800000 in
set_option maxRecDepth 100000 in
theorem zcSub_any (a b : Int) (ba : in64 a) (bb : in64 b) (w : World) : Calls Try.prog 33 #[.int .i64 a, .int .i64 b] w fun e w' => e = .returned (.tuple #[.int .i64 (iV (a - b)), .int .i64 (iE (a - b))]) ∧ Below w.heap.size w w' := by
  have H1 := Lib.hid (zOf_any a ba)
  have H2 := Lib.hid (zOf_any b bb)
  have H3 := Lib.hid (zSub_any a b)
  have H4 := Lib.hid (zInt_any (a - b) (by unfold in64 at ba bb; unfold in128; omega))
  clear ba bb
  generalize a - b = s at *
  go_enter Try.func33, Try.ntmps33
  go_wp2_with fail
  
  refine (H1.out _).mono ?_
  rintro e V1 ⟨rfl, hb1⟩
  have B1 : Hid (Below w.heap.size w V1) := by first | exact Lib.hid ((Below.refl w.heap.size w).trans (hb1.mono (by first | assumption | (simp <;> omega) | (simp; done)))) | exact Lib.hid (((Below.refl w.heap.size w).alloc (Nat.le_refl _) _).trans (hb1.mono (by first | assumption | (simp <;> omega) | (simp; done)))) | exact Lib.hid ((((Below.refl w.heap.size w).alloc (Nat.le_refl _) _).alloc (by simp <;> omega) _).trans (hb1.mono (by first | assumption | (simp <;> omega) | (simp; done)))) | exact Lib.hid (((((Below.refl w.heap.size w).alloc (Nat.le_refl _) _).alloc (by simp <;> omega) _).alloc (by simp <;> omega) _).trans (hb1.mono (by first | assumption | (simp <;> omega) | (simp; done))))
  clear hb1
  go_simp
  go_wp2_with fail
  refine (H2.out _).mono ?_
  rintro e V2 ⟨rfl, hb2⟩
  have B2 : Hid (Below w.heap.size w V2) := by first | exact Lib.hid ((B1.out).trans (hb2.mono (by have := B1.out.size; first | assumption | (simp <;> omega) | (simp; done)))) | exact Lib.hid (((B1.out).alloc (B1.out.size) _).trans (hb2.mono (by have := B1.out.size; first | assumption | (simp <;> omega) | (simp; done)))) | exact Lib.hid ((((B1.out).alloc (B1.out.size) _).alloc (by have := B1.out.size; simp <;> omega) _).trans (hb2.mono (by have := B1.out.size; first | assumption | (simp <;> omega) | (simp; done)))) | exact Lib.hid (((((B1.out).alloc (B1.out.size) _).alloc (by have := B1.out.size; simp <;> omega) _).alloc (by have := B1.out.size; simp <;> omega) _).trans (hb2.mono (by have := B1.out.size; first | assumption | (simp <;> omega) | (simp; done))))
  clear hb2
  go_simp
  go_wp2_with fail
  refine (H3.out _).mono ?_
  rintro e V3 ⟨rfl, hb3⟩
  have B3 : Hid (Below w.heap.size w V3) := by first | exact Lib.hid ((B2.out).trans (hb3.mono (by have := B2.out.size; first | assumption | (simp <;> omega) | (simp; done)))) | exact Lib.hid (((B2.out).alloc (B2.out.size) _).trans (hb3.mono (by have := B2.out.size; first | assumption | (simp <;> omega) | (simp; done)))) | exact Lib.hid ((((B2.out).alloc (B2.out.size) _).alloc (by have := B2.out.size; simp <;> omega) _).trans (hb3.mono (by have := B2.out.size; first | assumption | (simp <;> omega) | (simp; done)))) | exact Lib.hid (((((B2.out).alloc (B2.out.size) _).alloc (by have := B2.out.size; simp <;> omega) _).alloc (by have := B2.out.size; simp <;> omega) _).trans (hb3.mono (by have := B2.out.size; first | assumption | (simp <;> omega) | (simp; done))))
  clear hb3
  go_simp
  go_wp2_with fail
  refine (H4.out _).mono ?_
  rintro e V4 ⟨rfl, hb4⟩
  have B4 : Hid (Below w.heap.size w V4) := by first | exact Lib.hid ((B3.out).trans (hb4.mono (by have := B3.out.size; first | assumption | (simp <;> omega) | (simp; done)))) | exact Lib.hid (((B3.out).alloc (B3.out.size) _).trans (hb4.mono (by have := B3.out.size; first | assumption | (simp <;> omega) | (simp; done)))) | exact Lib.hid ((((B3.out).alloc (B3.out.size) _).alloc (by have := B3.out.size; simp <;> omega) _).trans (hb4.mono (by have := B3.out.size; first | assumption | (simp <;> omega) | (simp; done)))) | exact Lib.hid (((((B3.out).alloc (B3.out.size) _).alloc (by have := B3.out.size; simp <;> omega) _).alloc (by have := B3.out.size; simp <;> omega) _).trans (hb4.mono (by have := B3.out.size; first | assumption | (simp <;> omega) | (simp; done))))
  clear hb4
  go_simp
  go_wp2
  go_ret2
  exact ⟨rfl, by first | exact B4.out | exact B4.out.alloc B4.out.size _⟩
theorem zcNeg_any (a : Int) (ba : in64 a) (w : World) : Calls Try.prog 26 #[.int .i64 a] w fun e w' => e = .returned (.tuple #[.int .i64 (iV (-a)), .int .i64 (iE (-a))]) ∧ Below w.heap.size w w' := by
  have H1 := zcSub_any 0 a (by unfold in64; omega) ba
  rw [Int.zero_sub] at H1
  replace H1 := Lib.hid H1
  clear ba
  generalize -a = s at *
  go_enter Try.func26, Try.ntmps26
  go_wp2_with fail
  
  refine (H1.out _).mono ?_
  rintro e V1 ⟨rfl, hb1⟩
  have B1 : Hid (Below w.heap.size w V1) := by first | exact Lib.hid ((Below.refl w.heap.size w).trans (hb1.mono (by first | assumption | (simp <;> omega) | (simp; done)))) | exact Lib.hid (((Below.refl w.heap.size w).alloc (Nat.le_refl _) _).trans (hb1.mono (by first | assumption | (simp <;> omega) | (simp; done)))) | exact Lib.hid ((((Below.refl w.heap.size w).alloc (Nat.le_refl _) _).alloc (by simp <;> omega) _).trans (hb1.mono (by first | assumption | (simp <;> omega) | (simp; done)))) | exact Lib.hid (((((Below.refl w.heap.size w).alloc (Nat.le_refl _) _).alloc (by simp <;> omega) _).alloc (by simp <;> omega) _).trans (hb1.mono (by first | assumption | (simp <;> omega) | (simp; done))))
  clear hb1
  go_simp
  go_wp2
  go_ret2
  exact ⟨rfl, by first | exact B1.out | exact B1.out.alloc B1.out.size _⟩
end Go.Proofs.Ythlbmeemdhofpaa
/- Contracts of package checked's product, and of the plain answer's. -/
namespace Go.Proofs.Ythlbmeemdhofpaa
set_option linter.unusedVariables false
set_option linter.unusedSimpArgs false
open Go.ChangeShapes Go.WideShapes Go.ChangeAt Go.RowKit

theorem natAbs_U {n : Int} (b : in64 n) : U n.natAbs := by unfold in64 at b; unfold U; omega
theorem zAmt_any (n : Int) (b : in64 n) (w : World) : Calls Try.prog 37 #[.int .i64 n] w fun e w' => e = .returned (.int .u64 n.natAbs) ∧ Below w.heap.size w w' := by
  obtain ⟨m, Em⟩ : ∃ m, Hid (m = n.natAbs) := ⟨_, rfl⟩
  rw [← Em.out]
  by_cases h : n < 0
  · obtain ⟨x, Ex⟩ : ∃ x, Hid (x = ofL n) := ⟨_, rfl⟩
    have f1 : IntKind.u64.wrap n = (x : Int) := by rw [Ex.out]; exact wrap_ofL n
    have f2 : IntKind.u64.wrap (-(x : Int)) = (m : Int) := by
      rw [Ex.out, Em.out, IntKind.wrap_u64]; unfold ofL; unfold in64 at b; omega
    clear b
    go_enter Try.func37, Try.ntmps37
    go_wp2
    go_ret
    exact ⟨rfl, Below.refl _ _⟩
  · have f1 : IntKind.u64.wrap n = (m : Int) := by
      rw [Em.out, IntKind.wrap_u64]; unfold in64 at b; omega
    clear b
    go_enter Try.func37, Try.ntmps37
    go_wp2
    go_ret
    exact ⟨rfl, Below.refl _ _⟩
theorem rAmt_any (n : Int) (b : in64 n) (w : World) : Calls Try.prog 45 #[.int .i64 n] w fun e w' => e = .returned (.int .u64 n.natAbs) ∧ Below w.heap.size w w' := by
  obtain ⟨m, Em⟩ : ∃ m, Hid (m = n.natAbs) := ⟨_, rfl⟩
  rw [← Em.out]
  by_cases h : n < 0
  · obtain ⟨x, Ex⟩ : ∃ x, Hid (x = ofL n) := ⟨_, rfl⟩
    have f1 : IntKind.u64.wrap n = (x : Int) := by rw [Ex.out]; exact wrap_ofL n
    have f2 : IntKind.u64.wrap (-(x : Int)) = (m : Int) := by
      rw [Ex.out, Em.out, IntKind.wrap_u64]; unfold ofL; unfold in64 at b; omega
    clear b
    go_enter Try.func45, Try.ntmps45
    go_wp2
    go_ret
    exact ⟨rfl, Below.refl _ _⟩
  · have f1 : IntKind.u64.wrap n = (m : Int) := by
      rw [Em.out, IntKind.wrap_u64]; unfold in64 at b; omega
    clear b
    go_enter Try.func45, Try.ntmps45
    go_wp2
    go_ret
    exact ⟨rfl, Below.refl _ _⟩
theorem abs_mul_U {a b : Int} (ba : in64 a) (bb : in64 b) : in128 (a * b) := by
  have h1 : a.natAbs * b.natAbs ≤ 9223372036854775808 * 9223372036854775808 := by
    unfold in64 at ba bb
    exact Nat.mul_le_mul (by omega) (by omega)
  have h2 : (a * b).natAbs = a.natAbs * b.natAbs := Int.natAbs_mul a b
  unfold in128
  omega
theorem mul_same {a b : Int} (h : decide (a < 0) = decide (b < 0)) : ((a.natAbs * b.natAbs : Nat) : Int) = a * b := by
  have h2 : (a * b).natAbs = a.natAbs * b.natAbs := Int.natAbs_mul a b
  rw [← h2]
  have h3 : 0 ≤ a * b := by
    rw [decide_eq_decide] at h
    by_cases h1 : a < 0
    · exact Int.mul_nonneg_of_nonpos_of_nonpos (by omega) (by omega)
    · exact Int.mul_nonneg (by omega) (by omega)
  omega
theorem mul_diff {a b : Int} (h : decide (a < 0) = !decide (b < 0)) : -((a.natAbs * b.natAbs : Nat) : Int) = a * b := by
  have h2 : (a * b).natAbs = a.natAbs * b.natAbs := Int.natAbs_mul a b
  rw [← h2]
  have h3 : a * b ≤ 0 := by
    by_cases h1 : a < 0 <;> by_cases h4 : b < 0
    · rw [decide_eq_true h1, decide_eq_true h4] at h; cases h
    · exact Int.mul_nonpos_of_nonpos_of_nonneg (by omega) (by omega)
    · exact Int.mul_nonpos_of_nonneg_of_nonpos (by omega) (by omega)
    · rw [decide_eq_false h1, decide_eq_false h4] at h; cases h
  omega
theorem zsame (a b : Int) (ba : in64 a) (bb : in64 b) (h : decide (a < 0) = decide (b < 0)) (w : World) : Calls Try.prog 36 #[.int .u64 a.natAbs, .int .u64 b.natAbs] w fun e w' => e = .returned (.agg #[.int .u64 (zh (a * b)), .int .u64 (zl (a * b))]) ∧ Below w.heap.size w w' := by
  have x := zMul_any a.natAbs b.natAbs (natAbs_U ba) (natAbs_U bb) w
  rw [mul_same h] at x
  exact x
theorem rsame (a b : Int) (ba : in64 a) (bb : in64 b) (h : decide (a < 0) = decide (b < 0)) (w : World) : Calls Try.prog 44 #[.int .u64 a.natAbs, .int .u64 b.natAbs] w fun e w' => e = .returned (.agg #[.int .u64 (zh (a * b)), .int .u64 (zl (a * b))]) ∧ Below w.heap.size w w' := by
  have x := rMul_any a.natAbs b.natAbs (natAbs_U ba) (natAbs_U bb) w
  rw [mul_same h] at x
  exact x
set_option maxHeartbeats 1600000 in
set_option maxRecDepth 100000 in
theorem zcMul_same (a b : Int) (ba : in64 a) (bb : in64 b) (h : decide (a < 0) = decide (b < 0)) (w : World) : Calls Try.prog 31 #[.int .i64 a, .int .i64 b] w fun e w' => e = .returned (.tuple #[.int .i64 (iV (a * b)), .int .i64 (iE (a * b))]) ∧ Below w.heap.size w w' := by
  have H1 := Lib.hid (zAmt_any a ba)
  have H2 := Lib.hid (zAmt_any b bb)
  have H3 := Lib.hid (zsame a b ba bb h)
  have H4 := Lib.hid (zInt_any (a * b) (abs_mul_U ba bb))
  clear ba bb
  generalize a.natAbs = m at *
  generalize b.natAbs = n at *
  generalize a * b = s at *
  have e : (decide (a < 0) == decide (b < 0)) = true := by rw [h]; cases decide (b < 0) <;> rfl
  clear h
  go_enter Try.func31, Try.ntmps31
  go_wp2_with fail
  
  refine (H1.out _).mono ?_
  rintro e V1 ⟨rfl, hb1⟩
  have B1 : Hid (Below w.heap.size w V1) := by first | exact Lib.hid ((Below.refl w.heap.size w).trans (hb1.mono (by first | assumption | (simp <;> omega) | (simp; done)))) | exact Lib.hid (((Below.refl w.heap.size w).alloc (Nat.le_refl _) _).trans (hb1.mono (by first | assumption | (simp <;> omega) | (simp; done)))) | exact Lib.hid ((((Below.refl w.heap.size w).alloc (Nat.le_refl _) _).alloc (by simp <;> omega) _).trans (hb1.mono (by first | assumption | (simp <;> omega) | (simp; done)))) | exact Lib.hid (((((Below.refl w.heap.size w).alloc (Nat.le_refl _) _).alloc (by simp <;> omega) _).alloc (by simp <;> omega) _).trans (hb1.mono (by first | assumption | (simp <;> omega) | (simp; done))))
  clear hb1
  go_simp
  go_wp2_with fail
  refine (H2.out _).mono ?_
  rintro e V2 ⟨rfl, hb2⟩
  have B2 : Hid (Below w.heap.size w V2) := by first | exact Lib.hid ((B1.out).trans (hb2.mono (by have := B1.out.size; first | assumption | (simp <;> omega) | (simp; done)))) | exact Lib.hid (((B1.out).alloc (B1.out.size) _).trans (hb2.mono (by have := B1.out.size; first | assumption | (simp <;> omega) | (simp; done)))) | exact Lib.hid ((((B1.out).alloc (B1.out.size) _).alloc (by have := B1.out.size; simp <;> omega) _).trans (hb2.mono (by have := B1.out.size; first | assumption | (simp <;> omega) | (simp; done)))) | exact Lib.hid (((((B1.out).alloc (B1.out.size) _).alloc (by have := B1.out.size; simp <;> omega) _).alloc (by have := B1.out.size; simp <;> omega) _).trans (hb2.mono (by have := B1.out.size; first | assumption | (simp <;> omega) | (simp; done))))
  clear hb2
  go_simp
  go_wp2_with fail
  refine (H3.out _).mono ?_
  rintro e V3 ⟨rfl, hb3⟩
  have B3 : Hid (Below w.heap.size w V3) := by first | exact Lib.hid ((B2.out).trans (hb3.mono (by have := B2.out.size; first | assumption | (simp <;> omega) | (simp; done)))) | exact Lib.hid (((B2.out).alloc (B2.out.size) _).trans (hb3.mono (by have := B2.out.size; first | assumption | (simp <;> omega) | (simp; done)))) | exact Lib.hid ((((B2.out).alloc (B2.out.size) _).alloc (by have := B2.out.size; simp <;> omega) _).trans (hb3.mono (by have := B2.out.size; first | assumption | (simp <;> omega) | (simp; done)))) | exact Lib.hid (((((B2.out).alloc (B2.out.size) _).alloc (by have := B2.out.size; simp <;> omega) _).alloc (by have := B2.out.size; simp <;> omega) _).trans (hb3.mono (by have := B2.out.size; first | assumption | (simp <;> omega) | (simp; done))))
  clear hb3
  go_simp
  go_wp2_with fail
  refine (H4.out _).mono ?_
  rintro e V4 ⟨rfl, hb4⟩
  have B4 : Hid (Below w.heap.size w V4) := by first | exact Lib.hid ((B3.out).trans (hb4.mono (by have := B3.out.size; first | assumption | (simp <;> omega) | (simp; done)))) | exact Lib.hid (((B3.out).alloc (B3.out.size) _).trans (hb4.mono (by have := B3.out.size; first | assumption | (simp <;> omega) | (simp; done)))) | exact Lib.hid ((((B3.out).alloc (B3.out.size) _).alloc (by have := B3.out.size; simp <;> omega) _).trans (hb4.mono (by have := B3.out.size; first | assumption | (simp <;> omega) | (simp; done)))) | exact Lib.hid (((((B3.out).alloc (B3.out.size) _).alloc (by have := B3.out.size; simp <;> omega) _).alloc (by have := B3.out.size; simp <;> omega) _).trans (hb4.mono (by have := B3.out.size; first | assumption | (simp <;> omega) | (simp; done))))
  clear hb4
  go_simp
  go_wp2
  go_ret2
  exact ⟨rfl, by first | exact B4.out | exact B4.out.alloc B4.out.size _⟩
set_option maxHeartbeats 1600000 in
set_option maxRecDepth 100000 in
theorem zcMul_diff (a b : Int) (ba : in64 a) (bb : in64 b) (h : decide (a < 0) = !decide (b < 0)) (w : World) : Calls Try.prog 31 #[.int .i64 a, .int .i64 b] w fun e w' => e = .returned (.tuple #[.int .i64 (iV (a * b)), .int .i64 (iE (a * b))]) ∧ Below w.heap.size w w' := by
  have H1 := Lib.hid (zAmt_any a ba)
  have H2 := Lib.hid (zAmt_any b bb)
  have H3 := Lib.hid (zMul_any a.natAbs b.natAbs (natAbs_U ba) (natAbs_U bb))
  have X5 := zNeg_any ((a.natAbs * b.natAbs : Nat) : Int)
  rw [mul_diff h] at X5
  have H5 := Lib.hid X5
  have H4 := Lib.hid (zInt_any (a * b) (abs_mul_U ba bb))
  clear ba bb X5
  generalize ((a.natAbs * b.natAbs : Nat) : Int) = t at *
  generalize a.natAbs = m at *
  generalize b.natAbs = n at *
  generalize a * b = s at *
  have e : (decide (a < 0) == decide (b < 0)) = false := by rw [h]; cases decide (b < 0) <;> rfl
  clear h
  go_enter Try.func31, Try.ntmps31
  go_wp2_with fail
  
  refine (H1.out _).mono ?_
  rintro e V1 ⟨rfl, hb1⟩
  have B1 : Hid (Below w.heap.size w V1) := by first | exact Lib.hid ((Below.refl w.heap.size w).trans (hb1.mono (by first | assumption | (simp <;> omega) | (simp; done)))) | exact Lib.hid (((Below.refl w.heap.size w).alloc (Nat.le_refl _) _).trans (hb1.mono (by first | assumption | (simp <;> omega) | (simp; done)))) | exact Lib.hid ((((Below.refl w.heap.size w).alloc (Nat.le_refl _) _).alloc (by simp <;> omega) _).trans (hb1.mono (by first | assumption | (simp <;> omega) | (simp; done)))) | exact Lib.hid (((((Below.refl w.heap.size w).alloc (Nat.le_refl _) _).alloc (by simp <;> omega) _).alloc (by simp <;> omega) _).trans (hb1.mono (by first | assumption | (simp <;> omega) | (simp; done))))
  clear hb1
  go_simp
  go_wp2_with fail
  refine (H2.out _).mono ?_
  rintro e V2 ⟨rfl, hb2⟩
  have B2 : Hid (Below w.heap.size w V2) := by first | exact Lib.hid ((B1.out).trans (hb2.mono (by have := B1.out.size; first | assumption | (simp <;> omega) | (simp; done)))) | exact Lib.hid (((B1.out).alloc (B1.out.size) _).trans (hb2.mono (by have := B1.out.size; first | assumption | (simp <;> omega) | (simp; done)))) | exact Lib.hid ((((B1.out).alloc (B1.out.size) _).alloc (by have := B1.out.size; simp <;> omega) _).trans (hb2.mono (by have := B1.out.size; first | assumption | (simp <;> omega) | (simp; done)))) | exact Lib.hid (((((B1.out).alloc (B1.out.size) _).alloc (by have := B1.out.size; simp <;> omega) _).alloc (by have := B1.out.size; simp <;> omega) _).trans (hb2.mono (by have := B1.out.size; first | assumption | (simp <;> omega) | (simp; done))))
  clear hb2
  go_simp
  go_wp2_with fail
  refine (H3.out _).mono ?_
  rintro e V3 ⟨rfl, hb3⟩
  have B3 : Hid (Below w.heap.size w V3) := by first | exact Lib.hid ((B2.out).trans (hb3.mono (by have := B2.out.size; first | assumption | (simp <;> omega) | (simp; done)))) | exact Lib.hid (((B2.out).alloc (B2.out.size) _).trans (hb3.mono (by have := B2.out.size; first | assumption | (simp <;> omega) | (simp; done)))) | exact Lib.hid ((((B2.out).alloc (B2.out.size) _).alloc (by have := B2.out.size; simp <;> omega) _).trans (hb3.mono (by have := B2.out.size; first | assumption | (simp <;> omega) | (simp; done)))) | exact Lib.hid (((((B2.out).alloc (B2.out.size) _).alloc (by have := B2.out.size; simp <;> omega) _).alloc (by have := B2.out.size; simp <;> omega) _).trans (hb3.mono (by have := B2.out.size; first | assumption | (simp <;> omega) | (simp; done))))
  clear hb3
  go_simp
  go_wp2_with fail
  refine (H5.out _).mono ?_
  rintro e V4 ⟨rfl, hb4⟩
  have B4 := Lib.hid (((B3.out).alloc (B3.out.size) _).trans (hb4.mono (by have := B3.out.size; first | assumption | (simp <;> omega) | (simp; done))))
  have P1 := Lib.hid (row_call hb4 (heap_alloc_new _ _))
  clear hb4
  have P1_0 : V4.cell? ⟨V3.heap.size, 0, none⟩ = some (.int .u64 (zh t)) := cell_of_row _ _ _ _ _ _ P1.out
  have P1_1 : V4.cell? ⟨V3.heap.size, 1, none⟩ = some (.int .u64 (zl t)) := cell_of_row _ _ _ _ _ _ P1.out
  have P1_f0 : V4.frozen? ⟨V3.heap.size, 0, none⟩ = false := by simp [World.frozen?, P1.out]
  have P1_f1 : V4.frozen? ⟨V3.heap.size, 1, none⟩ = false := by simp [World.frozen?, P1.out]
  have zP1 := lt_of_heap P1.out
  go_simp
  go_wp2_with fail
  refine (H4.out _).mono ?_
  rintro e V5 ⟨rfl, hb5⟩
  have B5 := Lib.hid ((keep2 B4.out B3.out.size _ _).trans (hb5.mono (by have := B4.out.size; simp; omega)))
  clear hb5
  go_simp
  go_wp2
  go_ret2
  exact ⟨rfl, B5.out⟩
theorem zcMul_any (a b : Int) (ba : in64 a) (bb : in64 b) (w : World) : Calls Try.prog 31 #[.int .i64 a, .int .i64 b] w fun e w' => e = .returned (.tuple #[.int .i64 (iV (a * b)), .int .i64 (iE (a * b))]) ∧ Below w.heap.size w w' := by
  by_cases h : decide (a < 0) = decide (b < 0)
  · exact zcMul_same a b ba bb h w
  · exact zcMul_diff a b ba bb (by revert h; cases decide (a < 0) <;> cases decide (b < 0) <;> simp) w
set_option maxHeartbeats 1600000 in
set_option maxRecDepth 100000 in
theorem rTimes_same (a b : Int) (ba : in64 a) (bb : in64 b) (h : decide (a < 0) = decide (b < 0)) (w : World) : Calls Try.prog 35 #[.int .i64 a, .int .i64 b] w fun e w' => e = .returned (.agg #[.int .u64 (zh (a * b)), .int .u64 (zl (a * b))]) ∧ Below w.heap.size w w' := by
  have H1 := Lib.hid (rAmt_any a ba)
  have H2 := Lib.hid (rAmt_any b bb)
  have H3 := Lib.hid (rsame a b ba bb h)
  clear ba bb
  generalize a.natAbs = m at *
  generalize b.natAbs = n at *
  generalize a * b = s at *
  have e : (decide (a < 0) == decide (b < 0)) = true := by rw [h]; cases decide (b < 0) <;> rfl
  clear h
  go_enter Try.func35, Try.ntmps35
  refine wp_shut ?_
  go_wp2_with fail
  
  refine (H1.out _).mono ?_
  rintro e V1 ⟨rfl, hb1⟩
  have B1 := Lib.hid (((Below.refl w.heap.size w).alloc (Nat.le_refl _) _).trans (hb1.mono (by first | assumption | (simp <;> omega) | (simp; done))))
  have Z1 := Lib.hid (row_call hb1 (heap_alloc_new _ _))
  clear hb1
  have Z1_0 : V1.cell? ⟨w.heap.size, 0, none⟩ = some (.int .u64 0) := cell_of_row _ _ _ _ _ _ Z1.out
  have Z1_1 : V1.cell? ⟨w.heap.size, 1, none⟩ = some (.int .u64 0) := cell_of_row _ _ _ _ _ _ Z1.out
  have Z1_f0 : V1.frozen? ⟨w.heap.size, 0, none⟩ = false := by simp [World.frozen?, Z1.out]
  have Z1_f1 : V1.frozen? ⟨w.heap.size, 1, none⟩ = false := by simp [World.frozen?, Z1.out]
  have zZ1 := lt_of_heap Z1.out
  go_simp
  go_wp2_with fail
  refine (H2.out _).mono ?_
  rintro e V2 ⟨rfl, hb2⟩
  clear Z1_0 Z1_1 Z1_f0 Z1_f1 zZ1
  have B2 : Hid (Below w.heap.size w V2) := by first | exact Lib.hid ((B1.out).trans (hb2.mono (by have := B1.out.size; first | assumption | (simp <;> omega) | (simp; done)))) | exact Lib.hid (((B1.out).alloc (B1.out.size) _).trans (hb2.mono (by have := B1.out.size; first | assumption | (simp <;> omega) | (simp; done)))) | exact Lib.hid ((((B1.out).alloc (B1.out.size) _).alloc (by have := B1.out.size; simp <;> omega) _).trans (hb2.mono (by have := B1.out.size; first | assumption | (simp <;> omega) | (simp; done)))) | exact Lib.hid (((((B1.out).alloc (B1.out.size) _).alloc (by have := B1.out.size; simp <;> omega) _).alloc (by have := B1.out.size; simp <;> omega) _).trans (hb2.mono (by have := B1.out.size; first | assumption | (simp <;> omega) | (simp; done))))
  first | replace Z1 := Lib.hid (row_call hb2 Z1.out) | replace Z1 := Lib.hid (row_call hb2 (row_alloc Z1.out _)) | replace Z1 := Lib.hid (row_call hb2 (row_alloc (row_alloc Z1.out _) _)) | replace Z1 := Lib.hid (row_call hb2 (row_alloc (row_alloc (row_alloc Z1.out _) _) _))
  clear hb2
  have Z1_0 : V2.cell? ⟨w.heap.size, 0, none⟩ = some (.int .u64 0) := cell_of_row _ _ _ _ _ _ Z1.out
  have Z1_1 : V2.cell? ⟨w.heap.size, 1, none⟩ = some (.int .u64 0) := cell_of_row _ _ _ _ _ _ Z1.out
  have Z1_f0 : V2.frozen? ⟨w.heap.size, 0, none⟩ = false := by simp [World.frozen?, Z1.out]
  have Z1_f1 : V2.frozen? ⟨w.heap.size, 1, none⟩ = false := by simp [World.frozen?, Z1.out]
  have zZ1 := lt_of_heap Z1.out
  go_simp
  go_wp2_with fail
  refine (H3.out _).mono ?_
  rintro e V3 ⟨rfl, hb3⟩
  clear Z1_0 Z1_1 Z1_f0 Z1_f1 zZ1
  have B3 : Hid (Below w.heap.size w V3) := by first | exact Lib.hid ((B2.out).trans (hb3.mono (by have := B2.out.size; first | assumption | (simp <;> omega) | (simp; done)))) | exact Lib.hid (((B2.out).alloc (B2.out.size) _).trans (hb3.mono (by have := B2.out.size; first | assumption | (simp <;> omega) | (simp; done)))) | exact Lib.hid ((((B2.out).alloc (B2.out.size) _).alloc (by have := B2.out.size; simp <;> omega) _).trans (hb3.mono (by have := B2.out.size; first | assumption | (simp <;> omega) | (simp; done)))) | exact Lib.hid (((((B2.out).alloc (B2.out.size) _).alloc (by have := B2.out.size; simp <;> omega) _).alloc (by have := B2.out.size; simp <;> omega) _).trans (hb3.mono (by have := B2.out.size; first | assumption | (simp <;> omega) | (simp; done))))
  first | replace Z1 := Lib.hid (row_call hb3 Z1.out) | replace Z1 := Lib.hid (row_call hb3 (row_alloc Z1.out _)) | replace Z1 := Lib.hid (row_call hb3 (row_alloc (row_alloc Z1.out _) _)) | replace Z1 := Lib.hid (row_call hb3 (row_alloc (row_alloc (row_alloc Z1.out _) _) _))
  clear hb3
  have Z1_0 : V3.cell? ⟨w.heap.size, 0, none⟩ = some (.int .u64 0) := cell_of_row _ _ _ _ _ _ Z1.out
  have Z1_1 : V3.cell? ⟨w.heap.size, 1, none⟩ = some (.int .u64 0) := cell_of_row _ _ _ _ _ _ Z1.out
  have Z1_f0 : V3.frozen? ⟨w.heap.size, 0, none⟩ = false := by simp [World.frozen?, Z1.out]
  have Z1_f1 : V3.frozen? ⟨w.heap.size, 1, none⟩ = false := by simp [World.frozen?, Z1.out]
  have zZ1 := lt_of_heap Z1.out
  go_simp
  go_wp2
  refine shut_ret (v := .agg #[.int .u64 (zh s), .int .u64 (zl s)]) (by simp [results, Try.results35, go_sem, zZ1, Z1_0, Z1_1]) rfl ⟨rfl, ?_⟩
  exact (keep2 B3.out (Nat.le_refl _) _ _).alloc (by have := B3.out.size; simp; omega) _
set_option maxHeartbeats 1600000 in
set_option maxRecDepth 100000 in
theorem rTimes_diff (a b : Int) (ba : in64 a) (bb : in64 b) (h : decide (a < 0) = !decide (b < 0)) (w : World) : Calls Try.prog 35 #[.int .i64 a, .int .i64 b] w fun e w' => e = .returned (.agg #[.int .u64 (zh (a * b)), .int .u64 (zl (a * b))]) ∧ Below w.heap.size w w' := by
  have H1 := Lib.hid (rAmt_any a ba)
  have H2 := Lib.hid (rAmt_any b bb)
  have H3 := Lib.hid (rMul_any a.natAbs b.natAbs (natAbs_U ba) (natAbs_U bb))
  have X5 := rNeg_any ((a.natAbs * b.natAbs : Nat) : Int)
  rw [mul_diff h] at X5
  have H5 := Lib.hid X5
  clear ba bb X5
  generalize ((a.natAbs * b.natAbs : Nat) : Int) = t at *
  generalize a.natAbs = m at *
  generalize b.natAbs = n at *
  generalize a * b = s at *
  have e : (decide (a < 0) == decide (b < 0)) = false := by rw [h]; cases decide (b < 0) <;> rfl
  clear h
  go_enter Try.func35, Try.ntmps35
  refine wp_shut ?_
  go_wp2_with fail
  
  refine (H1.out _).mono ?_
  rintro e V1 ⟨rfl, hb1⟩
  have B1 := Lib.hid (((Below.refl w.heap.size w).alloc (Nat.le_refl _) _).trans (hb1.mono (by first | assumption | (simp <;> omega) | (simp; done))))
  have Z1 := Lib.hid (row_call hb1 (heap_alloc_new _ _))
  clear hb1
  have Z1_0 : V1.cell? ⟨w.heap.size, 0, none⟩ = some (.int .u64 0) := cell_of_row _ _ _ _ _ _ Z1.out
  have Z1_1 : V1.cell? ⟨w.heap.size, 1, none⟩ = some (.int .u64 0) := cell_of_row _ _ _ _ _ _ Z1.out
  have Z1_f0 : V1.frozen? ⟨w.heap.size, 0, none⟩ = false := by simp [World.frozen?, Z1.out]
  have Z1_f1 : V1.frozen? ⟨w.heap.size, 1, none⟩ = false := by simp [World.frozen?, Z1.out]
  have zZ1 := lt_of_heap Z1.out
  go_simp
  go_wp2_with fail
  refine (H2.out _).mono ?_
  rintro e V2 ⟨rfl, hb2⟩
  clear Z1_0 Z1_1 Z1_f0 Z1_f1 zZ1
  have B2 : Hid (Below w.heap.size w V2) := by first | exact Lib.hid ((B1.out).trans (hb2.mono (by have := B1.out.size; first | assumption | (simp <;> omega) | (simp; done)))) | exact Lib.hid (((B1.out).alloc (B1.out.size) _).trans (hb2.mono (by have := B1.out.size; first | assumption | (simp <;> omega) | (simp; done)))) | exact Lib.hid ((((B1.out).alloc (B1.out.size) _).alloc (by have := B1.out.size; simp <;> omega) _).trans (hb2.mono (by have := B1.out.size; first | assumption | (simp <;> omega) | (simp; done)))) | exact Lib.hid (((((B1.out).alloc (B1.out.size) _).alloc (by have := B1.out.size; simp <;> omega) _).alloc (by have := B1.out.size; simp <;> omega) _).trans (hb2.mono (by have := B1.out.size; first | assumption | (simp <;> omega) | (simp; done))))
  first | replace Z1 := Lib.hid (row_call hb2 Z1.out) | replace Z1 := Lib.hid (row_call hb2 (row_alloc Z1.out _)) | replace Z1 := Lib.hid (row_call hb2 (row_alloc (row_alloc Z1.out _) _)) | replace Z1 := Lib.hid (row_call hb2 (row_alloc (row_alloc (row_alloc Z1.out _) _) _))
  clear hb2
  have Z1_0 : V2.cell? ⟨w.heap.size, 0, none⟩ = some (.int .u64 0) := cell_of_row _ _ _ _ _ _ Z1.out
  have Z1_1 : V2.cell? ⟨w.heap.size, 1, none⟩ = some (.int .u64 0) := cell_of_row _ _ _ _ _ _ Z1.out
  have Z1_f0 : V2.frozen? ⟨w.heap.size, 0, none⟩ = false := by simp [World.frozen?, Z1.out]
  have Z1_f1 : V2.frozen? ⟨w.heap.size, 1, none⟩ = false := by simp [World.frozen?, Z1.out]
  have zZ1 := lt_of_heap Z1.out
  go_simp
  go_wp2_with fail
  refine (H3.out _).mono ?_
  rintro e V3 ⟨rfl, hb3⟩
  clear Z1_0 Z1_1 Z1_f0 Z1_f1 zZ1
  have B3 : Hid (Below w.heap.size w V3) := by first | exact Lib.hid ((B2.out).trans (hb3.mono (by have := B2.out.size; first | assumption | (simp <;> omega) | (simp; done)))) | exact Lib.hid (((B2.out).alloc (B2.out.size) _).trans (hb3.mono (by have := B2.out.size; first | assumption | (simp <;> omega) | (simp; done)))) | exact Lib.hid ((((B2.out).alloc (B2.out.size) _).alloc (by have := B2.out.size; simp <;> omega) _).trans (hb3.mono (by have := B2.out.size; first | assumption | (simp <;> omega) | (simp; done)))) | exact Lib.hid (((((B2.out).alloc (B2.out.size) _).alloc (by have := B2.out.size; simp <;> omega) _).alloc (by have := B2.out.size; simp <;> omega) _).trans (hb3.mono (by have := B2.out.size; first | assumption | (simp <;> omega) | (simp; done))))
  first | replace Z1 := Lib.hid (row_call hb3 Z1.out) | replace Z1 := Lib.hid (row_call hb3 (row_alloc Z1.out _)) | replace Z1 := Lib.hid (row_call hb3 (row_alloc (row_alloc Z1.out _) _)) | replace Z1 := Lib.hid (row_call hb3 (row_alloc (row_alloc (row_alloc Z1.out _) _) _))
  clear hb3
  have Z1_0 : V3.cell? ⟨w.heap.size, 0, none⟩ = some (.int .u64 0) := cell_of_row _ _ _ _ _ _ Z1.out
  have Z1_1 : V3.cell? ⟨w.heap.size, 1, none⟩ = some (.int .u64 0) := cell_of_row _ _ _ _ _ _ Z1.out
  have Z1_f0 : V3.frozen? ⟨w.heap.size, 0, none⟩ = false := by simp [World.frozen?, Z1.out]
  have Z1_f1 : V3.frozen? ⟨w.heap.size, 1, none⟩ = false := by simp [World.frozen?, Z1.out]
  have zZ1 := lt_of_heap Z1.out
  go_simp
  go_wp2_with fail
  refine (H5.out _).mono ?_
  rintro e V4 ⟨rfl, hb4⟩
  clear Z1_0 Z1_1 Z1_f0 Z1_f1 zZ1
  have nZ1P1 := Lib.hid (lt_of_heap Z1.out)
  have nlZ1P1 : ¬ (w.heap.size = V3.heap.size) := Nat.ne_of_lt (lt_of_heap Z1.out)
  have nrZ1P1 : ¬ (V3.heap.size = w.heap.size) := Ne.symm (Nat.ne_of_lt (lt_of_heap Z1.out))
  have B4 := Lib.hid (((B3.out).alloc (B3.out.size) _).trans (hb4.mono (by have := B3.out.size; first | assumption | (simp <;> omega) | (simp; done))))
  replace Z1 := Lib.hid (row_call hb4 (row_alloc Z1.out _))
  have P1 := Lib.hid (row_call hb4 (heap_alloc_new _ _))
  clear hb4
  have Z1_0 : V4.cell? ⟨w.heap.size, 0, none⟩ = some (.int .u64 0) := cell_of_row _ _ _ _ _ _ Z1.out
  have Z1_1 : V4.cell? ⟨w.heap.size, 1, none⟩ = some (.int .u64 0) := cell_of_row _ _ _ _ _ _ Z1.out
  have Z1_f0 : V4.frozen? ⟨w.heap.size, 0, none⟩ = false := by simp [World.frozen?, Z1.out]
  have Z1_f1 : V4.frozen? ⟨w.heap.size, 1, none⟩ = false := by simp [World.frozen?, Z1.out]
  have P1_0 : V4.cell? ⟨V3.heap.size, 0, none⟩ = some (.int .u64 (zh t)) := cell_of_row _ _ _ _ _ _ P1.out
  have P1_1 : V4.cell? ⟨V3.heap.size, 1, none⟩ = some (.int .u64 (zl t)) := cell_of_row _ _ _ _ _ _ P1.out
  have P1_f0 : V4.frozen? ⟨V3.heap.size, 0, none⟩ = false := by simp [World.frozen?, P1.out]
  have P1_f1 : V4.frozen? ⟨V3.heap.size, 1, none⟩ = false := by simp [World.frozen?, P1.out]
  have zZ1 := lt_of_heap Z1.out
  have zP1 := lt_of_heap P1.out
  go_simp
  go_wp2
  refine shut_ret (v := .agg #[.int .u64 (zh s), .int .u64 (zl s)]) (by simp [results, Try.results35, go_sem, zZ1, Z1_0, Z1_1]) rfl ⟨rfl, ?_⟩
  exact keep2 B4.out (Nat.le_refl _) _ _
theorem rTimes_any (a b : Int) (ba : in64 a) (bb : in64 b) (w : World) : Calls Try.prog 35 #[.int .i64 a, .int .i64 b] w fun e w' => e = .returned (.agg #[.int .u64 (zh (a * b)), .int .u64 (zl (a * b))]) ∧ Below w.heap.size w w' := by
  by_cases h : decide (a < 0) = decide (b < 0)
  · exact rTimes_same a b ba bb h w
  · exact rTimes_diff a b ba bb (by revert h; cases decide (a < 0) <;> cases decide (b < 0) <;> simp) w
theorem rcMul_any (a b : Int) (ba : in64 a) (bb : in64 b) (w : World) : Calls Try.prog 27 #[.int .i64 a, .int .i64 b] w fun e w' => e = .returned (.tuple #[.int .i64 (iV (a * b)), .int .i64 (iE (a * b))]) ∧ Below w.heap.size w w' := by
  have H1 := Lib.hid (rTimes_any a b ba bb)
  have H2 := Lib.hid (rInt_any (a * b) (abs_mul_U ba bb))
  clear ba bb
  generalize a * b = s at *
  go_enter Try.func27, Try.ntmps27
  go_wp2_with fail
  
  refine (H1.out _).mono ?_
  rintro e V1 ⟨rfl, hb1⟩
  have B1 : Hid (Below w.heap.size w V1) := by first | exact Lib.hid ((Below.refl w.heap.size w).trans (hb1.mono (by first | assumption | (simp <;> omega) | (simp; done)))) | exact Lib.hid (((Below.refl w.heap.size w).alloc (Nat.le_refl _) _).trans (hb1.mono (by first | assumption | (simp <;> omega) | (simp; done)))) | exact Lib.hid ((((Below.refl w.heap.size w).alloc (Nat.le_refl _) _).alloc (by simp <;> omega) _).trans (hb1.mono (by first | assumption | (simp <;> omega) | (simp; done)))) | exact Lib.hid (((((Below.refl w.heap.size w).alloc (Nat.le_refl _) _).alloc (by simp <;> omega) _).alloc (by simp <;> omega) _).trans (hb1.mono (by first | assumption | (simp <;> omega) | (simp; done))))
  clear hb1
  go_simp
  go_wp2_with fail
  refine (H2.out _).mono ?_
  rintro e V2 ⟨rfl, hb2⟩
  have B2 : Hid (Below w.heap.size w V2) := by first | exact Lib.hid ((B1.out).trans (hb2.mono (by have := B1.out.size; first | assumption | (simp <;> omega) | (simp; done)))) | exact Lib.hid (((B1.out).alloc (B1.out.size) _).trans (hb2.mono (by have := B1.out.size; first | assumption | (simp <;> omega) | (simp; done)))) | exact Lib.hid ((((B1.out).alloc (B1.out.size) _).alloc (by have := B1.out.size; simp <;> omega) _).trans (hb2.mono (by have := B1.out.size; first | assumption | (simp <;> omega) | (simp; done)))) | exact Lib.hid (((((B1.out).alloc (B1.out.size) _).alloc (by have := B1.out.size; simp <;> omega) _).alloc (by have := B1.out.size; simp <;> omega) _).trans (hb2.mono (by have := B1.out.size; first | assumption | (simp <;> omega) | (simp; done))))
  clear hb2
  go_simp
  go_wp2
  go_ret2
  exact ⟨rfl, by first | exact B2.out | exact B2.out.alloc B2.out.size _⟩
end Go.Proofs.Ythlbmeemdhofpaa
/- Contracts of package checked's division. -/
namespace Go.Proofs.Ythlbmeemdhofpaa
set_option linter.unusedVariables false
set_option linter.unusedSimpArgs false
open Go.ChangeShapes Go.WideShapes Go.ChangeAt Go.RowKit

/-- the quotient, rounded down; the rest. -/
def fq (n c : Int) : Int := if 0 < c then n / c else (-n) / (-c)
def fr (n c : Int) : Int := n - c * fq n c

def sg (c : Int) (r : Nat) : Int := if c < 0 then -(r : Int) else (r : Int)
theorem sg_neg {c : Int} {r : Nat} (h : c < 0) : sg c r = -(r : Int) := if_pos h
theorem sg_pos {c : Int} {r : Nat} (h : ¬ c < 0) : sg c r = (r : Int) := if_neg h
theorem wneg (r : Nat) (h : r < 9223372036854775808) : wrap64 (-wrap64 (r : Int)) = -(r : Int) := by unfold wrap64; omega
theorem wpos (r : Nat) (h : r < 9223372036854775808) : wrap64 (r : Int) = (r : Int) := by unfold wrap64; omega
end Go.Proofs.Ythlbmeemdhofpaa
/- Contracts of package checked's division, whole. -/
namespace Go.Proofs.Ythlbmeemdhofpaa
set_option linter.unusedVariables false
set_option linter.unusedSimpArgs false
open Go.ChangeShapes Go.WideShapes Go.ChangeAt Go.RowKit

theorem ediv_uniq {n d k r : Int} (hd : 0 < d) (h : n = d * k + r) (h0 : 0 ≤ r) (h1 : r < d) : n / d = k :=
  ((Int.ediv_emod_unique hd).2 ⟨by omega, h0, h1⟩).1
theorem neg_div0 {m d : Nat} (hd : 0 < d) (h : m % d = 0) : -(m : Int) / (d : Int) = -((m / d : Nat) : Int) := by
  have e := Nat.div_add_mod m d
  refine ediv_uniq (r := 0) (by omega) ?_ (by omega) (by omega)
  rw [Int.mul_neg]
  have : ((d * (m / d) : Nat) : Int) = (d : Int) * ((m / d : Nat) : Int) := Int.natCast_mul _ _
  omega
theorem neg_div1 {m d : Nat} (hd : 0 < d) (h : ¬ m % d = 0) : -(m : Int) / (d : Int) = -(((m / d : Nat) : Int) + 1) := by
  have e := Nat.div_add_mod m d
  have hr := Nat.mod_lt m hd
  refine ediv_uniq (r := (d : Int) - ((m % d : Nat) : Int)) (by omega) ?_ (by omega) (by omega)
  rw [Int.mul_neg, Int.mul_add, Int.mul_one]
  have : ((d * (m / d) : Nat) : Int) = (d : Int) * ((m / d : Nat) : Int) := Int.natCast_mul _ _
  omega
/-- n and c by their amounts and signs. -/
structure SG (n c : Int) (m d : Nat) (p z : Bool) : Prop where
  n1 : p = true → n = (m : Int)
  n0 : p = false → n = -(m : Int)
  c1 : z = true → c = -(d : Int)
  c0 : z = false → c = (d : Int)
  d : 0 < d
theorem SG.up {n c : Int} {m d : Nat} {p z : Bool} (h : SG n c m d p z) (e : ((!p) == z) = true) : fq n c = ((m / d : Nat) : Int) ∧ fr n c = sg c (m % d) := by
  have hd := h.d
  have e1 := Nat.div_add_mod m d
  have e2 : ((d * (m / d) : Nat) : Int) = (d : Int) * ((m / d : Nat) : Int) := Int.natCast_mul _ _
  have e3 : ((m / d : Nat) : Int) = (m : Int) / (d : Int) := Int.natCast_ediv _ _
  cases p <;> cases z
  · cases e
  · have hn := h.n0 rfl; have hc := h.c1 rfl
    have q : fq n c = ((m / d : Nat) : Int) := by unfold fq; rw [hn, hc, if_neg (by omega), Int.neg_neg, Int.neg_neg, e3]
    refine ⟨q, ?_⟩
    unfold fr sg
    rw [q, hn, hc, if_pos (by omega), Int.neg_mul]
    omega
  · have hn := h.n1 rfl; have hc := h.c0 rfl
    have q : fq n c = ((m / d : Nat) : Int) := by unfold fq; rw [hn, hc, if_pos (by omega), e3]
    refine ⟨q, ?_⟩
    unfold fr sg
    rw [q, hn, hc, if_neg (by omega)]
    omega
  · cases e
theorem SG.zero {n c : Int} {m d : Nat} {p z : Bool} (h : SG n c m d p z) (e : ((!p) == z) = false) (hr : m % d = 0) : fq n c = -((m / d : Nat) : Int) ∧ fr n c = sg c (m % d) := by
  have hd := h.d
  have e1 := Nat.div_add_mod m d
  have e2 : ((d * (m / d) : Nat) : Int) = (d : Int) * ((m / d : Nat) : Int) := Int.natCast_mul _ _
  have e3 := neg_div0 hd hr
  cases p <;> cases z
  · have hn := h.n0 rfl; have hc := h.c0 rfl
    have q : fq n c = -((m / d : Nat) : Int) := by unfold fq; rw [hn, hc, if_pos (by omega), e3]
    refine ⟨q, ?_⟩
    unfold fr sg
    rw [q, hn, hc, if_neg (by omega), Int.mul_neg]
    omega
  · cases e
  · cases e
  · have hn := h.n1 rfl; have hc := h.c1 rfl
    have q : fq n c = -((m / d : Nat) : Int) := by unfold fq; rw [hn, hc, if_neg (by omega), Int.neg_neg, e3]
    refine ⟨q, ?_⟩
    unfold fr sg
    rw [q, hn, hc, if_pos (by omega), Int.neg_mul_neg]
    omega
theorem SG.down {n c : Int} {m d : Nat} {p z : Bool} (h : SG n c m d p z) (e : ((!p) == z) = false) (hr : ¬ m % d = 0) : fq n c = -(((m / d : Nat) : Int) + 1) ∧ fr n c = sg c (d - m % d) := by
  have hd := h.d
  have e1 := Nat.div_add_mod m d
  have e4 := Nat.mod_lt m hd
  have e2 : ((d * (m / d) : Nat) : Int) = (d : Int) * ((m / d : Nat) : Int) := Int.natCast_mul _ _
  have e3 := neg_div1 hd hr
  cases p <;> cases z
  · have hn := h.n0 rfl; have hc := h.c0 rfl
    have q : fq n c = -(((m / d : Nat) : Int) + 1) := by unfold fq; rw [hn, hc, if_pos (by omega), e3]
    refine ⟨q, ?_⟩
    unfold fr sg
    rw [q, hn, hc, if_neg (by omega), Int.mul_neg, Int.mul_add, Int.mul_one]
    omega
  · cases e
  · cases e
  · have hn := h.n1 rfl; have hc := h.c1 rfl
    have q : fq n c = -(((m / d : Nat) : Int) + 1) := by unfold fq; rw [hn, hc, if_neg (by omega), Int.neg_neg, e3]
    refine ⟨q, ?_⟩
    unfold fr sg
    rw [q, hn, hc, if_pos (by omega), Int.neg_mul_neg, Int.mul_add, Int.mul_one]
    omega
theorem SG.of_prod {a b c : Int} (hc : c ≠ 0) : SG (a * b) c (a.natAbs * b.natAbs) c.natAbs (decide (a < 0) == decide (b < 0)) (decide (c < 0)) :=
  ⟨fun h => (mul_same (by simpa using h)).symm, fun h => (mul_diff (by cases h1 : decide (a < 0) <;> cases h2 : decide (b < 0) <;> simp_all)).symm, fun h => by have := of_decide_eq_true h; omega, fun h => by have := of_decide_eq_false h; omega, by omega⟩
theorem prod_U {a b : Int} (ba : in64 a) (bb : in64 b) : a.natAbs * b.natAbs ≤ 85070591730234615865843651857942052864 := by
  have h1 : a.natAbs * b.natAbs ≤ 9223372036854775808 * 9223372036854775808 := by
    unfold in64 at ba bb
    exact Nat.mul_le_mul (by omega) (by omega)
  exact h1
end Go.Proofs.Ythlbmeemdhofpaa
/- Contracts of package checked's MulDiv, FloorDiv, FloorMod. -/
namespace Go.Proofs.Ythlbmeemdhofpaa
set_option linter.unusedVariables false
set_option linter.unusedSimpArgs false
open Go.ChangeShapes Go.WideShapes Go.ChangeAt Go.RowKit

theorem fq_in {n c : Int} (hc : c ≠ 0) (h : n.natAbs ≤ 85070591730234615865843651857942052864) : in128 (fq n c) := by
  unfold fq in128
  have h1 : ∀ m d : Int, 0 < d → m.natAbs ≤ 85070591730234615865843651857942052864 → -170141183460469231731687303715884105728 ≤ m / d ∧ m / d < 170141183460469231731687303715884105728 := fun m d hd hm => by
    constructor
    · refine Int.le_trans ?_ ((Int.le_ediv_iff_mul_le hd).2 (show (-85070591730234615865843651857942052864) * d ≤ m by omega))
      omega
    · refine Int.ediv_lt_of_lt_mul hd ?_
      omega
  by_cases h2 : 0 < c
  · rw [if_pos h2]; exact h1 n c h2 h
  · rw [if_neg h2]; exact h1 (-n) (-c) (by omega) (by omega)
theorem fr_bd {n c : Int} (hc : c ≠ 0) : (0 < c → 0 ≤ fr n c ∧ fr n c < c) ∧ (c < 0 → c < fr n c ∧ fr n c ≤ 0) := by
  unfold fr fq
  constructor
  · intro h
    rw [if_pos h]
    have h1 := Int.emod_nonneg n hc
    have h2 := Int.emod_lt_of_pos n h
    have h3 := Int.emod_def n c
    omega
  · intro h
    rw [if_neg (by omega)]
    have h1 := Int.emod_nonneg (-n) (show -c ≠ 0 by omega)
    have h2 := Int.emod_lt_of_pos (-n) (show 0 < -c by omega)
    have h3 := Int.emod_def (-n) (-c)
    rw [Int.neg_mul] at h3
    omega
def oV (q r : Int) : Int := if -9223372036854775808 ≤ q ∧ q < 9223372036854775808 then r else 0
/-- the answers by a divisor that may be 0. -/
def dV (n c : Int) : Int := if c = 0 then 0 else iV (fq n c)
def dR (n c : Int) : Int := if c = 0 then 0 else oV (fq n c) (fr n c)
def dM (n c : Int) : Int := if c = 0 then 0 else fr n c
def dE (n c : Int) : Int := if c = 0 then 5 else iE (fq n c)
def dF (c : Int) : Int := if c = 0 then 5 else 0
end Go.Proofs.Ythlbmeemdhofpaa
