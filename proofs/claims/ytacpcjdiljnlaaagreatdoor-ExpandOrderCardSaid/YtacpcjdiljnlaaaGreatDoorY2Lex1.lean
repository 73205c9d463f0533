/- Several texts in one: LisA, LexA, LexB, LexC, LexD, LexE, LexN. -/
import Derived.Test.YtacpcjdiljnlaaaGreatDoorRows
import Derived.WalkKit
import Derived.ProofKit
import Derived.OpenShut
import Derived.Handy
import Derived.Outline
import Derived.Lib.Hide
import Derived.Below
import Derived.OwnWalk
import Derived.Laws.OwnMore
import Derived.Deep.AppendLies
import Derived.Laws.Strings
import Derived.Laws.Strings2
import Derived.Laws.Slices
namespace Go.Proofs.YtacpcjdiljnlaaaGreatDoor
set_option linter.unusedVariables false
open Go.ChangeShapes Go.WideShapes Go.ChangeAt Go.RowKit
theorem infoStr : (Tryz.prog.info? 9).map (fun i => (i.zero, i.size, i.bytes)) = some (some (.string ⟨#[]⟩), 1, 16) := by kernel_rfl
def RetRow (e : TypeId) (size n : Nat) (xs : List Value) (w : World) (r : Ending) (w' : World) : Prop :=
  ∃ v, r = .returned v ∧ w'.ownsRow w.heap.size e size v n xs ∧ Below w.heap.size w w'
def Lies (w : World) (g : Nat) (xs : List Value) : Prop := ∀ j u, xs[j]? = some u → w.cell? ⟨g, j, none⟩ = some u
theorem Lies.keep {w w' : World} {g : Nat} {xs : List Value} (h : Lies w g xs) (hb : w'.heap[g]? = w.heap[g]?) : Lies w' g xs :=
  fun j u hu => (World.cell?_of_block (a := ⟨g, j, none⟩) hb).trans (h j u hu)
theorem Lies.below {w w' : World} {g B : Nat} {xs : List Value} (h : Lies w g xs) (hb : Below B w w') (hg : g < B) : Lies w' g xs := h.keep (hb.block g hg)
theorem own_form {w : World} {base : Nat} {e : TypeId} {size : Nat} {v : Value} {n : Nat} {xs : List Value} (h : w.ownsRow base e size v n xs) :
    ∃ A c g, v = .slice A n c ∧ Lies w g xs ∧ (0 < n → A = some ⟨g, 0, none⟩ ∧ base ≤ g ∧ g < w.heap.size) ∧ (n = 0 → A = none ∨ A = some ⟨g, 0, none⟩) := by
  rcases h.2 with ⟨rfl, hn⟩ | ⟨g, cap, cur, rfl, hb, hg, hnc, hcm, hcs, htake⟩
  · subst hn
    exact ⟨none, 0, 0, rfl, fun j u hu => (by have := h.1; simp at this; subst this; simp at hu), fun h0 => absurd h0 (by omega), fun _ => .inl rfl⟩
  · refine ⟨_, cap, g, rfl, fun j u hu => ?_, fun _ => ⟨rfl, hb, (Array.getElem?_eq_some_iff.1 hg).1⟩, fun _ => .inr rfl⟩
    rw [cell_of_row w g j cur e (0, 0) hg]
    rw [← htake, List.getElem?_take] at hu
    split at hu
    · simpa using hu
    · cases hu
theorem own_up {w w' : World} {base : Nat} {e : TypeId} {size : Nat} {v : Value} {n : Nat} {xs : List Value} (h : w.ownsRow base e size v n xs) (hb : Below w.heap.size w w') : w'.ownsRow base e size v n xs := by
  refine ⟨h.1, ?_⟩
  rcases h.2 with hn | ⟨g, cap, cur, rfl, hbg, hg, rest⟩
  · exact .inl hn
  · exact .inr ⟨g, cap, cur, rfl, hbg, (hb.block g (Array.getElem?_eq_some_iff.1 hg).1).trans hg, rest⟩
theorem news1 (w : World) (t : TypeId) (u : Value) : ∀ j x, [u][j]? = some x → (w.alloc (.cells #[u] t)).cell? ((⟨w.heap.size, 0, none⟩ : Addr).add j) = some x :=
  World.news_of_block (w := w.alloc (.cells #[u] t)) (cs := #[u]) (heap_alloc_new w _)
theorem one1 {u : Value} (h : u.oneCell' = true) : ∀ x ∈ [u], x.oneCell' = true := fun x hx => by rw [List.mem_singleton.1 hx]; exact h
theorem bel_append {w wr w1 : World} {base : Nat} {e : TypeId} {size : Nat} {v : Value} {n : Nat} {xs : List Value} {o : Obj} (hb : Below base w wr) (hw : base ≤ wr.heap.size) (hown : wr.ownsRow base e size v n xs) (hg : (wr.alloc o).grownBy w1 v.ownBlock) : Below base w w1 :=
  (hb.alloc hw o).grown hg (by rw [show (wr.alloc o).heap.size = wr.heap.size + 1 by simp]; omega) (fun k hk => (hown.lt k hk).1)
theorem own_base {w : World} {base base' : Nat} {e : TypeId} {size : Nat} {v : Value} {n : Nat} {xs : List Value} (h : w.ownsRow base e size v n xs) (hb : base' ≤ base) : w.ownsRow base' e size v n xs := by
  refine ⟨h.1, ?_⟩
  rcases h.2 with hn | ⟨g, cap, cur, rfl, hbg, rest⟩
  · exact .inl hn
  · exact .inr ⟨g, cap, cur, rfl, Nat.le_trans hb hbg, rest⟩
theorem own_lt {w : World} {base : Nat} {e : TypeId} {size : Nat} {v : Value} {n : Nat} {xs : List Value} (h : w.ownsRow base e size v n xs) {g : Nat} (hg : w.heap.size ≤ g) : v.ownBlock ≠ some g := by
  intro e
  have := (h.lt g e).2
  omega
theorem news2 (w : World) (t : TypeId) (a b : Value) : ∀ j x, [a, b][j]? = some x → (w.alloc (.cells #[a, b] t)).cell? ((⟨w.heap.size, 0, none⟩ : Addr).add j) = some x :=
  World.news_of_block (w := w.alloc (.cells #[a, b] t)) (cs := #[a, b]) (heap_alloc_new w _)
theorem one2 {a b : Value} (ha : a.oneCell' = true) (hb : b.oneCell' = true) : ∀ x ∈ [a, b], x.oneCell' = true := fun x hx => by
  rcases List.mem_cons.1 hx with rfl | hx
  · exact ha
  · rw [List.mem_singleton.1 hx]; exact hb
theorem app_keep {wr w1 : World} {o : Obj} {v : Value} {g2 : Nat} (hg : (wr.alloc o).grownBy w1 v.ownBlock) (h2 : g2 < wr.heap.size) (hne : v.ownBlock ≠ some g2) : w1.heap[g2]? = wr.heap[g2]? := by
  rw [hg.block g2 (by simp; omega) (fun e => hne e.symm)]
  exact heap_alloc_old wr o h2
theorem app_ne {wr : World} {o : Obj} {v : Value} {g g2 : Nat} (hat : v.ownBlock = some g ∨ g = (wr.alloc o).heap.size) (h2 : g2 < wr.heap.size) (hne : v.ownBlock ≠ some g2) : g ≠ g2 := by
  rcases hat with h | h
  · intro e; subst e; exact hne h
  · have : (wr.alloc o).heap.size = wr.heap.size + 1 := by simp
    omega
end Go.Proofs.YtacpcjdiljnlaaaGreatDoor
namespace Go.Proofs.YtacpcjdiljnlaaaGreatDoor
set_option linter.unusedVariables false
open Go.ChangeShapes Go.WideShapes Go.ChangeAt Go.RowKit
@[irreducible] def bs (l : List UInt8) : ByteArray := ⟨l.toArray⟩
theorem bs_toList (l : List UInt8) : (bs l).data.toList = l := by unfold bs; simp
theorem bs_list (l : List UInt8) : (bs l).toList = l := by rw [ByteArray.toList_eq]; exact bs_toList l
theorem bs_of (s : ByteArray) : bs s.data.toList = s := by unfold bs; simp
theorem bs_size (l : List UInt8) : (bs l).size = l.length := by unfold bs; simp [ByteArray.size]
theorem size_toList (s : ByteArray) : s.data.toList.length = s.size := Array.length_toList
theorem extract_bs (s : ByteArray) (a k : Nat) : s.extract a k = bs ((s.data.toList.take k).drop a) := by
  apply ByteArray.ext
  unfold bs
  rw [ByteArray.data_extract]
  apply Array.ext'
  simp [Array.toList_extract, List.extract_eq_take_drop, List.drop_take]
theorem append_bs (a b : List UInt8) : bs a ++ bs b = bs (a ++ b) := by
  apply ByteArray.ext
  unfold bs
  rw [ByteArray.data_append]
  simp
theorem snocInd {α : Type} {P : List α → Prop} (h0 : P []) (h : ∀ l c, P l → P (l ++ [c])) (l : List α) : P l := by
  have key : ∀ r : List α, P r.reverse := by
    intro r
    induction r with
    | nil => exact h0
    | cons c r ih => rw [List.reverse_cons]; exact h _ _ ih
  have := key l.reverse
  rwa [List.reverse_reverse] at this
theorem get_of_toList (s : ByteArray) (k : Nat) (h' : k < s.size) (h : k < s.data.toList.length) : s[k] = s.data.toList[k] := by simp [ByteArray.getElem_eq_getElem_data]
theorem get_bs (L : List UInt8) (k : Nat) (h : k < L.length) (h' : k < (bs L).size) : (bs L)[k] = L[k] := by
  have e : (bs L).data.toList = L := bs_toList L
  rw [get_of_toList (bs L) k h' (by rw [e]; exact h)]
  congr 1
theorem byte_bs (L : List UInt8) (k : Nat) (h : k < L.length) (h' : k < (bs L).size) {c : Nat} (hc : L[k].toNat = c) : ((bs L)[k]'h').toNat = c := by rw [get_bs L k h h']; exact hc
def lnStep (x : List (List UInt8) × List UInt8) (c : UInt8) : List (List UInt8) × List UInt8 := if c.toNat = 10 then (x.1 ++ [x.2], []) else (x.1, x.2 ++ [c])
def lnF (l : List UInt8) : List (List UInt8) × List UInt8 := l.foldl lnStep ([], [])
def linesL (l : List UInt8) : List (List UInt8) := (lnF l).1 ++ [(lnF l).2]
theorem lnF_snoc (l : List UInt8) (c : UInt8) : lnF (l ++ [c]) = lnStep (lnF l) c := by unfold lnF; rw [List.foldl_append]; rfl
theorem take_snoc {l : List UInt8} {k : Nat} (h : k < l.length) : l.take (k + 1) = l.take k ++ [l[k]] := List.take_succ_eq_append_getElem h
theorem lnF_nl {l : List UInt8} {c : UInt8} (h : c.toNat = 10) : lnF (l ++ [c]) = ((lnF l).1 ++ [(lnF l).2], []) := by rw [lnF_snoc]; exact if_pos h
theorem lnF_no {l : List UInt8} {c : UInt8} (h : c.toNat ≠ 10) : lnF (l ++ [c]) = ((lnF l).1, (lnF l).2 ++ [c]) := by rw [lnF_snoc]; exact if_neg h
theorem lnF_len (l : List UInt8) : (lnF l).1.length ≤ l.length := by
  induction l using snocInd with
  | h0 => simp [lnF]
  | h l c ih =>
    by_cases h : c.toNat = 10
    · rw [lnF_nl h]; simp; exact ih
    · rw [lnF_no h]; simp; omega
def blankB (c : UInt8) : Bool := c.toNat == 32 || c.toNat == 9
def wdEnd (x : List (List UInt8) × List UInt8) : List (List UInt8) := if x.2 = [] then x.1 else x.1 ++ [x.2]
def wdStep (x : List (List UInt8) × List UInt8) (c : UInt8) : List (List UInt8) × List UInt8 := if blankB c = true then (wdEnd x, []) else (x.1, x.2 ++ [c])
def wdF (l : List UInt8) : List (List UInt8) × List UInt8 := l.foldl wdStep ([], [])
def ahead (l : List UInt8) : List UInt8 := l.takeWhile (fun c => c.toNat != 35)
def wordsL (l : List UInt8) : List (List UInt8) := wdEnd (wdF (ahead l))
theorem wdF_snoc (l : List UInt8) (c : UInt8) : wdF (l ++ [c]) = wdStep (wdF l) c := by unfold wdF; rw [List.foldl_append]; rfl
theorem wdF_blank {l : List UInt8} {c : UInt8} (h : blankB c = true) : wdF (l ++ [c]) = (wdEnd (wdF l), []) := by rw [wdF_snoc]; exact if_pos h
theorem wdF_byte {l : List UInt8} {c : UInt8} (h : blankB c = false) : wdF (l ++ [c]) = ((wdF l).1, (wdF l).2 ++ [c]) := by rw [wdF_snoc]; exact if_neg (by rw [h]; decide)
theorem wdEnd_none {x : List (List UInt8) × List UInt8} (h : x.2 = []) : wdEnd x = x.1 := if_pos h
theorem wdEnd_some {x : List (List UInt8) × List UInt8} (h : x.2 ≠ []) : wdEnd x = x.1 ++ [x.2] := if_neg h
theorem wdEnd_len (x : List (List UInt8) × List UInt8) : (wdEnd x).length ≤ x.1.length + 1 ∧ (wdEnd x).length ≤ x.1.length + x.2.length := by
  by_cases h : x.2 = []
  · rw [wdEnd_none h]; omega
  · rw [wdEnd_some h]
    have := List.length_pos_iff.2 h
    simp; omega
theorem wdF_len (l : List UInt8) : (wdF l).1.length + (wdF l).2.length ≤ l.length := by
  induction l using snocInd with
  | h0 => simp [wdF]
  | h l c ih =>
    cases h : blankB c
    · rw [wdF_byte h]; simp; omega
    · rw [wdF_blank h]
      have := (wdEnd_len (wdF l)).2
      simp; omega
theorem ahead_take {l : List UInt8} {k : Nat} (hk : k < l.length) (h : ahead (l.take k) = l.take k) (hc : l[k].toNat ≠ 35) : ahead (l.take (k + 1)) = l.take (k + 1) := by
  rw [take_snoc hk]
  unfold ahead at *
  rw [List.takeWhile_append_of_pos (fun x hx => ?_)]
  · simp [hc]
  · have : ∀ x ∈ l.take k, (x.toNat != 35) = true := by
      rw [← h]; intro x hx; exact List.all_eq_true.1 List.all_takeWhile x hx
    exact this x hx
theorem ahead_stop {l : List UInt8} {k : Nat} (hk : k < l.length) (h : ahead (l.take k) = l.take k) (hc : l[k].toNat = 35) : ahead l = l.take k := by
  have e : l = l.take k ++ (l[k] :: l.drop (k + 1)) := by rw [List.getElem_cons_drop, List.take_append_drop]
  conv => lhs; rw [e]
  unfold ahead at *
  rw [List.takeWhile_append_of_pos (fun x hx => ?_)]
  · rw [List.takeWhile_cons_of_neg (by simp [hc]), List.append_nil]
  · have : ∀ x ∈ l.take k, (x.toNat != 35) = true := by
      rw [← h]; intro x hx; exact List.all_eq_true.1 List.all_takeWhile x hx
    exact this x hx
theorem wordsL_len (l : List UInt8) : (wordsL l).length ≤ l.length := by
  unfold wordsL
  have h1 := (wdEnd_len (wdF (ahead l))).2
  have h2 := wdF_len (ahead l)
  have h3 : (ahead l).length ≤ l.length := by unfold ahead; exact (List.takeWhile_sublist _).length_le
  omega
theorem lnF_mem (l : List UInt8) : (∀ x ∈ (lnF l).1, x.length ≤ l.length) ∧ (lnF l).2.length ≤ l.length := by
  induction l using snocInd with
  | h0 => simp [lnF]
  | h l c ih =>
    by_cases h : c.toNat = 10
    · rw [lnF_nl h]
      refine ⟨fun x hx => ?_, by simp⟩
      simp only [List.mem_append, List.mem_singleton] at hx
      rcases hx with hx | rfl
      · have := ih.1 x hx; simp; omega
      · have := ih.2; simp; omega
    · rw [lnF_no h]
      refine ⟨fun x hx => ?_, by simp; exact ih.2⟩
      have := ih.1 x hx
      simp; omega
theorem linesL_mem (l : List UInt8) : ∀ x ∈ linesL l, x.length ≤ l.length := by
  intro x hx
  unfold linesL at hx
  simp only [List.mem_append, List.mem_singleton] at hx
  rcases hx with hx | rfl
  · exact (lnF_mem l).1 x hx
  · exact (lnF_mem l).2
theorem linesL_len (l : List UInt8) : 0 < (linesL l).length ∧ (linesL l).length ≤ l.length + 1 := by
  have := lnF_len l
  unfold linesL
  simp; exact this
abbrev Tok := List UInt8 × Int
def lineT (n : Int) (l : List UInt8) : List Tok := (wordsL l).map (fun t => (t, n)) ++ (if wordsL l = [] then [] else [([10], n)])
def tokFrom : Nat → List (List UInt8) → List Tok
  | _, [] => []
  | i, l :: r => lineT ((i : Int) + 1) l ++ tokFrom (i + 1) r
theorem tokFrom_snoc (i : Nat) (a : List (List UInt8)) (l : List UInt8) : tokFrom i (a ++ [l]) = tokFrom i a ++ lineT ((i : Int) + a.length + 1) l := by
  induction a generalizing i with
  | nil => simp [tokFrom]
  | cons x a ih =>
    rw [List.cons_append]
    simp only [tokFrom]
    rw [ih, List.append_assoc]
    congr 3
    simp; omega
theorem lineT_len (n : Int) (l : List UInt8) : (lineT n l).length ≤ l.length + 1 := by
  have := wordsL_len l
  unfold lineT
  split <;> simp <;> omega
theorem tokFrom_len (K : Nat) (i : Nat) (a : List (List UInt8)) (h : ∀ x ∈ a, x.length ≤ K) : (tokFrom i a).length ≤ a.length * (K + 1) := by
  induction a generalizing i with
  | nil => simp [tokFrom]
  | cons x a ih =>
    simp only [tokFrom, List.length_append, List.length_cons]
    have h1 := lineT_len ((i : Int) + 1) x
    have h2 := h x (by simp)
    have h3 := ih (i + 1) (fun y hy => h y (by simp [hy]))
    rw [Nat.add_mul]
    omega
def tokL (l : List UInt8) : List Tok := tokFrom 0 (linesL l)
def oddB (c : UInt8) : Bool := (c.toNat < 32 || 126 < c.toNat) && c.toNat != 10 && c.toNat != 9
def badB (l : List UInt8) : Bool := l.any oddB
theorem badB_snoc (l : List UInt8) (c : UInt8) : badB (l ++ [c]) = (badB l || oddB c) := by unfold badB; simp
def lexE (l : List UInt8) : Int := if 4096 < l.length then 1 else if 1024 < (tokL l).length then 1 else if badB l = true then 2 else 0
def lexT (l : List UInt8) : List Tok := if lexE l = 0 then tokL l else []
theorem slice_bs (L : List UInt8) (a b : Nat) (hab : a ≤ b) (hb : b ≤ L.length) {A B : Int} (hA : A = (a : Int)) (hB : B = (b : Int)) (W : World) :
    (Instr.slice 9 (.string (bs L)) (some (.int .i64 A)) (some (.int .i64 B)) none).run Tryz.prog W = .ok (.string (bs ((L.take b).drop a))) W := by
  subst hA
  subst hB
  rw [run_slice_string W 9 (bs L) .i64 .i64 a b Tryz.underlying9 (by omega) (by omega) (by rw [bs_size]; omega)]
  rw [extract_bs, bs_toList]
  rfl
theorem slice_one (L : List UInt8) (k : Nat) (h : k < L.length) (W : World) :
    (Instr.slice 9 (.string (bs L)) (some (.int .i64 (k : Int))) (some (.int .i64 ((k : Int) + 1))) none).run Tryz.prog W = .ok (.string (bs [L[k]])) W := by
  rw [slice_bs L k (k + 1) (by omega) (by omega) rfl (by omega), take_snoc h, List.drop_append_of_le_length (by simp; omega), List.drop_eq_nil_of_le (by simp; omega)]
  rfl
theorem slice_from (L : List UInt8) (a : Nat) (ha : a ≤ L.length) {A : Int} (hA : A = (a : Int)) (W : World) :
    (Instr.slice 9 (.string (bs L)) (some (.int .i64 A)) none none).run Tryz.prog W = .ok (.string (bs (L.drop a))) W := by
  subst hA
  rw [run_slice_string_l W 9 (bs L) Tryz.underlying9 .i64 a (by omega) (by rw [bs_size]; omega)]
  rw [extract_bs, bs_toList, bs_size, List.take_length]
  rfl
theorem slice_upto (L : List UInt8) (b : Nat) (hb : b ≤ L.length) {B : Int} (hB : B = (b : Int)) (W : World) :
    (Instr.slice 9 (.string (bs L)) none (some (.int .i64 B)) none).run Tryz.prog W = .ok (.string (bs (L.take b))) W := by
  subst hB
  rw [run_slice_string_h W 9 (bs L) Tryz.underlying9 .i64 b (by omega) (by rw [bs_size]; omega)]
  rw [extract_bs, bs_toList]
  rfl
end Go.Proofs.YtacpcjdiljnlaaaGreatDoor
namespace Go.Proofs.YtacpcjdiljnlaaaGreatDoor
set_option linter.unusedVariables false
set_option linter.unusedSimpArgs false
open Go.ChangeShapes Go.WideShapes Go.ChangeAt Go.RowKit
def strV (t : List UInt8) : Value := .string (bs t)
structure LnR (L : List UInt8) (w wr : World) (k a : Nat) (v : Value) : Prop where
  own : wr.ownsRow w.heap.size 9 1 v (lnF (L.take k)).1.length ((lnF (L.take k)).1.map strV)
  cur : (lnF (L.take k)).2 = (L.take k).drop a
  bel : Below w.heap.size w wr
theorem LnR.no {L : List UInt8} {w wr : World} {k a : Nat} {v : Value} (h : LnR L w wr k a v) (hk : k < L.length) (ha : a ≤ k) (h10 : L[k].toNat ≠ 10) : LnR L w wr (k + 1) a v := by
  have e : L.take (k + 1) = L.take k ++ [L[k]] := take_snoc hk
  refine ⟨?_, ?_, h.bel⟩
  · rw [e, lnF_no h10]; exact h.own
  · rw [e, lnF_no h10, List.drop_append_of_le_length (by simp; omega), ← h.cur]
theorem LnR.nl {L : List UInt8} {w wr w1 : World} {k a : Nat} {v : Value} {g cap : Nat} {t : TypeId} (h : LnR L w wr k a v) (hk : k < L.length) (h10 : L[k].toNat = 10)
    (hown : w1.ownsRow w.heap.size 9 1 (.slice (some ⟨g, 0, none⟩) ((lnF (L.take k)).1.length + 1) cap) ((lnF (L.take k)).1.length + 1) ((lnF (L.take k)).1.map strV ++ [.string (bs ((L.take k).drop a))]))
    (hg : (wr.alloc (.cells #[.string (bs ((L.take k).drop a))] t)).grownBy w1 v.ownBlock) : LnR L w w1 (k + 1) (k + 1) (.slice (some ⟨g, 0, none⟩) ((lnF (L.take k)).1.length + 1) cap) := by
  have e : L.take (k + 1) = L.take k ++ [L[k]] := take_snoc hk
  refine ⟨?_, ?_, bel_append h.bel h.bel.size h.own hg⟩
  · rw [e, lnF_nl h10, h.cur]
    simpa [strV] using hown
  · rw [e, lnF_nl h10, List.drop_eq_nil_of_le (by simp; omega)]
theorem LnR.fin {L : List UInt8} {w wr w1 : World} {a : Nat} {v : Value} {g cap : Nat} {t : TypeId} (h : LnR L w wr L.length a v)
    (hown : w1.ownsRow w.heap.size 9 1 (.slice (some ⟨g, 0, none⟩) ((lnF L).1.length + 1) cap) ((lnF L).1.length + 1) ((lnF L).1.map strV ++ [.string (bs (L.drop a))]))
    (hg : (wr.alloc (.cells #[.string (bs (L.drop a))] t)).grownBy w1 v.ownBlock) : RetRow 9 1 (linesL L).length ((linesL L).map strV) w (.returned (.slice (some ⟨g, 0, none⟩) ((lnF L).1.length + 1) cap)) w1 := by
  refine ⟨_, rfl, ?_, bel_append h.bel h.bel.size h.own hg⟩
  have hc := h.cur
  rw [List.take_length] at hc
  unfold linesL
  rw [hc]
  simpa [strV] using hown
set_option maxHeartbeats 1600000 in
set_option maxRecDepth 100000 in
theorem rLines_any (L : List UInt8) (hs : L.length ≤ 4096) (w : World) : Calls Tryz.prog 88 #[.string (bs L)] w (RetRow 9 1 (linesL L).length ((linesL L).map strV) w) := by
  obtain ⟨i0, hi, hz0, hz1, hz2⟩ := info_parts infoStr
  have hS := bs_size L
  have H0 : Hid (LnR L w w 0 0 (.slice none 0 0)) := Lib.hid ⟨World.ownsRow_nil _ _ _ _, rfl, Below.refl _ _⟩
  go_enter Tryz.func88, Tryz.ntmps88
  go_wp2
  go_loopw [3, 4, 5] (fun v f i wr => ∃ k a : Nat, k ≤ L.length ∧ a ≤ k ∧ i = .int .i64 (k : Int) ∧ f = .int .i64 (a : Int) ∧ LnR L w wr k a v) (fun _ _ i _ => L.length - (intOf i).toNat)
  case atStart => exact ⟨0, 0, by omega, by omega, rfl, rfl, H0.out⟩
  case round =>
    obtain ⟨k, a, hk, ha, rfl, rfl, hR⟩ := hrel
    have HR := Lib.hid hR
    have hown := hR.own
    have hlen := lnF_len (L.take k)
    have hlen2 : (L.take k).length ≤ k := by simp; omega
    have hbase := hR.bel.size
    clear hR H0
    by_cases hlt : k < L.length
    · have hX := extract_bs (bs L) a k
      rw [bs_toList] at hX
      obtain ⟨c, hc⟩ : ∃ c : Nat, L[k].toNat = c := ⟨_, rfl⟩
      have hb := byte_bs L k hlt (by rw [hS]; exact hlt) hc
      replace hc := Lib.hid hc
      by_cases h10 : c = 10
      · subst h10
        generalize hT : (L.take k).drop a = T at *
        generalize hM : (lnF (L.take k)).1 = M at *
        replace hT := Lib.hid hT
        replace hM := Lib.hid hM
        go_wp2_with (first
          | (at_builtin; refine wpList_append_lies _ rfl (.tmp 16) (.tmp 21) 95 rfl w.heap.size 9 i0 (.string ⟨#[]⟩) 1 16 Tryz.underlying95 hi hz0 hz1 hz2 rfl (by decide) _ _ _ rfl (hown.alloc _) ⟨wr.heap.size, 0, none⟩ 1 1 [.string (bs T)] rfl rfl (news1 _ _ _) (one1 rfl) (by decide) (by unfold maxLen; omega) (by omega) (by simp; omega) _ rfl ?_; intro g cap w1 hown1 hgrow hat hlt1)
          | fail)
        have hR1 : LnR L w w1 (k + 1) (k + 1) (.slice (some ⟨g, 0, none⟩) (M.length + 1) cap) := by
          have := hT.out
          subst this
          have := hM.out
          subst this
          exact HR.out.nl hlt hc.out hown1 hgrow
        clear hown1 hgrow hat hlt1 hown
        go_wp2
        go_roundw
        case rel => exact ⟨k + 1, k + 1, by omega, by omega, by go_num, by go_num, hR1⟩
        case measure => simp [intOf]; omega
      · have hne : decide ((c : Int) = 10) = false := decide_eq_false (by omega)
        have hne2 : ((c : Int) == 10) = false := by rw [beq_eq_false_iff_ne]; omega
        clear hown
        go_wp2
        go_roundw
        case rel => exact ⟨k + 1, a, by omega, by omega, by go_num, rfl, HR.out.no hlt ha (by rw [hc.out]; exact h10)⟩
        case measure => simp [intOf]; omega
    · obtain rfl : k = L.length := by omega
      have hX := extract_bs (bs L) a L.length
      rw [bs_toList, List.take_length] at hX
      rw [List.take_length] at hown hlen
      generalize hT : L.drop a = T at *
      generalize hM : (lnF L).1 = M at *
      replace hT := Lib.hid hT
      replace hM := Lib.hid hM
      go_wp2_with (first
        | (at_builtin; refine wpList_append_lies _ rfl (.tmp 25) (.tmp 29) 95 rfl w.heap.size 9 i0 (.string ⟨#[]⟩) 1 16 Tryz.underlying95 hi hz0 hz1 hz2 rfl (by decide) _ _ _ rfl (hown.alloc _) ⟨wr.heap.size, 0, none⟩ 1 1 [.string (bs T)] rfl rfl (news1 _ _ _) (one1 rfl) (by decide) (by unfold maxLen; omega) (by omega) (by simp; omega) _ rfl ?_; intro g cap w1 hown1 hgrow hat hlt1)
        | fail)
      go_wp2
      go_ret
      have h1 := hT.out
      have h2 := hM.out
      subst h1
      subst h2
      exact LnR.fin HR.out hown1 hgrow
end Go.Proofs.YtacpcjdiljnlaaaGreatDoor
namespace Go.Proofs.YtacpcjdiljnlaaaGreatDoor
set_option linter.unusedVariables false
set_option linter.unusedSimpArgs false
open Go.ChangeShapes Go.WideShapes Go.ChangeAt Go.RowKit
structure WdR (L : List UInt8) (w wr : World) (k : Nat) (v : Value) (C : List UInt8) : Prop where
  own : wr.ownsRow w.heap.size 9 1 v (wdF (L.take k)).1.length ((wdF (L.take k)).1.map strV)
  cur : (wdF (L.take k)).2 = C
  aim : ahead (L.take k) = L.take k
  bel : Below w.heap.size w wr
theorem WdR.byte {L : List UInt8} {w wr : World} {k : Nat} {v : Value} {C : List UInt8} (h : WdR L w wr k v C) (hk : k < L.length) (h35 : L[k].toNat ≠ 35) (hb : blankB L[k] = false) : WdR L w wr (k + 1) v (C ++ [L[k]]) := by
  have e : L.take (k + 1) = L.take k ++ [L[k]] := take_snoc hk
  refine ⟨?_, ?_, ahead_take hk h.aim h35, h.bel⟩
  · rw [e, wdF_byte hb]; exact h.own
  · rw [e, wdF_byte hb, ← h.cur]
theorem WdR.noW {L : List UInt8} {w wr : World} {k : Nat} {v : Value} (h : WdR L w wr k v []) (hk : k < L.length) (h35 : L[k].toNat ≠ 35) (hb : blankB L[k] = true) : WdR L w wr (k + 1) v [] := by
  have e : L.take (k + 1) = L.take k ++ [L[k]] := take_snoc hk
  refine ⟨?_, ?_, ahead_take hk h.aim h35, h.bel⟩
  · rw [e, wdF_blank hb, wdEnd_none h.cur]; exact h.own
  · rw [e, wdF_blank hb]
theorem WdR.oneW {L : List UInt8} {w wr w1 : World} {k : Nat} {v : Value} {C : List UInt8} {g cap : Nat} {t : TypeId} (h : WdR L w wr k v C) (hC : C ≠ []) (hk : k < L.length) (h35 : L[k].toNat ≠ 35) (hb : blankB L[k] = true)
    (hown : w1.ownsRow w.heap.size 9 1 (.slice (some ⟨g, 0, none⟩) ((wdF (L.take k)).1.length + 1) cap) ((wdF (L.take k)).1.length + 1) ((wdF (L.take k)).1.map strV ++ [.string (bs C)]))
    (hg : (wr.alloc (.cells #[.string (bs C)] t)).grownBy w1 v.ownBlock) : WdR L w w1 (k + 1) (.slice (some ⟨g, 0, none⟩) ((wdF (L.take k)).1.length + 1) cap) [] := by
  have e : L.take (k + 1) = L.take k ++ [L[k]] := take_snoc hk
  have hc := h.cur
  subst hc
  refine ⟨?_, ?_, ahead_take hk h.aim h35, bel_append h.bel h.bel.size h.own hg⟩
  · rw [e, wdF_blank hb, wdEnd_some hC]
    simpa [strV] using hown
  · rw [e, wdF_blank hb]
structure WdZ (L : List UInt8) (w wr : World) (v : Value) (C : List UInt8) : Prop where
  own : wr.ownsRow w.heap.size 9 1 v (wdF (ahead L)).1.length ((wdF (ahead L)).1.map strV)
  cur : (wdF (ahead L)).2 = C
  bel : Below w.heap.size w wr
theorem WdR.stop {L : List UInt8} {w wr : World} {k : Nat} {v : Value} {C : List UInt8} (h : WdR L w wr k v C) (hk : k < L.length) (h35 : L[k].toNat = 35) : WdZ L w wr v C := by
  have e := ahead_stop hk h.aim h35
  exact ⟨by rw [e]; exact h.own, by rw [e]; exact h.cur, h.bel⟩
theorem WdR.end_ {L : List UInt8} {w wr : World} {v : Value} {C : List UInt8} (h : WdR L w wr L.length v C) : WdZ L w wr v C := by
  have e := h.aim
  have h1 := h.own
  have h2 := h.cur
  rw [List.take_length] at e h1 h2
  exact ⟨by rw [e]; exact h1, by rw [e]; exact h2, h.bel⟩
theorem WdZ.noW {L : List UInt8} {w wr : World} {v : Value} (h : WdZ L w wr v []) : RetRow 9 1 (wordsL L).length ((wordsL L).map strV) w (.returned v) wr := by
  have e : wordsL L = (wdF (ahead L)).1 := wdEnd_none h.cur
  rw [e]
  exact ⟨_, rfl, h.own, h.bel⟩
theorem WdZ.oneW {L : List UInt8} {w wr w1 : World} {v : Value} {C : List UInt8} {g cap : Nat} {t : TypeId} (h : WdZ L w wr v C) (hC : C ≠ [])
    (hown : w1.ownsRow w.heap.size 9 1 (.slice (some ⟨g, 0, none⟩) ((wdF (ahead L)).1.length + 1) cap) ((wdF (ahead L)).1.length + 1) ((wdF (ahead L)).1.map strV ++ [.string (bs C)]))
    (hg : (wr.alloc (.cells #[.string (bs C)] t)).grownBy w1 v.ownBlock) : RetRow 9 1 (wordsL L).length ((wordsL L).map strV) w (.returned (.slice (some ⟨g, 0, none⟩) ((wdF (ahead L)).1.length + 1) cap)) w1 := by
  have hc := h.cur
  subst hc
  have e : wordsL L = (wdF (ahead L)).1 ++ [(wdF (ahead L)).2] := wdEnd_some hC
  rw [e]
  exact ⟨_, rfl, by simpa [strV] using hown, bel_append h.bel h.bel.size h.own hg⟩
theorem bs_nil : bs [] = ⟨#[]⟩ := by unfold bs; rfl
set_option maxHeartbeats 1600000 in
set_option maxRecDepth 100000 in
theorem rWords_any (L : List UInt8) (hs : L.length ≤ 4096) (w : World) : Calls Tryz.prog 89 #[.string (bs L)] w (RetRow 9 1 (wordsL L).length ((wordsL L).map strV) w) := by
  obtain ⟨i0, hi, hz0, hz1, hz2⟩ := info_parts infoStr
  have hS := bs_size L
  have H0 : Hid (WdR L w w 0 (.slice none 0 0) []) := Lib.hid ⟨World.ownsRow_nil _ _ _ _, rfl, rfl, Below.refl _ _⟩
  go_enter Tryz.func89, Tryz.ntmps89
  go_wp2
  go_loopw [3, 4, 5] (fun v c i wr => ∃ k C, k ≤ L.length ∧ i = .int .i64 (k : Int) ∧ c = .string (bs C) ∧ WdR L w wr k v C) (fun _ _ i _ => L.length - (intOf i).toNat)
  case atStart => exact ⟨0, [], by omega, rfl, by rw [bs_nil], H0.out⟩
  case round =>
    obtain ⟨k, C, hk, rfl, rfl, hR⟩ := hrel
    have HR := Lib.hid hR
    have hown := hR.own
    have hlen := wdF_len (L.take k)
    have hlen2 : (L.take k).length ≤ k := by simp; omega
    have hcl : C.length ≤ k := by have := hR.cur; subst this; omega
    have hbase := hR.bel.size
    have hCs := bs_size C
    have hCl := bs_list C
    clear hR H0
    by_cases hlt : k < L.length
    · have hX := fun W => slice_one L k hlt W
      have hA := append_bs C [L[k]]
      obtain ⟨c, hc⟩ : ∃ c : Nat, L[k].toNat = c := ⟨_, rfl⟩
      have hb := byte_bs L k hlt (by rw [hS]; exact hlt) hc
      replace hc := Lib.hid hc
      by_cases h35 : c = 35
      · subst h35
        have HZ := Lib.hid (HR.out.stop hlt hc.out)
        have hown := HZ.out.own
        have hlen := wdF_len (ahead L)
        have hlen3 : (wdF (ahead L)).1.length ≤ 5000 := by
          have h1 : (ahead L).length ≤ L.length := by unfold ahead; exact (List.takeWhile_sublist _).length_le
          omega
        clear hX hA hlen hlen2
        by_cases hC : C = []
        · subst hC
          clear hown
          go_wp2
          go_ret
          exact HZ.out.noW
        · have hCe : C.isEmpty = false := by simpa using hC
          generalize hM : (wdF (ahead L)).1 = M at *
          replace hM := Lib.hid hM
          go_wp2_with (first
            | (at_builtin; refine wpList_append_lies _ rfl (.tmp 41) (.tmp 43) 95 rfl w.heap.size 9 i0 (.string ⟨#[]⟩) 1 16 Tryz.underlying95 hi hz0 hz1 hz2 rfl (by decide) _ _ _ rfl (hown.alloc _) ⟨wr.heap.size, 0, none⟩ 1 1 [.string (bs C)] rfl rfl (news1 _ _ _) (one1 rfl) (by decide) (by unfold maxLen; omega) (by omega) (by simp; omega) _ rfl ?_; intro g cap w1 hown1 hgrow hat hlt1)
            | fail)
          go_wp2
          go_ret
          have h2 := hM.out
          subst h2
          exact HZ.out.oneW hC hown1 hgrow
      · have hne : decide ((c : Int) = 35) = false := decide_eq_false (by omega)
        have hne2 : ((c : Int) == 35) = false := by rw [beq_eq_false_iff_ne]; omega
        have h35' : L[k].toNat ≠ 35 := by rw [hc.out]; exact h35
        by_cases hbl : c = 32 ∨ c = 9
        · have hB : blankB L[k] = true := by unfold blankB; rw [hc.out]; rcases hbl with rfl | rfl <;> rfl
          have hB2 : ((c : Int) == 32) = true ∨ (((c : Int) == 32) = false ∧ ((c : Int) == 9) = true) := by rcases hbl with rfl | rfl <;> decide
          clear hX hA
          by_cases hC : C = []
          · subst hC
            clear hown
            rcases hB2 with hB2 | ⟨hB2, hB3⟩
            all_goals
              go_wp2
              go_roundw
              case rel => exact ⟨k + 1, [], by omega, by go_num, by rw [bs_nil], HR.out.noW hlt h35' hB⟩
              case measure => simp [intOf]; omega
          · have hCe : C.isEmpty = false := by simpa using hC
            generalize hM : (wdF (L.take k)).1 = M at *
            replace hM := Lib.hid hM
            rcases hB2 with hB2 | ⟨hB2, hB3⟩
            all_goals
              go_wp2_with (first
                | (at_builtin; refine wpList_append_lies _ rfl (.tmp 28) (.tmp 30) 95 rfl w.heap.size 9 i0 (.string ⟨#[]⟩) 1 16 Tryz.underlying95 hi hz0 hz1 hz2 rfl (by decide) _ _ _ rfl (hown.alloc _) ⟨wr.heap.size, 0, none⟩ 1 1 [.string (bs C)] rfl rfl (news1 _ _ _) (one1 rfl) (by decide) (by unfold maxLen; omega) (by omega) (by simp; omega) _ rfl ?_; intro g cap w1 hown1 hgrow hat hlt1)
                | fail)
              have hR1 : WdR L w w1 (k + 1) (.slice (some ⟨g, 0, none⟩) (M.length + 1) cap) [] := by
                have := hM.out
                subst this
                exact HR.out.oneW hC hlt h35' hB hown1 hgrow
              clear hown1 hgrow hat hlt1 hown
              go_wp2
              go_roundw
              case rel => exact ⟨k + 1, [], by omega, by go_num, by rw [bs_nil], hR1⟩
              case measure => simp [intOf]; omega
        · have hB : blankB L[k] = false := by unfold blankB; rw [hc.out]; simp; omega
          have hB1 : decide ((c : Int) = 32) = false := decide_eq_false (by omega)
          have hB2 : ((c : Int) == 32) = false := by rw [beq_eq_false_iff_ne]; omega
          have hB3 : decide ((c : Int) = 9) = false := decide_eq_false (by omega)
          have hB4 : ((c : Int) == 9) = false := by rw [beq_eq_false_iff_ne]; omega
          clear hown
          obtain ⟨D, hD⟩ : ∃ D, Hid (D = C ++ [L[k]]) := ⟨_, Lib.hid rfl⟩
          rw [← hD.out] at hA
          have hR1 : Hid (WdR L w wr (k + 1) _ D) := Lib.hid (by rw [hD.out]; exact HR.out.byte hlt h35' hB)
          have h1s : (bs [L[k]]).size = 1 := bs_size _
          have hst : ¬ (9223372036854775807 < C.length + 1) := by omega
          generalize bs [L[k]] = one at *
          go_wp2
          go_roundw
          case rel => exact ⟨k + 1, D, by omega, by go_num, rfl, hR1.out⟩
          case measure => simp [intOf]; omega
    · obtain rfl : k = L.length := by omega
      have HZ := Lib.hid HR.out.end_
      have hown := HZ.out.own
      have hlen := wdF_len (ahead L)
      have hlen3 : (wdF (ahead L)).1.length ≤ 5000 := by
        have h1 : (ahead L).length ≤ L.length := by unfold ahead; exact (List.takeWhile_sublist _).length_le
        omega
      clear hlen hlen2
      by_cases hC : C = []
      · subst hC
        clear hown
        go_wp2
        go_ret
        exact HZ.out.noW
      · have hCe : C.isEmpty = false := by simpa using hC
        generalize hM : (wdF (ahead L)).1 = M at *
        replace hM := Lib.hid hM
        go_wp2_with (first
          | (at_builtin; refine wpList_append_lies _ rfl (.tmp 41) (.tmp 43) 95 rfl w.heap.size 9 i0 (.string ⟨#[]⟩) 1 16 Tryz.underlying95 hi hz0 hz1 hz2 rfl (by decide) _ _ _ rfl (hown.alloc _) ⟨wr.heap.size, 0, none⟩ 1 1 [.string (bs C)] rfl rfl (news1 _ _ _) (one1 rfl) (by decide) (by unfold maxLen; omega) (by omega) (by simp; omega) _ rfl ?_; intro g cap w1 hown1 hgrow hat hlt1)
          | fail)
        go_wp2
        go_ret
        have h2 := hM.out
        subst h2
        exact HZ.out.oneW hC hown1 hgrow
end Go.Proofs.YtacpcjdiljnlaaaGreatDoor
namespace Go.Proofs.YtacpcjdiljnlaaaGreatDoor
set_option linter.unusedVariables false
set_option linter.unusedSimpArgs false
open Go.ChangeShapes Go.WideShapes Go.ChangeAt Go.RowKit
theorem infoTok : (Tryz.prog.info? 97).map (fun i => (i.zero, i.size, i.bytes)) = some (some (.agg #[.string ⟨#[]⟩, .int .i64 0]), 2, 24) := by kernel_rfl
def tokV (t : Tok) : List Value := [strV t.1, .int .i64 t.2]
def tokVs (T : List Tok) : List Value := T.flatMap tokV
theorem tokVs_snoc (T : List Tok) (t : List UInt8) (n : Int) : tokVs (T ++ [(t, n)]) = tokVs T ++ [strV t, .int .i64 n] := by unfold tokVs; simp [tokV]
def RetTok (T : List Tok) (e : Int) (w : World) (r : Ending) (w' : World) : Prop :=
  ∃ v, r = .returned (.tuple #[v, .int .i64 e]) ∧ w'.ownsRow w.heap.size 97 2 v T.length (tokVs T) ∧ Below w.heap.size w w'
structure TkR (B : Nat) (w1 wr : World) (v : Value) (T : List Tok) : Prop where
  own : wr.ownsRow B 97 2 v T.length (tokVs T)
  bel : Below B w1 wr
structure TkI (B : Nat) (w1 wr : World) (v : Value) (T : List Tok) (g2 : Nat) (ws : List (List UInt8)) : Prop where
  own : wr.ownsRow B 97 2 v T.length (tokVs T)
  bel : Below B w1 wr
  lies : Lies wr g2 (ws.map strV)
  lt : 0 < ws.length → g2 < wr.heap.size ∧ v.ownBlock ≠ some g2
theorem TkR.app {B : Nat} {w1 wr w3 : World} {v : Value} {T : List Tok} {t : List UInt8} {n x : Int} {g cap : Nat} {o : Obj} (h : TkR B w1 wr v T) (hB : B ≤ wr.heap.size) (hx : x = n)
    (hown : w3.ownsRow B 97 2 (.slice (some ⟨g, 0, none⟩) (T.length + 1) cap) (T.length + 1) (tokVs T ++ [.string (bs t), .int .i64 x])) (hg : (wr.alloc o).grownBy w3 v.ownBlock) :
    TkR B w1 w3 (.slice (some ⟨g, 0, none⟩) (T.length + 1) cap) (T ++ [(t, n)]) := by
  subst hx
  refine ⟨?_, bel_append h.bel hB h.own hg⟩
  rw [tokVs_snoc, List.length_append]
  exact hown
theorem TkI.step {B : Nat} {w1 wr w3 : World} {v : Value} {T : List Tok} {g2 : Nat} {ws : List (List UInt8)} {t : List UInt8} {n x : Int} {g cap : Nat} {o : Obj} (h : TkI B w1 wr v T g2 ws) (hB : B ≤ wr.heap.size) (h0 : 0 < ws.length) (hx : x = n)
    (hown : w3.ownsRow B 97 2 (.slice (some ⟨g, 0, none⟩) (T.length + 1) cap) (T.length + 1) (tokVs T ++ [.string (bs t), .int .i64 x])) (hg : (wr.alloc o).grownBy w3 v.ownBlock)
    (hat : v.ownBlock = some g ∨ g = (wr.alloc o).heap.size) : TkI B w1 w3 (.slice (some ⟨g, 0, none⟩) (T.length + 1) cap) (T ++ [(t, n)]) g2 ws := by
  have hR : TkR B w1 w3 (.slice (some ⟨g, 0, none⟩) (T.length + 1) cap) (T ++ [(t, n)]) := TkR.app ⟨h.own, h.bel⟩ hB hx hown hg
  obtain ⟨h2, hne⟩ := h.lt h0
  have hs := hg.size
  have hs2 : (wr.alloc o).heap.size = wr.heap.size + 1 := by simp
  refine ⟨hR.own, hR.bel, h.lies.keep (app_keep hg h2 hne), fun _ => ⟨by omega, ?_⟩⟩
  have := app_ne hat h2 hne
  intro e
  apply this
  simpa [Value.ownBlock] using e
theorem TkI.start {B : Nat} {w1 wr w2 : World} {v : Value} {T : List Tok} {g2 : Nat} {ws : List (List UInt8)} (h : TkR B w1 wr v T) (hb2 : Below wr.heap.size wr w2) (hB : B ≤ wr.heap.size) (hl : Lies w2 g2 (ws.map strV)) (hg : 0 < ws.length → wr.heap.size ≤ g2 ∧ g2 < w2.heap.size) : TkI B w1 w2 v T g2 ws :=
  ⟨own_up h.own hb2, h.bel.trans (hb2.mono hB), hl, fun h0 => ⟨(hg h0).2, own_lt h.own (hg h0).1⟩⟩
theorem bs_nl : (⟨#[10]⟩ : ByteArray) = bs [10] := by unfold bs; rfl
theorem line_none {n : Int} {l : List UInt8} (h : ¬ 0 < (wordsL l).length) : lineT n l = [] := by
  have e : wordsL l = [] := by rw [← List.length_eq_zero_iff]; omega
  unfold lineT; rw [if_pos e, e]; rfl
theorem line_some {n : Int} {l : List UInt8} (h : 0 < (wordsL l).length) : lineT n l = (wordsL l).map (fun t => (t, n)) ++ [([10], n)] := by
  have e : wordsL l ≠ [] := by intro e; rw [e] at h; exact absurd h (by decide)
  unfold lineT; rw [if_neg e]
theorem lex_big {l : List UInt8} (h : 4096 < l.length) : lexE l = 1 ∧ lexT l = [] := by
  have e : lexE l = 1 := if_pos h
  exact ⟨e, by unfold lexT; rw [e]; rfl⟩
theorem lex_many {l : List UInt8} (h : ¬ 4096 < l.length) (h2 : 1024 < (tokL l).length) : lexE l = 1 ∧ lexT l = [] := by
  have e : lexE l = 1 := by unfold lexE; rw [if_neg h]; exact if_pos h2
  exact ⟨e, by unfold lexT; rw [e]; rfl⟩
theorem lex_bad {l : List UInt8} (h : ¬ 4096 < l.length) (h2 : ¬ 1024 < (tokL l).length) (h3 : badB l = true) : lexE l = 2 ∧ lexT l = [] := by
  have e : lexE l = 2 := by unfold lexE; rw [if_neg h, if_neg h2]; exact if_pos h3
  exact ⟨e, by unfold lexT; rw [e]; rfl⟩
theorem lex_ok {l : List UInt8} (h : ¬ 4096 < l.length) (h2 : ¬ 1024 < (tokL l).length) (h3 : badB l = false) : lexE l = 0 ∧ lexT l = tokL l := by
  have e : lexE l = 0 := by unfold lexE; rw [if_neg h, if_neg h2]; exact if_neg (by rw [h3]; decide)
  exact ⟨e, by unfold lexT; rw [e]; rfl⟩
set_option maxHeartbeats 1600000 in
set_option maxRecDepth 100000 in
theorem rLex_big (L : List UInt8) (h : 4096 < L.length) (w : World) : Calls Tryz.prog 56 #[.string (bs L)] w (RetTok (lexT L) (lexE L) w) := by
  obtain ⟨e1, e2⟩ := lex_big h
  have hS := bs_size L
  rw [e1, e2]
  go_enter Tryz.func56, Tryz.ntmps56
  go_wp2
  go_ret2
  exact ⟨_, rfl, World.ownsRow_nil _ _ _ _, Below.refl _ _⟩
theorem odd_cases (c : Nat) : ((c < 32 ∧ ¬ 126 < c ∧ ¬ c = 10 ∧ ¬ c = 9) ∨ (¬ c < 32 ∧ 126 < c ∧ ¬ c = 10 ∧ ¬ c = 9)) ∨ (c = 9 ∨ c = 10 ∨ (¬ c < 32 ∧ ¬ 126 < c)) := by omega
theorem odd_yes {x : UInt8} {c : Nat} (hc : x.toNat = c) (h : (c < 32 ∧ ¬ 126 < c ∧ ¬ c = 10 ∧ ¬ c = 9) ∨ (¬ c < 32 ∧ 126 < c ∧ ¬ c = 10 ∧ ¬ c = 9)) : oddB x = true := by
  subst hc; unfold oddB; simp; omega
theorem odd_no {x : UInt8} {c : Nat} (hc : x.toNat = c) (h : c = 9 ∨ c = 10 ∨ (¬ c < 32 ∧ ¬ 126 < c)) : oddB x = false := by
  subst hc; unfold oddB; simp; omega
set_option maxHeartbeats 6400000 in
set_option maxRecDepth 100000 in
theorem rLex_any (L : List UInt8) (h : ¬ 4096 < L.length) (w : World) : Calls Tryz.prog 56 #[.string (bs L)] w (RetTok (lexT L) (lexE L) w) := by
  obtain ⟨i0, hi, hz0, hz1, hz2⟩ := info_parts infoTok
  have hS := bs_size L
  have hL : L.length ≤ 4096 := by omega
  have H1 := Lib.hid (rLines_any L hL)
  have HW := Lib.hid rWords_any
  go_enter Tryz.func56, Tryz.ntmps56
  go_wp2
  go_loop [4, 5] (fun b i => ∃ k : Nat, k ≤ L.length ∧ i = .int .i64 (k : Int) ∧ b = .bool (badB (L.take k))) (fun _ i => L.length - (intOf i).toNat)
  case atStart => exact ⟨0, by omega, rfl, rfl⟩
  case round =>
    obtain ⟨k, hk, rfl, rfl⟩ := hrel
    by_cases hlt : k < L.length
    · obtain ⟨c, hc⟩ : ∃ c : Nat, L[k].toNat = c := ⟨_, rfl⟩
      have hb := byte_bs L k hlt (by rw [hS]; exact hlt) hc
      have hB : badB (L.take (k + 1)) = (badB (L.take k) || oddB L[k]) := by rw [take_snoc hlt, badB_snoc]
      cases hbad : badB (L.take k)
      · replace hbad := Lib.hid hbad
        rcases odd_cases c with ho | ho
        · have hO := Lib.hid (odd_yes hc ho)
          replace hc := Lib.hid hc
          replace hB := Lib.hid hB
          have m1 : ((c : Int) != 10) = true := bne_iff_ne.2 (by omega)
          have m2 : ((c : Int) != 9) = true := bne_iff_ne.2 (by omega)
          rcases ho with ⟨h1, h2, h3, h4⟩ | ⟨h1, h2, h3, h4⟩
          all_goals
            go_wp2
            go_round
            case rel => exact ⟨k + 1, by omega, by go_num, by rw [hB.out, hbad.out, hO.out]; first | rfl | (simp; omega)⟩
            case measure => simp [intOf]; omega
        · have hO := Lib.hid (odd_no hc ho)
          replace hc := Lib.hid hc
          replace hB := Lib.hid hB
          rcases ho with rfl | rfl | ⟨h1, h2⟩
          all_goals
            go_wp2
            go_round
            case rel => exact ⟨k + 1, by omega, by go_num, by rw [hB.out, hbad.out, hO.out]; first | rfl | (simp; omega)⟩
            case measure => simp [intOf]; omega
      · replace hbad := Lib.hid hbad
        replace hc := Lib.hid hc
        replace hB := Lib.hid hB
        go_wp2
        go_round
        case rel => exact ⟨k + 1, by omega, by go_num, by rw [hB.out, hbad.out]; rfl⟩
        case measure => simp [intOf]; omega
    · obtain rfl : k = L.length := by omega
      rw [List.take_length]
      go_wp2_with fail
      refine (H1.out _).mono ?_
      rintro e w1 ⟨v1, rfl, hown1, hb1⟩
      obtain ⟨A1, c1, g1, rfl, hl1, hA1, _⟩ := own_form hown1
      obtain ⟨n1, n2⟩ := linesL_len L
      obtain ⟨rfl, hg1, hg2⟩ := hA1 n1
      have hb1s := hb1.size
      obtain ⟨B, hBe⟩ : ∃ B, B = w1.heap.size := ⟨_, rfl⟩
      have hmem := linesL_mem L
      have HE : Hid (tokL L = tokFrom 0 (linesL L)) := Lib.hid rfl
      have HT0 : Hid (TkR B w1 w1 (.slice none 0 0) (tokFrom 0 ((linesL L).take 0))) := Lib.hid ⟨World.ownsRow_nil _ _ _ _, Below.refl _ _⟩
      generalize linesL L = ls at *
      replace hb1 := Lib.hid hb1
      replace hl1 := Lib.hid hl1
      replace hmem := Lib.hid hmem
      have hg3 : g1 < B := by omega
      have hBw : w.heap.size ≤ B := by omega
      replace hBe := Lib.hid hBe
      clear hown1 hA1 H1
      go_simp
      go_wp2
      go_loopw [6, 8] (fun v i wr => ∃ k : Nat, k ≤ ls.length ∧ i = .int .i64 (k : Int) ∧ TkR B w1 wr v (tokFrom 0 (ls.take k))) (fun _ i _ => ls.length - (intOf i).toNat)
      case atStart => exact ⟨0, by omega, rfl, HT0.out⟩
      case round =>
        obtain ⟨k, hk, rfl, hR⟩ := hrel
        clear HT0
        by_cases hlt : k < ls.length
        · have hcell : wr.cell? ⟨g1, k, none⟩ = some (strV ls[k]) := (hl1.out.below hR.bel hg3) k _ (by simp [hlt])
          have hln : ls[k].length ≤ 4096 := by have := hmem.out ls[k] (by simp); omega
          have H2 := Lib.hid (HW.out ls[k] hln)
          have HR := Lib.hid hR
          have hBr : B ≤ wr.heap.size := by have := hR.bel.size; have := hBe.out; omega
          unfold strV at hcell
          clear hR
          have hTS : tokFrom 0 (ls.take (k + 1)) = tokFrom 0 (ls.take k) ++ lineT ((k : Int) + 1) ls[k] := by
            rw [List.take_succ_eq_append_getElem hlt, tokFrom_snoc]; congr 2; simp; omega
          have hTl := tokFrom_len 4096 0 (ls.take k) (fun x hx => by have := hmem.out x (List.mem_of_mem_take hx); omega)
          have hkl : (ls.take k).length ≤ 4097 := by simp; omega
          have hTl2 : (tokFrom 0 (ls.take k)).length ≤ 17000000 := Nat.le_trans hTl (Nat.le_trans (Nat.mul_le_mul_right 4097 hkl) (by decide))
          have hwl := wordsL_len ls[k]
          generalize hlk : ls[k] = lk at *
          generalize hT : tokFrom 0 (ls.take k) = T at *
          replace hlk := Lib.hid hlk
          replace hT := Lib.hid hT
          replace hTS := Lib.hid hTS
          clear hTl hkl
          go_wp2_with fail
          refine (H2.out _).mono ?_
          rintro e w2 ⟨v2, rfl, hown2, hb2⟩
          obtain ⟨A2, c2, g2, rfl, hl2, hA2, _⟩ := own_form hown2
          have HI0 := Lib.hid (TkI.start HR.out hb2 hBr hl2 (fun h0 => (hA2 (by exact h0)).2))
          have HL0 := Lib.hid (fun h => line_none (n := (k : Int) + 1) (l := lk) h)
          have HL1 := Lib.hid (fun h => line_some (n := (k : Int) + 1) (l := lk) h)
          have hA2 : Hid (0 < (wordsL lk).length → A2 = some ⟨g2, 0, none⟩) := Lib.hid (fun h0 => (hA2 h0).1)
          have hBr2 : B ≤ w2.heap.size := by have := hb2.size; omega
          clear hown2 hl2 hb2 hcell H2
          generalize wordsL lk = ws at *
          have HI1 : Hid (TkI B w1 w2 _ (T ++ (ws.take 0).map (fun t => (t, (k : Int) + 1))) g2 ws) := Lib.hid (by simpa using HI0.out)
          clear HI0
          go_simp
          go_wp2
          go_loopw [6, 10] (fun v i wx => ∃ j : Nat, j ≤ ws.length ∧ i = .int .i64 (j : Int) ∧ B ≤ wx.heap.size ∧ TkI B w1 wx v (T ++ (ws.take j).map (fun t => (t, (k : Int) + 1))) g2 ws) (fun _ i _ => ws.length - (intOf i).toNat)
          case atStart => exact ⟨0, by omega, rfl, hBr2, HI1.out⟩
          case round =>
            obtain ⟨j, hj, rfl, hBx, hI⟩ := hrel
            clear HI1
            have HI := Lib.hid hI
            by_cases hlj : j < ws.length
            · have h0 : 0 < ws.length := by omega
              obtain rfl := hA2.out h0
              have hown := hI.own
              have hcell : wr.cell? ⟨g2, j, none⟩ = some (strV ws[j]) := hI.lies j _ (by simp [hlj])
              have hTS2 : T ++ (ws.take (j + 1)).map (fun t => (t, (k : Int) + 1)) = T ++ (ws.take j).map (fun t => (t, (k : Int) + 1)) ++ [(ws[j], (k : Int) + 1)] := by
                rw [List.take_succ_eq_append_getElem hlj, List.map_append, List.append_assoc]; rfl
              have hT1l : (T ++ (ws.take j).map (fun t => (t, (k : Int) + 1))).length ≤ 17004096 := by simp; omega
              replace hTS2 := Lib.hid hTS2
              clear hI
              unfold strV at hcell
              generalize ws[j] = t at *
              generalize T ++ (ws.take j).map (fun t => (t, (k : Int) + 1)) = T1 at *
              go_wp2_with (first
                | (at_builtin; refine wpList_append_lies _ rfl (.tmp 64) (.tmp 72) 92 rfl B 97 i0 (.agg #[.string ⟨#[]⟩, .int .i64 0]) 2 24 Tryz.underlying92 hi hz0 hz1 hz2 rfl (by decide) _ _ _ rfl (hown.alloc _) ⟨wr.heap.size, 0, none⟩ 1 1 [.string (bs t), .int .i64 ((k : Int) + 1)] rfl rfl (news2 _ _ _ _) (one2 rfl rfl) (by decide) (by unfold maxLen; omega) (by omega) (by simp; omega) _ rfl ?_; intro g cap w3 hown1 hgrow hat hlt1)
                | fail)
              have hI1 : Hid (TkI B w1 w3 (.slice (some ⟨g, 0, none⟩) (T1.length + 1) cap) (T1 ++ [(t, (k : Int) + 1)]) g2 ws) := Lib.hid (HI.out.step hBx h0 (by omega) hown1 hgrow hat)
              have hBy : B ≤ w3.heap.size := by have := hgrow.size; simp at this; omega
              clear hown1 hgrow hat hlt1 hown hcell
              go_wp2
              go_roundw
              case rel => exact ⟨j + 1, by omega, by go_num, hBy, by rw [hTS2.out]; exact hI1.out⟩
              case measure => simp [intOf]; omega
            · obtain rfl : j = ws.length := by omega
              have hT1l : (T ++ (ws.take ws.length).map (fun t => (t, (k : Int) + 1))).length ≤ 17004096 := by simp; omega
              have hown := hI.own
              rw [List.take_length] at hown hT1l hI
              replace HI := Lib.hid hI
              clear hI
              by_cases h0 : 0 < ws.length
              · have HT1 : Hid (T ++ lineT ((k : Int) + 1) lk = T ++ ws.map (fun t => (t, (k : Int) + 1)) ++ [([10], (k : Int) + 1)]) := Lib.hid (by rw [HL1.out h0, List.append_assoc])
                generalize T ++ ws.map (fun t => (t, (k : Int) + 1)) = T1 at *
                have hnl := Lib.hid bs_nl
                go_wp2_with (first
                  | (at_builtin; refine wpList_append_lies _ rfl (.tmp 77) (.tmp 81) 92 rfl B 97 i0 (.agg #[.string ⟨#[]⟩, .int .i64 0]) 2 24 Tryz.underlying92 hi hz0 hz1 hz2 rfl (by decide) _ _ _ rfl (hown.alloc _) ⟨wr.heap.size, 0, none⟩ 1 1 [.string ⟨#[10]⟩, .int .i64 ((k : Int) + 1)] rfl rfl (news2 _ _ _ _) (one2 rfl rfl) (by decide) (by unfold maxLen; omega) (by omega) (by simp; omega) _ rfl ?_; intro g cap w3 hown1 hgrow hat hlt1)
                  | fail)
                have hR1 : Hid (TkR B w1 w3 (.slice (some ⟨g, 0, none⟩) (T1.length + 1) cap) (T1 ++ [([10], (k : Int) + 1)])) := by
                  rw [hnl.out] at hown1
                  exact Lib.hid (TkR.app (o := _) ⟨HI.out.own, HI.out.bel⟩ hBx (by omega) hown1 hgrow)
                clear hown1 hgrow hat hlt1 hown hnl
                go_wp2
                go_roundw
                case rel => exact ⟨k + 1, by omega, by go_num, by rw [hTS.out, HT1.out]; exact hR1.out⟩
                case measure => simp [intOf]; omega
              · have HT1 : Hid (T ++ lineT ((k : Int) + 1) lk = T ++ ws.map (fun t => (t, (k : Int) + 1))) := Lib.hid (by rw [HL0.out h0, show ws = [] by rw [← List.length_eq_zero_iff]; omega]; rfl)
                clear hown
                go_wp2
                go_roundw
                case rel => exact ⟨k + 1, by omega, by go_num, by rw [hTS.out, HT1.out]; exact ⟨HI.out.own, HI.out.bel⟩⟩
                case measure => simp [intOf]; omega
        · obtain rfl : k = ls.length := by omega
          have hE := HE.out
          rw [List.take_length, ← hE] at hR
          have hown := own_base hR.own hBw
          have hbel : Hid (Below w.heap.size w wr) := Lib.hid (hb1.out.trans (hR.bel.mono hBw))
          obtain ⟨A3, c3, g3, rfl, _⟩ := own_form hown
          replace hown := Lib.hid hown
          clear hR hE
          by_cases h1024 : 1024 < (tokL L).length
          · have E1 := Lib.hid (lex_many h h1024).1
            have E2 := Lib.hid (lex_many h h1024).2
            generalize hTK : tokL L = TK at *
            replace hTK := Lib.hid hTK
            go_wp2
            go_ret2
            rw [E1.out, E2.out]
            exact ⟨_, rfl, World.ownsRow_nil _ _ _ _, hbel.out⟩
          · cases hbad : badB L
            · have E1 := Lib.hid (lex_ok h h1024 hbad).1
              have E2 := Lib.hid (lex_ok h h1024 hbad).2
              generalize hTK : tokL L = TK at *
              replace hTK := Lib.hid hTK
              replace hbad := Lib.hid hbad
              go_wp2
              go_ret2
              rw [E1.out, E2.out]
              exact ⟨_, rfl, hown.out, hbel.out⟩
            · have E1 := Lib.hid (lex_bad h h1024 hbad).1
              have E2 := Lib.hid (lex_bad h h1024 hbad).2
              generalize hTK : tokL L = TK at *
              replace hTK := Lib.hid hTK
              replace hbad := Lib.hid hbad
              go_wp2
              go_ret2
              rw [E1.out, E2.out]
              exact ⟨_, rfl, World.ownsRow_nil _ _ _ _, hbel.out⟩
end Go.Proofs.YtacpcjdiljnlaaaGreatDoor
namespace Go.Proofs.YtacpcjdiljnlaaaGreatDoor
set_option linter.unusedVariables false
set_option linter.unusedSimpArgs false
open Go.ChangeShapes Go.WideShapes Go.ChangeAt Go.RowKit
def Rd (w : World) (A : Option Addr) (xs : List Value) : Prop := ∀ j u, xs[j]? = some u → ∃ b o, A = some ⟨b, o, none⟩ ∧ b < w.heap.size ∧ w.cell? ⟨b, o + j, none⟩ = some u
theorem Rd.below {w w' : World} {A : Option Addr} {xs : List Value} {B : Nat} (h : Rd w A xs) (hb : Below B w w') (hB : w.heap.size ≤ B) : Rd w' A xs := fun j u hu => by
  obtain ⟨b, o, h1, h2, h3⟩ := h j u hu
  exact ⟨b, o, h1, Nat.lt_of_lt_of_le h2 hb.size, (hb.cell (p := ⟨b, o + j, none⟩) (by show b < B; omega)).trans h3⟩
theorem Rd.own {w : World} {base : Nat} {e : TypeId} {size : Nat} {A : Option Addr} {n m c : Nat} {xs : List Value} (h : w.ownsRow base e size (.slice A m c) n xs) : Rd w A xs := fun j u hu => by
  obtain ⟨A', c', g, hv, hl, hA, _⟩ := own_form h
  have hn : 0 < n := by
    have h1 := h.1
    rcases Nat.eq_zero_or_pos n with h0 | h0
    · subst h0
      rw [Nat.zero_mul] at h1
      rw [List.length_eq_zero_iff] at h1
      subst h1
      simp at hu
    · exact h0
  obtain ⟨h1, h2, h3⟩ := hA hn
  obtain ⟨rfl, rfl, rfl⟩ : A = A' ∧ m = n ∧ c = c' := by simpa using hv
  exact ⟨g, 0, h1, h3, by rw [Nat.zero_add]; exact hl j u hu⟩
theorem Rd.at_ {w : World} {A : Option Addr} {xs : List Value} (h : Rd w A xs) {b o : Nat} (hA : A = some ⟨b, o, none⟩) {j : Nat} {u : Value} (hu : xs[j]? = some u) : w.cell? ⟨b, o + j, none⟩ = some u := by
  obtain ⟨b', o', h1, h2, h3⟩ := h j u hu
  rw [hA] at h1
  obtain ⟨rfl, rfl⟩ : b = b' ∧ o = o' := by simpa using h1
  exact h3
theorem tokVs_at (T : List Tok) (k : Nat) (h : k < T.length) : (tokVs T)[2 * k]? = some (strV T[k].1) ∧ (tokVs T)[2 * k + 1]? = some (.int .i64 T[k].2) := by
  induction T generalizing k with
  | nil => simp at h
  | cons t T ih =>
    have e : tokVs (t :: T) = strV t.1 :: .int .i64 t.2 :: tokVs T := by unfold tokVs; rw [List.flatMap_cons]; rfl
    rw [e]
    cases k with
    | zero => exact ⟨rfl, rfl⟩
    | succ k =>
      rw [show 2 * (k + 1) = 2 * k + 1 + 1 by omega]
      simpa using ih k (by simpa using h)
theorem Rd.tok {w : World} {A : Option Addr} {T : List Tok} (h : Rd w A (tokVs T)) {k : Nat} (hk : k < T.length) :
    ∃ b o, A = some ⟨b, o, none⟩ ∧ b < w.heap.size ∧ ∀ j (hj : j < T.length), w.cell? ⟨b, o + j * 2, none⟩ = some (.string (bs T[j].1)) ∧ w.cell? ⟨b, o + j * 2 + 1, none⟩ = some (.int .i64 T[j].2) := by
  obtain ⟨h1, h2⟩ := tokVs_at T k hk
  obtain ⟨b, o, hA, hb, hc⟩ := h _ _ h1
  refine ⟨b, o, hA, hb, fun j hj => ?_⟩
  obtain ⟨h3, h4⟩ := tokVs_at T j hj
  have h5 := h.at_ hA h3
  have h6 := h.at_ hA h4
  rw [show 2 * j = j * 2 by omega] at h5 h6
  exact ⟨h5, by rw [Nat.add_assoc]; exact h6⟩
theorem rLexA_any (L : List UInt8) (w : World) : Calls Tryz.prog 56 #[.string (bs L)] w (RetTok (lexT L) (lexE L) w) := by
  by_cases h : 4096 < L.length
  · exact rLex_big L h w
  · exact rLex_any L h w
end Go.Proofs.YtacpcjdiljnlaaaGreatDoor
namespace Go.Proofs.YtacpcjdiljnlaaaGreatDoor
set_option linter.unusedVariables false
set_option linter.unusedSimpArgs false
structure LxS where
  out : List Tok
  ln : Int
  cur : List UInt8
  note : Bool
  any : Bool
def lx0 : LxS := ⟨[], 1, [], false, false⟩
def lxFl (S : LxS) : LxS := ⟨S.out ++ (if S.cur = [] then [] else [(S.cur, S.ln)]), S.ln, [], S.note, S.any || !S.cur.isEmpty⟩
def lxNl (S : LxS) : LxS := ⟨(lxFl S).out ++ (if (lxFl S).any = true then [([10], S.ln)] else []), S.ln + 1, [], false, false⟩
def lxStep (S : LxS) (c : UInt8) : LxS :=
  if c.toNat = 10 then lxNl S else if S.note = true then S else if c.toNat = 35 then { lxFl S with note := true } else if blankB c = true then lxFl S else { S with cur := S.cur ++ [c] }
def lxF (l : List UInt8) : LxS := l.foldl lxStep lx0
theorem lxF_snoc (l : List UInt8) (c : UInt8) : lxF (l ++ [c]) = lxStep (lxF l) c := by unfold lxF; rw [List.foldl_append]; rfl
def hashB (x : List UInt8) : Bool := x.any (fun c => c.toNat == 35)
theorem hash_snoc (x : List UInt8) (c : UInt8) : hashB (x ++ [c]) = (hashB x || c.toNat == 35) := by unfold hashB; simp
theorem ahead_of {x : List UInt8} (h : hashB x = false) : ahead x = x := by
  unfold ahead hashB at *
  induction x with
  | nil => rfl
  | cons c x ih =>
    rw [List.any_cons, Bool.or_eq_false_iff] at h
    rw [List.takeWhile_cons_of_pos (by simp; simpa using h.1), ih h.2]
theorem ahead_snoc {x : List UInt8} (y : List UInt8) (h : hashB x = true) : ahead (x ++ y) = ahead x := by
  unfold ahead hashB at *
  induction x with
  | nil => simp at h
  | cons c x ih =>
    by_cases hc : c.toNat = 35
    · rw [List.cons_append, List.takeWhile_cons_of_neg (by simp [hc]), List.takeWhile_cons_of_neg (by simp [hc])]
    · rw [List.any_cons] at h
      have h2 : x.any (fun c => c.toNat == 35) = true := by simpa [hc] using h
      rw [List.cons_append, List.takeWhile_cons_of_pos (by simp [hc]), List.takeWhile_cons_of_pos (by simp [hc]), ih h2]
theorem ahead_hash {x : List UInt8} {c : UInt8} (h : hashB x = false) (hc : c.toNat = 35) : ahead (x ++ [c]) = x := by
  unfold ahead
  have e := ahead_of h
  unfold ahead at e
  have hp : ∀ y ∈ x, (y.toNat != 35) = true := by
    intro y hy
    have hy2 : y ∈ List.takeWhile (fun c => c.toNat != 35) x := by rw [e]; exact hy
    exact List.all_eq_true.1 (List.all_takeWhile (p := fun c : UInt8 => c.toNat != 35)) y hy2
  rw [List.takeWhile_append_of_pos hp, List.takeWhile_cons_of_neg (by simp [hc]), List.append_nil]
structure LxI (l : List UInt8) (S : LxS) : Prop where
  ln : S.ln = ((lnF l).1.length : Int) + 1
  note : S.note = hashB (lnF l).2
  yes : hashB (lnF l).2 = true → S.cur = [] ∧ S.out = tokFrom 0 (lnF l).1 ++ (wordsL (lnF l).2).map (fun t => (t, S.ln)) ∧ S.any = !(wordsL (lnF l).2).isEmpty
  no : hashB (lnF l).2 = false → S.cur = (wdF (lnF l).2).2 ∧ S.out = tokFrom 0 (lnF l).1 ++ (wdF (lnF l).2).1.map (fun t => (t, S.ln)) ∧ S.any = !(wdF (lnF l).2).1.isEmpty
theorem LxI.fl {l : List UInt8} {S : LxS} (h : LxI l S) : (lxFl S).out = tokFrom 0 (lnF l).1 ++ (wordsL (lnF l).2).map (fun t => (t, S.ln)) ∧ (lxFl S).any = !(wordsL (lnF l).2).isEmpty := by
  cases hh : hashB (lnF l).2
  · obtain ⟨h1, h2, h3⟩ := h.no hh
    have e : wordsL (lnF l).2 = wdEnd (wdF (lnF l).2) := by unfold wordsL; rw [ahead_of hh]
    rw [e]
    unfold lxFl
    by_cases hc : (wdF (lnF l).2).2 = []
    · rw [wdEnd_none hc, h1, hc]
      simp only [if_true, List.append_nil, List.isEmpty_nil, Bool.not_true, Bool.or_false]
      exact ⟨h2, h3⟩
    · rw [wdEnd_some hc, h1]
      simp only [if_neg hc]
      refine ⟨by rw [h2]; simp, ?_⟩
      have : (wdF (lnF l).2).2.isEmpty = false := by simpa using hc
      rw [this]
      simp
  · obtain ⟨h1, h2, h3⟩ := h.yes hh
    unfold lxFl
    rw [h1]
    simp only [if_true, List.append_nil, List.isEmpty_nil, Bool.not_true, Bool.or_false]
    exact ⟨h2, h3⟩
theorem LxI.nl {l : List UInt8} {S : LxS} (h : LxI l S) : (lxNl S).out = tokFrom 0 ((lnF l).1 ++ [(lnF l).2]) := by
  obtain ⟨h1, h2⟩ := h.fl
  rw [tokFrom_snoc]
  unfold lxNl
  simp only [h1, h2]
  rw [List.append_assoc]
  congr 1
  have e : ((0 : Nat) : Int) + ((lnF l).1.length : Int) + 1 = S.ln := by rw [h.ln]; omega
  rw [e]
  unfold lineT
  congr 1
  by_cases hw : wordsL (lnF l).2 = []
  · rw [if_pos hw, hw]; rfl
  · rw [if_neg hw]
    have : (wordsL (lnF l).2).isEmpty = false := by simpa using hw
    rw [this]; rfl
theorem lx_inv (l : List UInt8) : LxI l (lxF l) := by
  induction l using snocInd with
  | h0 => exact ⟨rfl, rfl, fun h => by simp [lnF, hashB] at h, fun _ => ⟨rfl, rfl, rfl⟩⟩
  | h l c ih =>
    rw [lxF_snoc]
    generalize lxF l = S at *
    by_cases h10 : c.toNat = 10
    · have e : lxStep S c = lxNl S := if_pos h10
      rw [e]
      have o := ih.nl
      refine ⟨?_, ?_, fun h => ?_, fun _ => ?_⟩
      · rw [lnF_nl h10]; unfold lxNl; simp [ih.ln]
      · rw [lnF_nl h10]; rfl
      · rw [lnF_nl h10] at h; cases h
      · rw [lnF_nl h10]
        exact ⟨rfl, by rw [o]; simp [wdF], rfl⟩
    · have eL := lnF_no h10 (l := l)
      cases hh : hashB (lnF l).2
      · have hn : S.note = false := ih.note.trans hh
        obtain ⟨n1, n2, n3⟩ := ih.no hh
        by_cases h35 : c.toNat = 35
        · have e : lxStep S c = { lxFl S with note := true } := by unfold lxStep; rw [if_neg h10, hn, if_neg (by decide), if_pos h35]
          obtain ⟨f1, f2⟩ := ih.fl
          have hx : wordsL ((lnF l).2 ++ [c]) = wordsL (lnF l).2 := by unfold wordsL; rw [ahead_hash hh h35, ahead_of hh]
          have hy : hashB ((lnF l).2 ++ [c]) = true := by rw [hash_snoc, hh, h35]; rfl
          rw [e]
          refine ⟨?_, ?_, fun _ => ?_, fun h => ?_⟩
          · rw [eL]; exact ih.ln
          · rw [eL]; exact hy.symm
          · rw [eL]; show _ ∧ _ ∧ _; rw [hx]; exact ⟨rfl, f1, f2⟩
          · rw [eL] at h; rw [hy] at h; cases h
        · have hy : hashB ((lnF l).2 ++ [c]) = false := by rw [hash_snoc, hh]; simpa using h35
          cases hb : blankB c
          · have e : lxStep S c = { S with cur := S.cur ++ [c] } := by unfold lxStep; rw [if_neg h10, hn, if_neg (by decide), if_neg h35, if_neg (by rw [hb]; decide)]
            rw [e]
            refine ⟨?_, ?_, fun h => ?_, fun _ => ?_⟩
            · rw [eL]; exact ih.ln
            · rw [eL]; exact hn.trans hy.symm
            · rw [eL] at h; rw [hy] at h; cases h
            · rw [eL]; show _ ∧ _ ∧ _; rw [wdF_byte hb]; exact ⟨by rw [← n1], n2, n3⟩
          · have e : lxStep S c = lxFl S := by unfold lxStep; rw [if_neg h10, hn, if_neg (by decide), if_neg h35, if_pos hb]
            obtain ⟨f1, f2⟩ := ih.fl
            have hw : wordsL (lnF l).2 = wdEnd (wdF (lnF l).2) := by unfold wordsL; rw [ahead_of hh]
            rw [hw] at f1 f2
            rw [e]
            refine ⟨?_, ?_, fun h => ?_, fun _ => ?_⟩
            · rw [eL]; exact ih.ln
            · rw [eL]; exact hn.trans hy.symm
            · rw [eL] at h; rw [hy] at h; cases h
            · rw [eL]; show _ ∧ _ ∧ _; rw [wdF_blank hb]; exact ⟨rfl, f1, f2⟩
      · have hn : S.note = true := ih.note.trans hh
        have e : lxStep S c = S := by unfold lxStep; rw [if_neg h10, if_pos hn]
        have hy : hashB ((lnF l).2 ++ [c]) = true := by rw [hash_snoc, hh]; rfl
        have hx : wordsL ((lnF l).2 ++ [c]) = wordsL (lnF l).2 := by unfold wordsL; rw [ahead_snoc _ hh]
        rw [e]
        obtain ⟨y1, y2, y3⟩ := ih.yes hh
        refine ⟨?_, ?_, fun _ => ?_, fun h => ?_⟩
        · rw [eL]; exact ih.ln
        · rw [eL]; exact hn.trans hy.symm
        · rw [eL]; show _ ∧ _ ∧ _; rw [hx]; exact ⟨y1, y2, y3⟩
        · rw [eL] at h; rw [hy] at h; cases h
theorem tokL_lx (l : List UInt8) : tokL l = (lxNl (lxF l)).out := by
  rw [(lx_inv l).nl]; rfl
end Go.Proofs.YtacpcjdiljnlaaaGreatDoor
