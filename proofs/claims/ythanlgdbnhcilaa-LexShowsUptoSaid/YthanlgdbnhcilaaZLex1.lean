/- Several texts in one: LisA, LexA, LexN, LexG, LexB, LexC, LexD, LexH, LexE, LexI. -/
import Derived.Test.YthanlgdbnhcilaaZRowS1
import Derived.Test.YthanlgdbnhcilaaRows
import Derived.WalkKit
import Derived.ProofKit
import Derived.OpenShut
import Derived.Handy
import Derived.Outline
import Derived.Lib.Hide
import Derived.Below
import Derived.OwnWalk
import Derived.Laws.OwnMore
import Derived.Deep.AppendLies
import Derived.Laws.Strings
import Derived.Laws.Strings2
import Derived.Laws.Slices
import Derived.Laws.Cover4
import Derived.Laws.RangeAny
import Derived.Lib.OthersKept
import Derived.Deep.RegionLaw
import Derived.BigQuiet
namespace Go.Proofs.Ythanlgdbnhcilaa
set_option linter.unusedVariables false
open Go.ChangeShapes Go.WideShapes Go.ChangeAt Go.RowKit
theorem infoStr : (Try.prog.info? 9).map (fun i => (i.zero, i.size, i.bytes)) = some (some (.string ⟨#[]⟩), 1, 16) := by kernel_rfl
def RetRow (e : TypeId) (size n : Nat) (xs : List Value) (w : World) (r : Ending) (w' : World) : Prop :=
  ∃ v, r = .returned v ∧ w'.ownsRow w.heap.size e size v n xs ∧ Below w.heap.size w w'
def Lies (w : World) (g : Nat) (xs : List Value) : Prop := ∀ j u, xs[j]? = some u → w.cell? ⟨g, j, none⟩ = some u
theorem Lies.keep {w w' : World} {g : Nat} {xs : List Value} (h : Lies w g xs) (hb : w'.heap[g]? = w.heap[g]?) : Lies w' g xs :=
  fun j u hu => (World.cell?_of_block (a := ⟨g, j, none⟩) hb).trans (h j u hu)
theorem Lies.below {w w' : World} {g B : Nat} {xs : List Value} (h : Lies w g xs) (hb : Below B w w') (hg : g < B) : Lies w' g xs := h.keep (hb.block g hg)
theorem own_form {w : World} {base : Nat} {e : TypeId} {size : Nat} {v : Value} {n : Nat} {xs : List Value} (h : w.ownsRow base e size v n xs) :
    ∃ A c g, v = .slice A n c ∧ Lies w g xs ∧ (0 < n → A = some ⟨g, 0, none⟩ ∧ base ≤ g ∧ g < w.heap.size) ∧ (n = 0 → A = none ∨ A = some ⟨g, 0, none⟩) := by
  rcases h.2 with ⟨rfl, hn⟩ | ⟨g, cap, cur, rfl, hb, hg, hnc, hcm, hcs, htake⟩
  · subst hn
    exact ⟨none, 0, 0, rfl, fun j u hu => (by have := h.1; simp at this; subst this; simp at hu), fun h0 => absurd h0 (by omega), fun _ => .inl rfl⟩
  · refine ⟨_, cap, g, rfl, fun j u hu => ?_, fun _ => ⟨rfl, hb, (Array.getElem?_eq_some_iff.1 hg).1⟩, fun _ => .inr rfl⟩
    rw [cell_of_row w g j cur e (0, 0) hg]
    rw [← htake, List.getElem?_take] at hu
    split at hu
    · simpa using hu
    · cases hu
theorem own_up {w w' : World} {base : Nat} {e : TypeId} {size : Nat} {v : Value} {n : Nat} {xs : List Value} (h : w.ownsRow base e size v n xs) (hb : Below w.heap.size w w') : w'.ownsRow base e size v n xs := by
  refine ⟨h.1, ?_⟩
  rcases h.2 with hn | ⟨g, cap, cur, rfl, hbg, hg, rest⟩
  · exact .inl hn
  · exact .inr ⟨g, cap, cur, rfl, hbg, (hb.block g (Array.getElem?_eq_some_iff.1 hg).1).trans hg, rest⟩
theorem news1 (w : World) (t : TypeId) (u : Value) : ∀ j x, [u][j]? = some x → (w.alloc (.cells #[u] t)).cell? ((⟨w.heap.size, 0, none⟩ : Addr).add j) = some x :=
  World.news_of_block (w := w.alloc (.cells #[u] t)) (cs := #[u]) (heap_alloc_new w _)
theorem one1 {u : Value} (h : u.oneCell' = true) : ∀ x ∈ [u], x.oneCell' = true := fun x hx => by rw [List.mem_singleton.1 hx]; exact h
theorem bel_append {w wr w1 : World} {base : Nat} {e : TypeId} {size : Nat} {v : Value} {n : Nat} {xs : List Value} {o : Obj} (hb : Below base w wr) (hw : base ≤ wr.heap.size) (hown : wr.ownsRow base e size v n xs) (hg : (wr.alloc o).grownBy w1 v.ownBlock) : Below base w w1 :=
  (hb.alloc hw o).grown hg (by rw [show (wr.alloc o).heap.size = wr.heap.size + 1 by simp]; omega) (fun k hk => (hown.lt k hk).1)
theorem own_base {w : World} {base base' : Nat} {e : TypeId} {size : Nat} {v : Value} {n : Nat} {xs : List Value} (h : w.ownsRow base e size v n xs) (hb : base' ≤ base) : w.ownsRow base' e size v n xs := by
  refine ⟨h.1, ?_⟩
  rcases h.2 with hn | ⟨g, cap, cur, rfl, hbg, rest⟩
  · exact .inl hn
  · exact .inr ⟨g, cap, cur, rfl, Nat.le_trans hb hbg, rest⟩
theorem own_lt {w : World} {base : Nat} {e : TypeId} {size : Nat} {v : Value} {n : Nat} {xs : List Value} (h : w.ownsRow base e size v n xs) {g : Nat} (hg : w.heap.size ≤ g) : v.ownBlock ≠ some g := by
  intro e
  have := (h.lt g e).2
  omega
theorem news2 (w : World) (t : TypeId) (a b : Value) : ∀ j x, [a, b][j]? = some x → (w.alloc (.cells #[a, b] t)).cell? ((⟨w.heap.size, 0, none⟩ : Addr).add j) = some x :=
  World.news_of_block (w := w.alloc (.cells #[a, b] t)) (cs := #[a, b]) (heap_alloc_new w _)
theorem one2 {a b : Value} (ha : a.oneCell' = true) (hb : b.oneCell' = true) : ∀ x ∈ [a, b], x.oneCell' = true := fun x hx => by
  rcases List.mem_cons.1 hx with rfl | hx
  · exact ha
  · rw [List.mem_singleton.1 hx]; exact hb
theorem app_keep {wr w1 : World} {o : Obj} {v : Value} {g2 : Nat} (hg : (wr.alloc o).grownBy w1 v.ownBlock) (h2 : g2 < wr.heap.size) (hne : v.ownBlock ≠ some g2) : w1.heap[g2]? = wr.heap[g2]? := by
  rw [hg.block g2 (by simp; omega) (fun e => hne e.symm)]
  exact heap_alloc_old wr o h2
theorem app_ne {wr : World} {o : Obj} {v : Value} {g g2 : Nat} (hat : v.ownBlock = some g ∨ g = (wr.alloc o).heap.size) (h2 : g2 < wr.heap.size) (hne : v.ownBlock ≠ some g2) : g ≠ g2 := by
  rcases hat with h | h
  · intro e; subst e; exact hne h
  · have : (wr.alloc o).heap.size = wr.heap.size + 1 := by simp
    omega
end Go.Proofs.Ythanlgdbnhcilaa
namespace Go.Proofs.Ythanlgdbnhcilaa
set_option linter.unusedVariables false
open Go.ChangeShapes Go.WideShapes Go.ChangeAt Go.RowKit
@[irreducible] def bs (l : List UInt8) : ByteArray := ⟨l.toArray⟩
theorem bs_toList (l : List UInt8) : (bs l).data.toList = l := by unfold bs; simp
theorem bs_list (l : List UInt8) : (bs l).toList = l := by rw [ByteArray.toList_eq]; exact bs_toList l
theorem bs_of (s : ByteArray) : bs s.data.toList = s := by unfold bs; simp
theorem bs_size (l : List UInt8) : (bs l).size = l.length := by unfold bs; simp [ByteArray.size]
theorem size_toList (s : ByteArray) : s.data.toList.length = s.size := Array.length_toList
theorem extract_bs (s : ByteArray) (a k : Nat) : s.extract a k = bs ((s.data.toList.take k).drop a) := by
  apply ByteArray.ext
  unfold bs
  rw [ByteArray.data_extract]
  apply Array.ext'
  simp [Array.toList_extract, List.extract_eq_take_drop, List.drop_take]
theorem append_bs (a b : List UInt8) : bs a ++ bs b = bs (a ++ b) := by
  apply ByteArray.ext
  unfold bs
  rw [ByteArray.data_append]
  simp
theorem snocInd {α : Type} {P : List α → Prop} (h0 : P []) (h : ∀ l c, P l → P (l ++ [c])) (l : List α) : P l := by
  have key : ∀ r : List α, P r.reverse := by
    intro r
    induction r with
    | nil => exact h0
    | cons c r ih => rw [List.reverse_cons]; exact h _ _ ih
  have := key l.reverse
  rwa [List.reverse_reverse] at this
theorem get_of_toList (s : ByteArray) (k : Nat) (h' : k < s.size) (h : k < s.data.toList.length) : s[k] = s.data.toList[k] := by simp [ByteArray.getElem_eq_getElem_data]
theorem get_bs (L : List UInt8) (k : Nat) (h : k < L.length) (h' : k < (bs L).size) : (bs L)[k] = L[k] := by
  have e : (bs L).data.toList = L := bs_toList L
  rw [get_of_toList (bs L) k h' (by rw [e]; exact h)]
  congr 1
theorem byte_bs (L : List UInt8) (k : Nat) (h : k < L.length) (h' : k < (bs L).size) {c : Nat} (hc : L[k].toNat = c) : ((bs L)[k]'h').toNat = c := by rw [get_bs L k h h']; exact hc
def lnStep (x : List (List UInt8) × List UInt8) (c : UInt8) : List (List UInt8) × List UInt8 := if c.toNat = 10 then (x.1 ++ [x.2], []) else (x.1, x.2 ++ [c])
def lnF (l : List UInt8) : List (List UInt8) × List UInt8 := l.foldl lnStep ([], [])
def linesL (l : List UInt8) : List (List UInt8) := (lnF l).1 ++ [(lnF l).2]
theorem lnF_snoc (l : List UInt8) (c : UInt8) : lnF (l ++ [c]) = lnStep (lnF l) c := by unfold lnF; rw [List.foldl_append]; rfl
theorem take_snoc {l : List UInt8} {k : Nat} (h : k < l.length) : l.take (k + 1) = l.take k ++ [l[k]] := List.take_succ_eq_append_getElem h
theorem lnF_nl {l : List UInt8} {c : UInt8} (h : c.toNat = 10) : lnF (l ++ [c]) = ((lnF l).1 ++ [(lnF l).2], []) := by rw [lnF_snoc]; exact if_pos h
theorem lnF_no {l : List UInt8} {c : UInt8} (h : c.toNat ≠ 10) : lnF (l ++ [c]) = ((lnF l).1, (lnF l).2 ++ [c]) := by rw [lnF_snoc]; exact if_neg h
theorem lnF_len (l : List UInt8) : (lnF l).1.length ≤ l.length := by
  induction l using snocInd with
  | h0 => simp [lnF]
  | h l c ih =>
    by_cases h : c.toNat = 10
    · rw [lnF_nl h]; simp; exact ih
    · rw [lnF_no h]; simp; omega
def blankB (c : UInt8) : Bool := c.toNat == 32 || c.toNat == 9
def wdEnd (x : List (List UInt8) × List UInt8) : List (List UInt8) := if x.2 = [] then x.1 else x.1 ++ [x.2]
def wdStep (x : List (List UInt8) × List UInt8) (c : UInt8) : List (List UInt8) × List UInt8 := if blankB c = true then (wdEnd x, []) else (x.1, x.2 ++ [c])
def wdF (l : List UInt8) : List (List UInt8) × List UInt8 := l.foldl wdStep ([], [])
def ahead (l : List UInt8) : List UInt8 := l.takeWhile (fun c => c.toNat != 35)
def wordsL (l : List UInt8) : List (List UInt8) := wdEnd (wdF (ahead l))
theorem wdF_snoc (l : List UInt8) (c : UInt8) : wdF (l ++ [c]) = wdStep (wdF l) c := by unfold wdF; rw [List.foldl_append]; rfl
theorem wdF_blank {l : List UInt8} {c : UInt8} (h : blankB c = true) : wdF (l ++ [c]) = (wdEnd (wdF l), []) := by rw [wdF_snoc]; exact if_pos h
theorem wdF_byte {l : List UInt8} {c : UInt8} (h : blankB c = false) : wdF (l ++ [c]) = ((wdF l).1, (wdF l).2 ++ [c]) := by rw [wdF_snoc]; exact if_neg (by rw [h]; decide)
theorem wdEnd_none {x : List (List UInt8) × List UInt8} (h : x.2 = []) : wdEnd x = x.1 := if_pos h
theorem wdEnd_some {x : List (List UInt8) × List UInt8} (h : x.2 ≠ []) : wdEnd x = x.1 ++ [x.2] := if_neg h
theorem wdEnd_len (x : List (List UInt8) × List UInt8) : (wdEnd x).length ≤ x.1.length + 1 ∧ (wdEnd x).length ≤ x.1.length + x.2.length := by
  by_cases h : x.2 = []
  · rw [wdEnd_none h]; omega
  · rw [wdEnd_some h]
    have := List.length_pos_iff.2 h
    simp; omega
theorem wdF_len (l : List UInt8) : (wdF l).1.length + (wdF l).2.length ≤ l.length := by
  induction l using snocInd with
  | h0 => simp [wdF]
  | h l c ih =>
    cases h : blankB c
    · rw [wdF_byte h]; simp; omega
    · rw [wdF_blank h]
      have := (wdEnd_len (wdF l)).2
      simp; omega
theorem ahead_take {l : List UInt8} {k : Nat} (hk : k < l.length) (h : ahead (l.take k) = l.take k) (hc : l[k].toNat ≠ 35) : ahead (l.take (k + 1)) = l.take (k + 1) := by
  rw [take_snoc hk]
  unfold ahead at *
  rw [List.takeWhile_append_of_pos (fun x hx => ?_)]
  · simp [hc]
  · have : ∀ x ∈ l.take k, (x.toNat != 35) = true := by
      rw [← h]; intro x hx; exact List.all_eq_true.1 List.all_takeWhile x hx
    exact this x hx
theorem ahead_stop {l : List UInt8} {k : Nat} (hk : k < l.length) (h : ahead (l.take k) = l.take k) (hc : l[k].toNat = 35) : ahead l = l.take k := by
  have e : l = l.take k ++ (l[k] :: l.drop (k + 1)) := by rw [List.getElem_cons_drop, List.take_append_drop]
  conv => lhs; rw [e]
  unfold ahead at *
  rw [List.takeWhile_append_of_pos (fun x hx => ?_)]
  · rw [List.takeWhile_cons_of_neg (by simp [hc]), List.append_nil]
  · have : ∀ x ∈ l.take k, (x.toNat != 35) = true := by
      rw [← h]; intro x hx; exact List.all_eq_true.1 List.all_takeWhile x hx
    exact this x hx
theorem wordsL_len (l : List UInt8) : (wordsL l).length ≤ l.length := by
  unfold wordsL
  have h1 := (wdEnd_len (wdF (ahead l))).2
  have h2 := wdF_len (ahead l)
  have h3 : (ahead l).length ≤ l.length := by unfold ahead; exact (List.takeWhile_sublist _).length_le
  omega
theorem lnF_mem (l : List UInt8) : (∀ x ∈ (lnF l).1, x.length ≤ l.length) ∧ (lnF l).2.length ≤ l.length := by
  induction l using snocInd with
  | h0 => simp [lnF]
  | h l c ih =>
    by_cases h : c.toNat = 10
    · rw [lnF_nl h]
      refine ⟨fun x hx => ?_, by simp⟩
      simp only [List.mem_append, List.mem_singleton] at hx
      rcases hx with hx | rfl
      · have := ih.1 x hx; simp; omega
      · have := ih.2; simp; omega
    · rw [lnF_no h]
      refine ⟨fun x hx => ?_, by simp; exact ih.2⟩
      have := ih.1 x hx
      simp; omega
theorem linesL_mem (l : List UInt8) : ∀ x ∈ linesL l, x.length ≤ l.length := by
  intro x hx
  unfold linesL at hx
  simp only [List.mem_append, List.mem_singleton] at hx
  rcases hx with hx | rfl
  · exact (lnF_mem l).1 x hx
  · exact (lnF_mem l).2
theorem linesL_len (l : List UInt8) : 0 < (linesL l).length ∧ (linesL l).length ≤ l.length + 1 := by
  have := lnF_len l
  unfold linesL
  simp; exact this
abbrev Tok := List UInt8 × Int
def lineT (n : Int) (l : List UInt8) : List Tok := (wordsL l).map (fun t => (t, n)) ++ (if wordsL l = [] then [] else [([10], n)])
def tokFrom : Nat → List (List UInt8) → List Tok
  | _, [] => []
  | i, l :: r => lineT ((i : Int) + 1) l ++ tokFrom (i + 1) r
theorem tokFrom_snoc (i : Nat) (a : List (List UInt8)) (l : List UInt8) : tokFrom i (a ++ [l]) = tokFrom i a ++ lineT ((i : Int) + a.length + 1) l := by
  induction a generalizing i with
  | nil => simp [tokFrom]
  | cons x a ih =>
    rw [List.cons_append]
    simp only [tokFrom]
    rw [ih, List.append_assoc]
    congr 3
    simp; omega
theorem lineT_len (n : Int) (l : List UInt8) : (lineT n l).length ≤ l.length + 1 := by
  have := wordsL_len l
  unfold lineT
  split <;> simp <;> omega
theorem tokFrom_len (K : Nat) (i : Nat) (a : List (List UInt8)) (h : ∀ x ∈ a, x.length ≤ K) : (tokFrom i a).length ≤ a.length * (K + 1) := by
  induction a generalizing i with
  | nil => simp [tokFrom]
  | cons x a ih =>
    simp only [tokFrom, List.length_append, List.length_cons]
    have h1 := lineT_len ((i : Int) + 1) x
    have h2 := h x (by simp)
    have h3 := ih (i + 1) (fun y hy => h y (by simp [hy]))
    rw [Nat.add_mul]
    omega
def tokL (l : List UInt8) : List Tok := tokFrom 0 (linesL l)
def oddB (c : UInt8) : Bool := (c.toNat < 32 || 126 < c.toNat) && c.toNat != 10 && c.toNat != 9
def badB (l : List UInt8) : Bool := l.any oddB
theorem badB_snoc (l : List UInt8) (c : UInt8) : badB (l ++ [c]) = (badB l || oddB c) := by unfold badB; simp
def lexE (l : List UInt8) : Int := if 4096 < l.length then 1 else if 1024 < (tokL l).length then 1 else if badB l = true then 2 else 0
def lexT (l : List UInt8) : List Tok := if lexE l = 0 then tokL l else []
theorem slice_bs (L : List UInt8) (a b : Nat) (hab : a ≤ b) (hb : b ≤ L.length) {A B : Int} (hA : A = (a : Int)) (hB : B = (b : Int)) (W : World) :
    (Instr.slice 9 (.string (bs L)) (some (.int .i64 A)) (some (.int .i64 B)) none).run Try.prog W = .ok (.string (bs ((L.take b).drop a))) W := by
  subst hA
  subst hB
  rw [run_slice_string W 9 (bs L) .i64 .i64 a b Try.underlying9 (by omega) (by omega) (by rw [bs_size]; omega)]
  rw [extract_bs, bs_toList]
  rfl
theorem slice_one (L : List UInt8) (k : Nat) (h : k < L.length) (W : World) :
    (Instr.slice 9 (.string (bs L)) (some (.int .i64 (k : Int))) (some (.int .i64 ((k : Int) + 1))) none).run Try.prog W = .ok (.string (bs [L[k]])) W := by
  rw [slice_bs L k (k + 1) (by omega) (by omega) rfl (by omega), take_snoc h, List.drop_append_of_le_length (by simp; omega), List.drop_eq_nil_of_le (by simp; omega)]
  rfl
end Go.Proofs.Ythanlgdbnhcilaa
namespace Go.Proofs.Ythanlgdbnhcilaa
set_option linter.unusedVariables false
set_option linter.unusedSimpArgs false
structure LxS where
  out : List Tok
  ln : Int
  cur : List UInt8
  note : Bool
  any : Bool
def lx0 : LxS := ⟨[], 1, [], false, false⟩
def lxFl (S : LxS) : LxS := ⟨S.out ++ (if S.cur = [] then [] else [(S.cur, S.ln)]), S.ln, [], S.note, S.any || !S.cur.isEmpty⟩
def lxNl (S : LxS) : LxS := ⟨(lxFl S).out ++ (if (lxFl S).any = true then [([10], S.ln)] else []), S.ln + 1, [], false, false⟩
def lxStep (S : LxS) (c : UInt8) : LxS :=
  if c.toNat = 10 then lxNl S else if S.note = true then S else if c.toNat = 35 then { lxFl S with note := true } else if blankB c = true then lxFl S else { S with cur := S.cur ++ [c] }
def lxF (l : List UInt8) : LxS := l.foldl lxStep lx0
theorem lxF_snoc (l : List UInt8) (c : UInt8) : lxF (l ++ [c]) = lxStep (lxF l) c := by unfold lxF; rw [List.foldl_append]; rfl
def hashB (x : List UInt8) : Bool := x.any (fun c => c.toNat == 35)
theorem hash_snoc (x : List UInt8) (c : UInt8) : hashB (x ++ [c]) = (hashB x || c.toNat == 35) := by unfold hashB; simp
theorem ahead_of {x : List UInt8} (h : hashB x = false) : ahead x = x := by
  unfold ahead hashB at *
  induction x with
  | nil => rfl
  | cons c x ih =>
    rw [List.any_cons, Bool.or_eq_false_iff] at h
    rw [List.takeWhile_cons_of_pos (by simp; simpa using h.1), ih h.2]
theorem ahead_snoc {x : List UInt8} (y : List UInt8) (h : hashB x = true) : ahead (x ++ y) = ahead x := by
  unfold ahead hashB at *
  induction x with
  | nil => simp at h
  | cons c x ih =>
    by_cases hc : c.toNat = 35
    · rw [List.cons_append, List.takeWhile_cons_of_neg (by simp [hc]), List.takeWhile_cons_of_neg (by simp [hc])]
    · rw [List.any_cons] at h
      have h2 : x.any (fun c => c.toNat == 35) = true := by simpa [hc] using h
      rw [List.cons_append, List.takeWhile_cons_of_pos (by simp [hc]), List.takeWhile_cons_of_pos (by simp [hc]), ih h2]
theorem ahead_hash {x : List UInt8} {c : UInt8} (h : hashB x = false) (hc : c.toNat = 35) : ahead (x ++ [c]) = x := by
  unfold ahead
  have e := ahead_of h
  unfold ahead at e
  have hp : ∀ y ∈ x, (y.toNat != 35) = true := by
    intro y hy
    have hy2 : y ∈ List.takeWhile (fun c => c.toNat != 35) x := by rw [e]; exact hy
    exact List.all_eq_true.1 (List.all_takeWhile (p := fun c : UInt8 => c.toNat != 35)) y hy2
  rw [List.takeWhile_append_of_pos hp, List.takeWhile_cons_of_neg (by simp [hc]), List.append_nil]
structure LxI (l : List UInt8) (S : LxS) : Prop where
  ln : S.ln = ((lnF l).1.length : Int) + 1
  note : S.note = hashB (lnF l).2
  yes : hashB (lnF l).2 = true → S.cur = [] ∧ S.out = tokFrom 0 (lnF l).1 ++ (wordsL (lnF l).2).map (fun t => (t, S.ln)) ∧ S.any = !(wordsL (lnF l).2).isEmpty
  no : hashB (lnF l).2 = false → S.cur = (wdF (lnF l).2).2 ∧ S.out = tokFrom 0 (lnF l).1 ++ (wdF (lnF l).2).1.map (fun t => (t, S.ln)) ∧ S.any = !(wdF (lnF l).2).1.isEmpty
theorem LxI.fl {l : List UInt8} {S : LxS} (h : LxI l S) : (lxFl S).out = tokFrom 0 (lnF l).1 ++ (wordsL (lnF l).2).map (fun t => (t, S.ln)) ∧ (lxFl S).any = !(wordsL (lnF l).2).isEmpty := by
  cases hh : hashB (lnF l).2
  · obtain ⟨h1, h2, h3⟩ := h.no hh
    have e : wordsL (lnF l).2 = wdEnd (wdF (lnF l).2) := by unfold wordsL; rw [ahead_of hh]
    rw [e]
    unfold lxFl
    by_cases hc : (wdF (lnF l).2).2 = []
    · rw [wdEnd_none hc, h1, hc]
      simp only [if_true, List.append_nil, List.isEmpty_nil, Bool.not_true, Bool.or_false]
      exact ⟨h2, h3⟩
    · rw [wdEnd_some hc, h1]
      simp only [if_neg hc]
      refine ⟨by rw [h2]; simp, ?_⟩
      have : (wdF (lnF l).2).2.isEmpty = false := by simpa using hc
      rw [this]
      simp
  · obtain ⟨h1, h2, h3⟩ := h.yes hh
    unfold lxFl
    rw [h1]
    simp only [if_true, List.append_nil, List.isEmpty_nil, Bool.not_true, Bool.or_false]
    exact ⟨h2, h3⟩
theorem LxI.nl {l : List UInt8} {S : LxS} (h : LxI l S) : (lxNl S).out = tokFrom 0 ((lnF l).1 ++ [(lnF l).2]) := by
  obtain ⟨h1, h2⟩ := h.fl
  rw [tokFrom_snoc]
  unfold lxNl
  simp only [h1, h2]
  rw [List.append_assoc]
  congr 1
  have e : ((0 : Nat) : Int) + ((lnF l).1.length : Int) + 1 = S.ln := by rw [h.ln]; omega
  rw [e]
  unfold lineT
  congr 1
  by_cases hw : wordsL (lnF l).2 = []
  · rw [if_pos hw, hw]; rfl
  · rw [if_neg hw]
    have : (wordsL (lnF l).2).isEmpty = false := by simpa using hw
    rw [this]; rfl
theorem lx_inv (l : List UInt8) : LxI l (lxF l) := by
  induction l using snocInd with
  | h0 => exact ⟨rfl, rfl, fun h => by simp [lnF, hashB] at h, fun _ => ⟨rfl, rfl, rfl⟩⟩
  | h l c ih =>
    rw [lxF_snoc]
    generalize lxF l = S at *
    by_cases h10 : c.toNat = 10
    · have e : lxStep S c = lxNl S := if_pos h10
      rw [e]
      have o := ih.nl
      refine ⟨?_, ?_, fun h => ?_, fun _ => ?_⟩
      · rw [lnF_nl h10]; unfold lxNl; simp [ih.ln]
      · rw [lnF_nl h10]; rfl
      · rw [lnF_nl h10] at h; cases h
      · rw [lnF_nl h10]
        exact ⟨rfl, by rw [o]; simp [wdF], rfl⟩
    · have eL := lnF_no h10 (l := l)
      cases hh : hashB (lnF l).2
      · have hn : S.note = false := ih.note.trans hh
        obtain ⟨n1, n2, n3⟩ := ih.no hh
        by_cases h35 : c.toNat = 35
        · have e : lxStep S c = { lxFl S with note := true } := by unfold lxStep; rw [if_neg h10, hn, if_neg (by decide), if_pos h35]
          obtain ⟨f1, f2⟩ := ih.fl
          have hx : wordsL ((lnF l).2 ++ [c]) = wordsL (lnF l).2 := by unfold wordsL; rw [ahead_hash hh h35, ahead_of hh]
          have hy : hashB ((lnF l).2 ++ [c]) = true := by rw [hash_snoc, hh, h35]; rfl
          rw [e]
          refine ⟨?_, ?_, fun _ => ?_, fun h => ?_⟩
          · rw [eL]; exact ih.ln
          · rw [eL]; exact hy.symm
          · rw [eL]; show _ ∧ _ ∧ _; rw [hx]; exact ⟨rfl, f1, f2⟩
          · rw [eL] at h; rw [hy] at h; cases h
        · have hy : hashB ((lnF l).2 ++ [c]) = false := by rw [hash_snoc, hh]; simpa using h35
          cases hb : blankB c
          · have e : lxStep S c = { S with cur := S.cur ++ [c] } := by unfold lxStep; rw [if_neg h10, hn, if_neg (by decide), if_neg h35, if_neg (by rw [hb]; decide)]
            rw [e]
            refine ⟨?_, ?_, fun h => ?_, fun _ => ?_⟩
            · rw [eL]; exact ih.ln
            · rw [eL]; exact hn.trans hy.symm
            · rw [eL] at h; rw [hy] at h; cases h
            · rw [eL]; show _ ∧ _ ∧ _; rw [wdF_byte hb]; exact ⟨by rw [← n1], n2, n3⟩
          · have e : lxStep S c = lxFl S := by unfold lxStep; rw [if_neg h10, hn, if_neg (by decide), if_neg h35, if_pos hb]
            obtain ⟨f1, f2⟩ := ih.fl
            have hw : wordsL (lnF l).2 = wdEnd (wdF (lnF l).2) := by unfold wordsL; rw [ahead_of hh]
            rw [hw] at f1 f2
            rw [e]
            refine ⟨?_, ?_, fun h => ?_, fun _ => ?_⟩
            · rw [eL]; exact ih.ln
            · rw [eL]; exact hn.trans hy.symm
            · rw [eL] at h; rw [hy] at h; cases h
            · rw [eL]; show _ ∧ _ ∧ _; rw [wdF_blank hb]; exact ⟨rfl, f1, f2⟩
      · have hn : S.note = true := ih.note.trans hh
        have e : lxStep S c = S := by unfold lxStep; rw [if_neg h10, if_pos hn]
        have hy : hashB ((lnF l).2 ++ [c]) = true := by rw [hash_snoc, hh]; rfl
        have hx : wordsL ((lnF l).2 ++ [c]) = wordsL (lnF l).2 := by unfold wordsL; rw [ahead_snoc _ hh]
        rw [e]
        obtain ⟨y1, y2, y3⟩ := ih.yes hh
        refine ⟨?_, ?_, fun _ => ?_, fun h => ?_⟩
        · rw [eL]; exact ih.ln
        · rw [eL]; exact hn.trans hy.symm
        · rw [eL]; show _ ∧ _ ∧ _; rw [hx]; exact ⟨y1, y2, y3⟩
        · rw [eL] at h; rw [hy] at h; cases h
theorem tokL_lx (l : List UInt8) : tokL l = (lxNl (lxF l)).out := by
  rw [(lx_inv l).nl]; rfl
theorem fl_fl (S : LxS) : lxFl (lxFl S) = lxFl S := by unfold lxFl; simp
theorem nl_fl (S : LxS) : lxNl (lxFl S) = lxNl S := by unfold lxNl; rw [fl_fl]; rfl
theorem nl_note (S : LxS) (b : Bool) : lxNl { S with note := b } = lxNl S := rfl
theorem st_nl {S : LxS} {c : UInt8} (h : c.toNat = 10) : lxStep S c = lxNl S := if_pos h
theorem st_note {S : LxS} {c : UInt8} (h : c.toNat ≠ 10) (hn : S.note = true) : lxStep S c = S := by unfold lxStep; rw [if_neg h, if_pos hn]
theorem st_hash {S : LxS} {c : UInt8} (h : c.toNat = 35) (hn : S.note = false) : lxStep S c = { lxFl S with note := true } := by unfold lxStep; rw [if_neg (by omega), hn, if_neg (by decide), if_pos h]
theorem st_blank {S : LxS} {c : UInt8} (hb : blankB c = true) (hn : S.note = false) : lxStep S c = lxFl S := by
  have h : c.toNat = 32 ∨ c.toNat = 9 := by unfold blankB at hb; simpa using hb
  unfold lxStep; rw [if_neg (by omega), hn, if_neg (by decide), if_neg (by omega), if_pos hb]
theorem notes_skip (note : List UInt8) (h : ∀ c ∈ note, c.toNat ≠ 10) {S : LxS} (hn : S.note = true) : note.foldl lxStep S = S := by
  induction note with
  | nil => rfl
  | cons c r ih => rw [List.foldl_cons, st_note (h c (by simp)) hn]; exact ih (fun x hx => h x (by simp [hx]))
def trN (note : List UInt8) (c : UInt8) : List UInt8 := if blankB c = true then [9, 32] else if c.toNat = 10 then [32, 35] ++ note ++ [10, 32] else [c]
def trS (note l : List UInt8) : List UInt8 := [32, 32] ++ l.flatMap (trN note)
theorem fl_fresh {S : LxS} (h : S.cur = []) : lxFl S = S := by unfold lxFl; rw [h]; simp; rw [← h]
theorem nl_fresh (S : LxS) : lxFl (lxNl S) = lxNl S := fl_fresh rfl
theorem tr_step (note : List UInt8) (hN : ∀ c ∈ note, c.toNat ≠ 10) (c : UInt8) (S : LxS) : (trN note c).foldl lxStep S = lxStep S c := by
  unfold trN
  by_cases hb : blankB c = true
  · rw [if_pos hb]
    cases hn : S.note
    · rw [List.foldl_cons, List.foldl_cons, List.foldl_nil, st_blank (by decide) hn, st_blank (by decide) (show (lxFl S).note = false from hn), fl_fl, st_blank hb hn]
    · have h : c.toNat = 32 ∨ c.toNat = 9 := by unfold blankB at hb; simpa using hb
      rw [List.foldl_cons, List.foldl_cons, List.foldl_nil, st_note (by decide) hn, st_note (by decide) hn, st_note (by omega) hn]
  · rw [if_neg hb]
    by_cases h10 : c.toNat = 10
    · rw [if_pos h10, List.foldl_append, List.foldl_append, st_nl h10]
      have key : ∀ S1 : LxS, S1.note = true → ([10, 32] : List UInt8).foldl lxStep (note.foldl lxStep S1) = lxNl S1 := by
        intro S1 h1
        rw [notes_skip note hN h1, List.foldl_cons, List.foldl_cons, List.foldl_nil, st_nl (S := S1) (c := 10) (by decide), st_blank (c := 32) (by decide) rfl, nl_fresh]
      cases hn : S.note
      · rw [show ([32, 35] : List UInt8).foldl lxStep S = { lxFl (lxFl S) with note := true } by
          rw [List.foldl_cons, List.foldl_cons, List.foldl_nil, st_blank (by decide) hn, st_hash (by decide) (show (lxFl S).note = false from hn)]]
        rw [key _ rfl, nl_note, fl_fl, nl_fl]
      · rw [show ([32, 35] : List UInt8).foldl lxStep S = S by rw [List.foldl_cons, List.foldl_cons, List.foldl_nil, st_note (by decide) hn, st_note (by decide) hn]]
        rw [key _ hn]
    · rw [if_neg h10]; rfl
theorem tr_fold (note : List UInt8) (hN : ∀ c ∈ note, c.toNat ≠ 10) (l : List UInt8) (S : LxS) : (l.flatMap (trN note)).foldl lxStep S = l.foldl lxStep S := by
  induction l generalizing S with
  | nil => rfl
  | cons c r ih => rw [List.flatMap_cons, List.foldl_append, tr_step note hN, List.foldl_cons, ih]
theorem tok_tr (note l : List UInt8) (hN : ∀ c ∈ note, c.toNat ≠ 10) : tokL (trS note l) = tokL l := by
  rw [tokL_lx, tokL_lx]
  congr 2
  unfold trS lxF
  rw [List.foldl_append, tr_fold note hN]
  rfl
theorem bad_app (a b : List UInt8) : badB (a ++ b) = (badB a || badB b) := by unfold badB; simp
theorem bad_tr (note l : List UInt8) (hn : badB note = false) (hl : badB l = false) : badB (trS note l) = false := by
  unfold trS
  rw [bad_app, show badB [32, 32] = false by decide, Bool.false_or]
  induction l with
  | nil => rfl
  | cons c r ih =>
    have h : oddB c = false ∧ badB r = false := by unfold badB at *; simpa using hl
    rw [List.flatMap_cons, bad_app, ih h.2, Bool.or_false]
    unfold trN
    split
    · decide
    · split
      · rw [bad_app, bad_app, hn]; decide
      · unfold badB; simp [h.1]
theorem lex_tr (note l : List UInt8) (hN : ∀ c ∈ note, 32 ≤ c.toNat ∧ c.toNat ≤ 126) (h : lexE l = 0) (hs : (trS note l).length ≤ 4096) : lexE (trS note l) = 0 ∧ lexT (trS note l) = lexT l := by
  have h1 : ¬ 1024 < (tokL l).length ∧ badB l = false := by
    unfold lexE at h
    split at h
    · cases h
    · split at h
      · cases h
      · split at h
        · cases h
        · rename_i h1 h2
          exact ⟨h1, by simpa using h2⟩
  have hb : badB note = false := by
    unfold badB
    rw [List.any_eq_false]
    intro c hc
    have := hN c hc
    unfold oddB
    simp; omega
  have ht := tok_tr note l (fun c hc => by have := hN c hc; omega)
  have e : lexE (trS note l) = 0 := by
    unfold lexE
    rw [if_neg (by omega), ht, if_neg h1.1, bad_tr note l hb h1.2]; rfl
  exact ⟨e, by unfold lexT; rw [e, h, ht]⟩
end Go.Proofs.Ythanlgdbnhcilaa
namespace Go.Proofs.Ythanlgdbnhcilaa
set_option linter.unusedVariables false
set_option linter.unusedSimpArgs false
def rb (ns : List Int) : List UInt8 := (runesBytes ns).data.toList
theorem bs_rb (ns : List Int) : bs (rb ns) = runesBytes ns := bs_of _
theorem enc_one (x : UInt8) (h : x.toNat < 128) : Utf8.encode (x.toNat : Int) = bs [x] := by
  unfold Utf8.encode Utf8.valid
  have h1 : (x.toNat : Int) < 55296 := by omega
  have h2 : (0 : Int) ≤ (x.toNat : Int) := by omega
  simp only [h1, h2, decide_true, Bool.and_self, Bool.true_or, if_true, Int.toNat_natCast, h]
  unfold bs
  congr
  simp
theorem enc_all (c : List UInt8) (h : ∀ x ∈ c, x.toNat < 128) : ∀ a : List UInt8, (c.map (fun x => (x.toNat : Int))).foldl (fun r n => r ++ Utf8.encode n) (bs a) = bs (a ++ c) := by
  induction c with
  | nil => intro a; simp
  | cons x c ih =>
    intro a
    rw [List.map_cons, List.foldl_cons, enc_one x (h x (by simp)), append_bs, ih (fun y hy => h y (by simp [hy]))]
    simp
theorem rb_low (c : List UInt8) (h : ∀ x ∈ c, x.toNat < 128) : rb (c.map (fun x => (x.toNat : Int))) = c := by
  have e := enc_all c h []
  have e0 : bs [] = ByteArray.empty := by unfold bs; rfl
  rw [e0] at e
  unfold rb runesBytes
  rw [e, List.nil_append, bs_toList]
structure Rg where
  out : List Tok
  cur : List Int
  ln : Int
  note : Bool
  odd : Bool
def rg0 : Rg := ⟨[], [], 1, false, false⟩
def knB (r : Int) : Bool := r == 10 || r == 9 || (decide (32 ≤ r) && decide (r ≤ 126))
def hasL (T : List Tok) (n : Int) : Bool := match T.getLast? with | some t => t.2 == n | none => false
def wdT (o : List Tok) (c : List Int) (n : Int) : List Tok := if c = [] then o else o ++ [(rb c, n)]
def rgWd (S : Rg) : Rg := ⟨wdT S.out S.cur S.ln, [], S.ln, S.note, S.odd⟩
def enT (o : List Tok) (n : Int) : List Tok := if hasL o n = true then o ++ [([10], n)] else o
def rgNl (S : Rg) : Rg := ⟨enT (wdT S.out S.cur S.ln) S.ln, [], S.ln + 1, false, S.odd⟩
def rgGo (S : Rg) (r : Int) : Rg := if r = 10 then rgNl S else if S.note = true then S else if r = 35 then ⟨S.out, S.cur, S.ln, true, S.odd⟩ else if r = 32 ∨ r = 9 then rgWd S else ⟨S.out, S.cur ++ [r], S.ln, S.note, S.odd⟩
def rgTk (S : Rg) (r : Int) : Rg := rgGo ⟨S.out, S.cur, S.ln, S.note, S.odd || !knB r⟩ r
theorem hasL_snoc (T : List Tok) (t : List UInt8) (m n : Int) : hasL (T ++ [(t, m)]) n = (m == n) := by unfold hasL; simp
theorem hasL_lt (T : List Tok) (n : Int) (h : ∀ t ∈ T, t.2 ≤ n) : hasL T (n + 1) = false := by
  unfold hasL
  cases e : T.getLast? with
  | none => rfl
  | some t =>
    have := h t (List.mem_of_getLast? e)
    simp
    omega
structure LxQ (o : List Tok) (c : List Int) (S : LxS) (bad : Bool) : Prop where
  len : o.length = S.out.length
  any : hasL o S.ln = S.any
  le : ∀ t ∈ o, t.2 ≤ S.ln
  nil : c = [] ↔ S.cur = []
  eqs : bad = false → o = S.out ∧ c = S.cur.map (fun x => (x.toNat : Int)) ∧ ∀ x ∈ S.cur, x.toNat < 128
theorem fl_none {S : LxS} (h : S.cur = []) : lxFl S = S := by
  cases S
  simp only at h
  subst h
  simp [lxFl]
theorem LxQ.worse {o : List Tok} {c : List Int} {S : LxS} {bad bad' : Bool} (h : LxQ o c S bad) (hb : bad' = false → bad = false) : LxQ o c S bad' := ⟨h.len, h.any, h.le, h.nil, fun e => h.eqs (hb e)⟩
theorem LxQ.fl {o : List Tok} {c : List Int} {S : LxS} {bad : Bool} (h : LxQ o c S bad) : LxQ (wdT o c S.ln) [] (lxFl S) bad := by
  unfold wdT
  by_cases hc : c = []
  · have hs := h.nil.1 hc
    rw [if_pos hc, fl_none hs]
    subst hc
    exact h
  · have hs : S.cur ≠ [] := fun e => hc (h.nil.2 e)
    have hs2 : S.cur.isEmpty = false := by simpa using hs
    rw [if_neg hc]
    refine ⟨?_, ?_, ?_, ?_, ?_⟩
    · unfold lxFl
      rw [if_neg hs]
      simp [h.len]
    · rw [hasL_snoc]
      unfold lxFl
      simp [hs2]
    · intro t ht
      show t.2 ≤ S.ln
      rw [List.mem_append, List.mem_singleton] at ht
      rcases ht with ht | rfl
      · exact h.le t ht
      · exact Int.le_refl _
    · exact ⟨fun _ => rfl, fun _ => rfl⟩
    · intro e
      obtain ⟨e1, e2, e3⟩ := h.eqs e
      refine ⟨?_, rfl, by simp [lxFl]⟩
      unfold lxFl
      rw [if_neg hs]
      show o ++ [(rb c, S.ln)] = S.out ++ [(S.cur, S.ln)]
      rw [e1, e2, rb_low _ e3]
structure LxZ (R : Rg) (S : LxS) (bad : Bool) : Prop where
  ln : R.ln = S.ln
  note : R.note = S.note
  odd : R.odd = bad
  no : S.note = false → LxQ R.out R.cur S bad
  yes : S.note = true → LxQ (wdT R.out R.cur R.ln) [] S bad
theorem LxZ.fl {R : Rg} {S : LxS} {bad : Bool} (h : LxZ R S bad) : LxQ (wdT R.out R.cur R.ln) [] (lxFl S) bad := by
  cases hn : S.note
  · rw [h.ln]; exact (h.no hn).fl
  · have q := h.yes hn
    rw [fl_none (q.nil.1 rfl)]
    exact q
theorem LxZ.nl {R : Rg} {S : LxS} {bad : Bool} (h : LxZ R S bad) : LxZ (rgNl R) (lxNl S) bad := by
  have q := h.fl
  have hfl : (lxFl S).ln = S.ln := rfl
  have hq : LxQ (enT (wdT R.out R.cur R.ln) R.ln) [] (lxNl S) bad := by
    have ha : hasL (wdT R.out R.cur R.ln) R.ln = (lxFl S).any := by
      have := q.any
      rw [hfl, ← h.ln] at this
      exact this
    have hle : ∀ t ∈ enT (wdT R.out R.cur R.ln) R.ln, t.2 ≤ S.ln := by
      intro t ht
      unfold enT at ht
      split at ht
      · rw [List.mem_append, List.mem_singleton] at ht
        rcases ht with ht | rfl
        · exact q.le t ht
        · rw [h.ln]; exact Int.le_refl _
      · exact q.le t ht
    refine ⟨?_, ?_, ?_, ⟨fun _ => rfl, fun _ => rfl⟩, ?_⟩
    · unfold enT lxNl
      rw [ha]
      cases (lxFl S).any
      · simp [q.len]
      · simp [q.len]
    · show hasL _ (S.ln + 1) = false
      exact hasL_lt _ _ hle
    · intro t ht
      have := hle t ht
      show t.2 ≤ S.ln + 1
      omega
    · intro e
      refine ⟨?_, rfl, fun x hx => by cases hx⟩
      have e1 := (q.eqs e).1
      unfold enT lxNl
      rw [ha, ← e1, h.ln]
      cases (lxFl S).any
      · simp
      · simp
  refine ⟨?_, rfl, h.odd, fun _ => hq, fun e => (by cases e)⟩
  show R.ln + 1 = S.ln + 1
  rw [h.ln]
theorem kn_byte (c : UInt8) : knB (c.toNat : Int) = !oddB c := by
  unfold knB oddB
  generalize c.toNat = n
  by_cases h1 : n = 10
  · subst h1; rfl
  · by_cases h2 : n = 9
    · subst h2; rfl
    · by_cases h3 : n < 32
      · have e1 : ((n : Int) == 10) = false := beq_false_of_ne (by omega)
        have e2 : ((n : Int) == 9) = false := beq_false_of_ne (by omega)
        have e3 : decide ((32 : Int) ≤ n) = false := decide_eq_false (by omega)
        simp [e1, e2, e3, h1, h2, h3]
      · by_cases h4 : 126 < n
        · have e1 : ((n : Int) == 10) = false := beq_false_of_ne (by omega)
          have e2 : ((n : Int) == 9) = false := beq_false_of_ne (by omega)
          have e3 : decide ((n : Int) ≤ 126) = false := decide_eq_false (by omega)
          simp [e1, e2, e3, h1, h2, h4]
        · have e1 : ((n : Int) == 10) = false := beq_false_of_ne (by omega)
          have e2 : ((n : Int) == 9) = false := beq_false_of_ne (by omega)
          have e3 : decide ((32 : Int) ≤ n) = true := decide_eq_true (by omega)
          have e4 : decide ((n : Int) ≤ 126) = true := decide_eq_true (by omega)
          simp [e1, e2, e3, e4, h3, h4]
theorem LxZ.odd' {R : Rg} {S : LxS} {bad : Bool} (h : LxZ R S bad) (x : Bool) : LxZ ⟨R.out, R.cur, R.ln, R.note, R.odd || x⟩ S (bad || x) :=
  ⟨h.ln, h.note, by show (R.odd || x) = _; rw [h.odd], fun e => (h.no e).worse (fun e => (Bool.or_eq_false_iff.1 e).1), fun e => (h.yes e).worse (fun e => (Bool.or_eq_false_iff.1 e).1)⟩
theorem LxZ.go {R : Rg} {S : LxS} {bad : Bool} (h : LxZ R S bad) (c : UInt8) (hc : c.toNat < 128) : LxZ (rgGo R (c.toNat : Int)) (lxStep S c) bad := by
  by_cases h10 : c.toNat = 10
  · unfold rgGo lxStep
    rw [if_pos (by omega), if_pos h10]
    exact h.nl
  · cases hn : S.note
    · have hr : R.note = false := h.note.trans hn
      have q := h.no hn
      by_cases h35 : c.toNat = 35
      · unfold rgGo lxStep
        rw [if_neg (by omega), if_neg (by rw [hr]; decide), if_pos (by omega), if_neg h10, if_neg (by rw [hn]; decide), if_pos h35]
        refine ⟨h.ln, rfl, h.odd, fun e => (by cases e), fun _ => ?_⟩
        have q2 := h.fl
        exact ⟨q2.len, q2.any, q2.le, q2.nil, q2.eqs⟩
      · by_cases hb : blankB c = true
        · have hb2 : (c.toNat : Int) = 32 ∨ (c.toNat : Int) = 9 := by
            unfold blankB at hb
            rw [Bool.or_eq_true, beq_iff_eq, beq_iff_eq] at hb
            omega
          unfold rgGo lxStep
          rw [if_neg (by omega), if_neg (by rw [hr]; decide), if_neg (by omega), if_pos hb2, if_neg h10, if_neg (by rw [hn]; decide), if_neg h35, if_pos hb]
          have q2 := h.fl
          exact ⟨h.ln, h.note, h.odd, fun _ => q2, fun e => absurd (hn.symm.trans e) (by decide)⟩
        · have hb2 : ¬ ((c.toNat : Int) = 32 ∨ (c.toNat : Int) = 9) := by
            intro e
            apply hb
            unfold blankB
            rw [Bool.or_eq_true, beq_iff_eq, beq_iff_eq]
            omega
          unfold rgGo lxStep
          rw [if_neg (by omega), if_neg (by rw [hr]; decide), if_neg (by omega), if_neg hb2, if_neg h10, if_neg (by rw [hn]; decide), if_neg h35, if_neg hb]
          refine ⟨h.ln, h.note, h.odd, fun _ => ⟨q.len, q.any, q.le, ⟨fun e => (by simp at e), fun e => (by simp at e)⟩, fun e => ?_⟩, fun e => absurd (hn.symm.trans e) (by decide)⟩
          obtain ⟨e1, e2, e3⟩ := q.eqs e
          refine ⟨e1, ?_, ?_⟩
          · show R.cur ++ [(c.toNat : Int)] = (S.cur ++ [c]).map _
            rw [e2]; simp
          · intro x hx
            have hx2 : x ∈ S.cur ++ [c] := hx
            rw [List.mem_append, List.mem_singleton] at hx2
            rcases hx2 with hx2 | rfl
            · exact e3 x hx2
            · exact hc
    · have hr : R.note = true := h.note.trans hn
      unfold rgGo lxStep
      rw [if_neg (by omega), if_pos hr, if_neg h10, if_pos hn]
      exact h
theorem LxZ.low {R : Rg} {S : LxS} {bad : Bool} (h : LxZ R S bad) (c : UInt8) (hc : c.toNat < 128) : LxZ (rgTk R (c.toNat : Int)) (lxStep S c) (bad || oddB c) := by
  have h2 := h.odd' (oddB c)
  unfold rgTk
  rw [kn_byte, Bool.not_not]
  exact h2.go c hc
theorem lx_high (x : List UInt8) (hx : ∀ c ∈ x, 128 ≤ c.toNat) : ∀ S : LxS, x.foldl lxStep S = if S.note = true then S else { S with cur := S.cur ++ x } := by
  induction x with
  | nil => intro S; simp
  | cons c x ih =>
    intro S
    have hc := hx c (by simp)
    have hb : ¬ blankB c = true := by
      unfold blankB
      rw [Bool.or_eq_true, beq_iff_eq, beq_iff_eq]
      omega
    have st : lxStep S c = if S.note = true then S else { S with cur := S.cur ++ [c] } := by
      unfold lxStep
      have n10 : ¬ c.toNat = 10 := by omega
      have n35 : ¬ c.toNat = 35 := by omega
      simp only [n10, n35, hb, if_false]
      rfl
    rw [List.foldl_cons, ih (fun y hy => hx y (by simp [hy])), st]
    cases hn : S.note
    · simp [hn]
    · simp [hn]
theorem LxZ.high {R : Rg} {S : LxS} {bad : Bool} (h : LxZ R S bad) (r : Int) (hr : 128 ≤ r) (x : List UInt8) (hx : ∀ c ∈ x, 128 ≤ c.toNat) (hx0 : x ≠ []) : LxZ (rgTk R r) (x.foldl lxStep S) true := by
  have hk : knB r = false := by
    unfold knB
    rw [beq_false_of_ne (by omega), beq_false_of_ne (by omega), decide_eq_false (show ¬ r ≤ 126 by omega)]
    simp
  have hb : ∀ b : Bool, true = false → b = false := fun b e => by cases e
  rw [lx_high x hx]
  unfold rgTk rgGo
  rw [hk, if_neg (by omega)]
  cases hn : S.note
  · have hR : R.note = false := h.note.trans hn
    rw [if_neg (by rw [hR]; decide), if_neg (by omega), if_neg (by omega), if_neg (by decide)]
    have q := h.no hn
    refine ⟨h.ln, hR, by simp, fun _ => ⟨q.len, q.any, q.le, ⟨fun e => (by simp at e), fun e => ?_⟩, fun e => by cases e⟩, fun e => by cases e⟩
    have e2 : S.cur ++ x = [] := e
    rw [List.append_eq_nil_iff] at e2
    exact absurd e2.2 hx0
  · have hR : R.note = true := h.note.trans hn
    rw [if_pos hR, if_pos rfl]
    exact ⟨h.ln, h.note, by simp, fun e => absurd (hn.symm.trans e) (by decide), fun e => (h.yes e).worse (hb _)⟩
theorem LxZ.start : LxZ rg0 lx0 false := ⟨rfl, rfl, rfl, fun _ => ⟨rfl, rfl, fun t ht => (by cases ht), ⟨fun _ => rfl, fun _ => rfl⟩, fun _ => ⟨rfl, rfl, fun x hx => by cases hx⟩⟩, fun e => by cases e⟩
theorem dec_bytes (s : ByteArray) (p : Nat) (h : p < s.size) (ha : 128 ≤ (s[p]'h).toNat) : ∀ j, j < (Utf8.decode s p).2 → p + j < s.size ∧ 128 ≤ (s.get! (p + j)).toNat := by
  have e0 : s.get! (p + 0) = s[p]'h := get_at s p h
  have c0 : p + 0 < s.size ∧ 128 ≤ (s.get! (p + 0)).toNat := ⟨h, by rw [e0]; exact ha⟩
  have hn : ¬ (s[p]'h).toNat < 128 := by omega
  have key : ∀ k, (decide (p + k < s.size) && (s.get! (p + k)).toNat / 64 == 2) = true → p + k < s.size ∧ 128 ≤ (s.get! (p + k)).toNat := by
    intro k hk
    rw [Bool.and_eq_true, decide_eq_true_eq, beq_iff_eq] at hk
    exact ⟨hk.1, by omega⟩
  intro j
  simp only [Utf8.decode, e0, hn, if_false]
  split
  · rename_i h1
    rw [Bool.and_eq_true] at h1
    have k1 := key 1 h1.2
    split
    · intro hj
      have : j = 0 ∨ j = 1 := by simp only at hj; omega
      rcases this with rfl | rfl
      · exact c0
      · exact k1
    · intro hj
      obtain rfl : j = 0 := by simp only at hj; omega
      exact c0
  · split
    · rename_i h1
      rw [Bool.and_eq_true, Bool.and_eq_true] at h1
      have k1 := key 1 h1.1.2
      have k2 := key 2 h1.2
      split
      · intro hj
        have : j = 0 ∨ j = 1 ∨ j = 2 := by simp only at hj; omega
        rcases this with rfl | rfl | rfl
        · exact c0
        · exact k1
        · exact k2
      · intro hj
        obtain rfl : j = 0 := by simp only at hj; omega
        exact c0
    · split
      · rename_i h1
        rw [Bool.and_eq_true, Bool.and_eq_true, Bool.and_eq_true] at h1
        have k1 := key 1 h1.1.1.2
        have k2 := key 2 h1.1.2
        have k3 := key 3 h1.2
        split
        · intro hj
          have : j = 0 ∨ j = 1 ∨ j = 2 ∨ j = 3 := by simp only at hj; omega
          rcases this with rfl | rfl | rfl | rfl
          · exact c0
          · exact k1
          · exact k2
          · exact k3
        · intro hj
          obtain rfl : j = 0 := by simp only at hj; omega
          exact c0
      · intro hj
        obtain rfl : j = 0 := by simp only at hj; omega
        exact c0
theorem LxZ.rune {R : Rg} {L : List UInt8} {p : Nat} (h : LxZ R (lxF (L.take p)) (badB (L.take p))) (hp : p < L.length) :
    LxZ (rgTk R ((Utf8.decode (bs L) p).1 : Int)) (lxF (L.take (p + (Utf8.decode (bs L) p).2))) (badB (L.take (p + (Utf8.decode (bs L) p).2))) ∧ 1 ≤ (Utf8.decode (bs L) p).2 ∧ p + (Utf8.decode (bs L) p).2 ≤ L.length := by
  have hp2 : p < (bs L).size := by rw [bs_size]; exact hp
  have hc := get_bs L p hp hp2
  by_cases ha : L[p].toNat < 128
  · rw [decode_ascii (bs L) p hp2 (by rw [hc]; exact ha), hc]
    refine ⟨?_, Nat.le_refl _, hp⟩
    show LxZ (rgTk R (L[p].toNat : Int)) (lxF (L.take (p + 1))) (badB (L.take (p + 1)))
    rw [take_snoc hp, lxF_snoc, badB_snoc]
    exact h.low _ ha
  · have hd := decode_high (bs L) p hp2 (by rw [hc]; omega)
    have hb := dec_bytes (bs L) p hp2 (by rw [hc]; omega)
    generalize hr : (Utf8.decode (bs L) p).1 = r at *
    generalize hw : (Utf8.decode (bs L) p).2 = d at *
    have hle : p + d ≤ L.length := by
      have := (hb (d - 1) (by omega)).1
      rw [bs_size] at this
      omega
    refine ⟨?_, hd.2, hle⟩
    have e : L.take (p + d) = L.take p ++ (L.drop p).take d := by rw [List.take_add]
    have hx : ∀ c ∈ (L.drop p).take d, 128 ≤ c.toNat := by
      intro c hc
      obtain ⟨j, hj, rfl⟩ := List.getElem_of_mem hc
      have hj2 : j < d := by simp at hj; omega
      have hb2 := hb j hj2
      have hjl : p + j < L.length := by omega
      have e3 : (bs L).get! (p + j) = L[p + j] := by
        have := get_at (bs L) (p + j) hb2.1
        rw [Nat.add_zero] at this
        rw [this, get_bs L (p + j) hjl hb2.1]
      rw [e3] at hb2
      simpa using hb2.2
    have hx0 : (L.drop p).take d ≠ [] := by
      intro e2
      have := congrArg List.length e2
      simp at this
      omega
    have hbad : badB (L.take (p + d)) = true := by
      rw [e, bad_app]
      have : badB ((L.drop p).take d) = true := by
        cases hxx : (L.drop p).take d with
        | nil => exact absurd hxx hx0
        | cons c x =>
          have := hx c (by rw [hxx]; simp)
          unfold badB
          rw [List.any_cons]
          have : oddB c = true := by unfold oddB; simp; omega
          rw [this]; rfl
      rw [this, Bool.or_true]
    rw [hbad, e]
    unfold lxF
    rw [List.foldl_append]
    exact h.high _ (by omega) _ hx hx0
theorem tk_len (R : Rg) (r : Int) : (rgTk R r).out.length ≤ R.out.length + 2 ∧ (rgTk R r).cur.length ≤ R.cur.length + 1 ∧ R.ln ≤ (rgTk R r).ln ∧ (rgTk R r).ln ≤ R.ln + 1 := by
  unfold rgTk rgGo rgNl rgWd enT wdT
  (repeat' split) <;> simp <;> omega
theorem LxZ.fin {R : Rg} {L : List UInt8} (h : LxZ R (lxF L) (badB L)) : (rgNl R).out.length = (tokL L).length ∧ (rgNl R).odd = badB L ∧ (badB L = false → (rgNl R).out = tokL L) := by
  have q := h.nl
  have e : (lxNl (lxF L)).note = false := rfl
  have q2 := q.no e
  rw [tokL_lx]
  exact ⟨q2.len, q.odd, fun e => (q2.eqs e).1⟩
end Go.Proofs.Ythanlgdbnhcilaa
namespace Go.Proofs.Ythanlgdbnhcilaa
set_option linter.unusedVariables false
set_option linter.unusedSimpArgs false
open Go.ChangeShapes Go.WideShapes Go.ChangeAt Go.RowKit
def strV (t : List UInt8) : Value := .string (bs t)
structure LnR (L : List UInt8) (w wr : World) (k a : Nat) (v : Value) : Prop where
  own : wr.ownsRow w.heap.size 9 1 v (lnF (L.take k)).1.length ((lnF (L.take k)).1.map strV)
  cur : (lnF (L.take k)).2 = (L.take k).drop a
  bel : Below w.heap.size w wr
theorem LnR.no {L : List UInt8} {w wr : World} {k a : Nat} {v : Value} (h : LnR L w wr k a v) (hk : k < L.length) (ha : a ≤ k) (h10 : L[k].toNat ≠ 10) : LnR L w wr (k + 1) a v := by
  have e : L.take (k + 1) = L.take k ++ [L[k]] := take_snoc hk
  refine ⟨?_, ?_, h.bel⟩
  · rw [e, lnF_no h10]; exact h.own
  · rw [e, lnF_no h10, List.drop_append_of_le_length (by simp; omega), ← h.cur]
theorem LnR.nl {L : List UInt8} {w wr w1 : World} {k a : Nat} {v : Value} {g cap : Nat} {t : TypeId} (h : LnR L w wr k a v) (hk : k < L.length) (h10 : L[k].toNat = 10)
    (hown : w1.ownsRow w.heap.size 9 1 (.slice (some ⟨g, 0, none⟩) ((lnF (L.take k)).1.length + 1) cap) ((lnF (L.take k)).1.length + 1) ((lnF (L.take k)).1.map strV ++ [.string (bs ((L.take k).drop a))]))
    (hg : (wr.alloc (.cells #[.string (bs ((L.take k).drop a))] t)).grownBy w1 v.ownBlock) : LnR L w w1 (k + 1) (k + 1) (.slice (some ⟨g, 0, none⟩) ((lnF (L.take k)).1.length + 1) cap) := by
  have e : L.take (k + 1) = L.take k ++ [L[k]] := take_snoc hk
  refine ⟨?_, ?_, bel_append h.bel h.bel.size h.own hg⟩
  · rw [e, lnF_nl h10, h.cur]
    simpa [strV] using hown
  · rw [e, lnF_nl h10, List.drop_eq_nil_of_le (by simp; omega)]
theorem LnR.fin {L : List UInt8} {w wr w1 : World} {a : Nat} {v : Value} {g cap : Nat} {t : TypeId} (h : LnR L w wr L.length a v)
    (hown : w1.ownsRow w.heap.size 9 1 (.slice (some ⟨g, 0, none⟩) ((lnF L).1.length + 1) cap) ((lnF L).1.length + 1) ((lnF L).1.map strV ++ [.string (bs (L.drop a))]))
    (hg : (wr.alloc (.cells #[.string (bs (L.drop a))] t)).grownBy w1 v.ownBlock) : RetRow 9 1 (linesL L).length ((linesL L).map strV) w (.returned (.slice (some ⟨g, 0, none⟩) ((lnF L).1.length + 1) cap)) w1 := by
  refine ⟨_, rfl, ?_, bel_append h.bel h.bel.size h.own hg⟩
  have hc := h.cur
  rw [List.take_length] at hc
  unfold linesL
  rw [hc]
  simpa [strV] using hown
set_option maxHeartbeats 1600000 in
set_option maxRecDepth 100000 in
theorem rLines_any (L : List UInt8) (hs : L.length ≤ 4096) (w : World) : Calls Try.prog 14 #[.string (bs L)] w (RetRow 9 1 (linesL L).length ((linesL L).map strV) w) := by
  obtain ⟨i0, hi, hz0, hz1, hz2⟩ := info_parts infoStr
  have hS := bs_size L
  have H0 : Hid (LnR L w w 0 0 (.slice none 0 0)) := Lib.hid ⟨World.ownsRow_nil _ _ _ _, rfl, Below.refl _ _⟩
  go_enter Try.func14, Try.ntmps14
  go_wp2
  go_loopw [3, 4, 5] (fun v f i wr => ∃ k a : Nat, k ≤ L.length ∧ a ≤ k ∧ i = .int .i64 (k : Int) ∧ f = .int .i64 (a : Int) ∧ LnR L w wr k a v) (fun _ _ i _ => L.length - (intOf i).toNat)
  case atStart => exact ⟨0, 0, by omega, by omega, rfl, rfl, H0.out⟩
  case round =>
    obtain ⟨k, a, hk, ha, rfl, rfl, hR⟩ := hrel
    have HR := Lib.hid hR
    have hown := hR.own
    have hlen := lnF_len (L.take k)
    have hlen2 : (L.take k).length ≤ k := by simp; omega
    have hbase := hR.bel.size
    clear hR H0
    by_cases hlt : k < L.length
    · have hX := extract_bs (bs L) a k
      rw [bs_toList] at hX
      obtain ⟨c, hc⟩ : ∃ c : Nat, L[k].toNat = c := ⟨_, rfl⟩
      have hb := byte_bs L k hlt (by rw [hS]; exact hlt) hc
      replace hc := Lib.hid hc
      by_cases h10 : c = 10
      · subst h10
        generalize hT : (L.take k).drop a = T at *
        generalize hM : (lnF (L.take k)).1 = M at *
        replace hT := Lib.hid hT
        replace hM := Lib.hid hM
        go_wp2_with (first
          | (at_builtin; refine wpList_append_lies _ rfl (.tmp 16) (.tmp 21) 40 rfl w.heap.size 9 i0 (.string ⟨#[]⟩) 1 16 Try.underlying40 hi hz0 hz1 hz2 rfl (by decide) _ _ _ rfl (hown.alloc _) ⟨wr.heap.size, 0, none⟩ 1 1 [.string (bs T)] rfl rfl (news1 _ _ _) (one1 rfl) (by decide) (by unfold maxLen; omega) (by omega) (by simp; omega) _ rfl ?_; intro g cap w1 hown1 hgrow hat hlt1)
          | fail)
        have hR1 : LnR L w w1 (k + 1) (k + 1) (.slice (some ⟨g, 0, none⟩) (M.length + 1) cap) := by
          have := hT.out
          subst this
          have := hM.out
          subst this
          exact HR.out.nl hlt hc.out hown1 hgrow
        clear hown1 hgrow hat hlt1 hown
        go_wp2
        go_roundw
        case rel => exact ⟨k + 1, k + 1, by omega, by omega, by go_num, by go_num, hR1⟩
        case measure => simp [intOf]; omega
      · have hne : decide ((c : Int) = 10) = false := decide_eq_false (by omega)
        have hne2 : ((c : Int) == 10) = false := by rw [beq_eq_false_iff_ne]; omega
        clear hown
        go_wp2
        go_roundw
        case rel => exact ⟨k + 1, a, by omega, by omega, by go_num, rfl, HR.out.no hlt ha (by rw [hc.out]; exact h10)⟩
        case measure => simp [intOf]; omega
    · obtain rfl : k = L.length := by omega
      have hX := extract_bs (bs L) a L.length
      rw [bs_toList, List.take_length] at hX
      rw [List.take_length] at hown hlen
      generalize hT : L.drop a = T at *
      generalize hM : (lnF L).1 = M at *
      replace hT := Lib.hid hT
      replace hM := Lib.hid hM
      go_wp2_with (first
        | (at_builtin; refine wpList_append_lies _ rfl (.tmp 25) (.tmp 29) 40 rfl w.heap.size 9 i0 (.string ⟨#[]⟩) 1 16 Try.underlying40 hi hz0 hz1 hz2 rfl (by decide) _ _ _ rfl (hown.alloc _) ⟨wr.heap.size, 0, none⟩ 1 1 [.string (bs T)] rfl rfl (news1 _ _ _) (one1 rfl) (by decide) (by unfold maxLen; omega) (by omega) (by simp; omega) _ rfl ?_; intro g cap w1 hown1 hgrow hat hlt1)
        | fail)
      go_wp2
      go_ret
      have h1 := hT.out
      have h2 := hM.out
      subst h1
      subst h2
      exact LnR.fin HR.out hown1 hgrow
end Go.Proofs.Ythanlgdbnhcilaa
namespace Go.Proofs.Ythanlgdbnhcilaa
set_option linter.unusedVariables false
set_option linter.unusedSimpArgs false
open Go.ChangeShapes Go.WideShapes Go.ChangeAt Go.RowKit
structure WdR (L : List UInt8) (w wr : World) (k : Nat) (v : Value) (C : List UInt8) : Prop where
  own : wr.ownsRow w.heap.size 9 1 v (wdF (L.take k)).1.length ((wdF (L.take k)).1.map strV)
  cur : (wdF (L.take k)).2 = C
  aim : ahead (L.take k) = L.take k
  bel : Below w.heap.size w wr
theorem WdR.byte {L : List UInt8} {w wr : World} {k : Nat} {v : Value} {C : List UInt8} (h : WdR L w wr k v C) (hk : k < L.length) (h35 : L[k].toNat ≠ 35) (hb : blankB L[k] = false) : WdR L w wr (k + 1) v (C ++ [L[k]]) := by
  have e : L.take (k + 1) = L.take k ++ [L[k]] := take_snoc hk
  refine ⟨?_, ?_, ahead_take hk h.aim h35, h.bel⟩
  · rw [e, wdF_byte hb]; exact h.own
  · rw [e, wdF_byte hb, ← h.cur]
theorem WdR.noW {L : List UInt8} {w wr : World} {k : Nat} {v : Value} (h : WdR L w wr k v []) (hk : k < L.length) (h35 : L[k].toNat ≠ 35) (hb : blankB L[k] = true) : WdR L w wr (k + 1) v [] := by
  have e : L.take (k + 1) = L.take k ++ [L[k]] := take_snoc hk
  refine ⟨?_, ?_, ahead_take hk h.aim h35, h.bel⟩
  · rw [e, wdF_blank hb, wdEnd_none h.cur]; exact h.own
  · rw [e, wdF_blank hb]
theorem WdR.oneW {L : List UInt8} {w wr w1 : World} {k : Nat} {v : Value} {C : List UInt8} {g cap : Nat} {t : TypeId} (h : WdR L w wr k v C) (hC : C ≠ []) (hk : k < L.length) (h35 : L[k].toNat ≠ 35) (hb : blankB L[k] = true)
    (hown : w1.ownsRow w.heap.size 9 1 (.slice (some ⟨g, 0, none⟩) ((wdF (L.take k)).1.length + 1) cap) ((wdF (L.take k)).1.length + 1) ((wdF (L.take k)).1.map strV ++ [.string (bs C)]))
    (hg : (wr.alloc (.cells #[.string (bs C)] t)).grownBy w1 v.ownBlock) : WdR L w w1 (k + 1) (.slice (some ⟨g, 0, none⟩) ((wdF (L.take k)).1.length + 1) cap) [] := by
  have e : L.take (k + 1) = L.take k ++ [L[k]] := take_snoc hk
  have hc := h.cur
  subst hc
  refine ⟨?_, ?_, ahead_take hk h.aim h35, bel_append h.bel h.bel.size h.own hg⟩
  · rw [e, wdF_blank hb, wdEnd_some hC]
    simpa [strV] using hown
  · rw [e, wdF_blank hb]
structure WdZ (L : List UInt8) (w wr : World) (v : Value) (C : List UInt8) : Prop where
  own : wr.ownsRow w.heap.size 9 1 v (wdF (ahead L)).1.length ((wdF (ahead L)).1.map strV)
  cur : (wdF (ahead L)).2 = C
  bel : Below w.heap.size w wr
theorem WdR.stop {L : List UInt8} {w wr : World} {k : Nat} {v : Value} {C : List UInt8} (h : WdR L w wr k v C) (hk : k < L.length) (h35 : L[k].toNat = 35) : WdZ L w wr v C := by
  have e := ahead_stop hk h.aim h35
  exact ⟨by rw [e]; exact h.own, by rw [e]; exact h.cur, h.bel⟩
theorem WdR.end_ {L : List UInt8} {w wr : World} {v : Value} {C : List UInt8} (h : WdR L w wr L.length v C) : WdZ L w wr v C := by
  have e := h.aim
  have h1 := h.own
  have h2 := h.cur
  rw [List.take_length] at e h1 h2
  exact ⟨by rw [e]; exact h1, by rw [e]; exact h2, h.bel⟩
theorem WdZ.noW {L : List UInt8} {w wr : World} {v : Value} (h : WdZ L w wr v []) : RetRow 9 1 (wordsL L).length ((wordsL L).map strV) w (.returned v) wr := by
  have e : wordsL L = (wdF (ahead L)).1 := wdEnd_none h.cur
  rw [e]
  exact ⟨_, rfl, h.own, h.bel⟩
theorem WdZ.oneW {L : List UInt8} {w wr w1 : World} {v : Value} {C : List UInt8} {g cap : Nat} {t : TypeId} (h : WdZ L w wr v C) (hC : C ≠ [])
    (hown : w1.ownsRow w.heap.size 9 1 (.slice (some ⟨g, 0, none⟩) ((wdF (ahead L)).1.length + 1) cap) ((wdF (ahead L)).1.length + 1) ((wdF (ahead L)).1.map strV ++ [.string (bs C)]))
    (hg : (wr.alloc (.cells #[.string (bs C)] t)).grownBy w1 v.ownBlock) : RetRow 9 1 (wordsL L).length ((wordsL L).map strV) w (.returned (.slice (some ⟨g, 0, none⟩) ((wdF (ahead L)).1.length + 1) cap)) w1 := by
  have hc := h.cur
  subst hc
  have e : wordsL L = (wdF (ahead L)).1 ++ [(wdF (ahead L)).2] := wdEnd_some hC
  rw [e]
  exact ⟨_, rfl, by simpa [strV] using hown, bel_append h.bel h.bel.size h.own hg⟩
theorem bs_nil : bs [] = ⟨#[]⟩ := by unfold bs; rfl
set_option maxHeartbeats 1600000 in
set_option maxRecDepth 100000 in
theorem rWords_any (L : List UInt8) (hs : L.length ≤ 4096) (w : World) : Calls Try.prog 15 #[.string (bs L)] w (RetRow 9 1 (wordsL L).length ((wordsL L).map strV) w) := by
  obtain ⟨i0, hi, hz0, hz1, hz2⟩ := info_parts infoStr
  have hS := bs_size L
  have H0 : Hid (WdR L w w 0 (.slice none 0 0) []) := Lib.hid ⟨World.ownsRow_nil _ _ _ _, rfl, rfl, Below.refl _ _⟩
  go_enter Try.func15, Try.ntmps15
  go_wp2
  go_loopw [3, 4, 5] (fun v c i wr => ∃ k C, k ≤ L.length ∧ i = .int .i64 (k : Int) ∧ c = .string (bs C) ∧ WdR L w wr k v C) (fun _ _ i _ => L.length - (intOf i).toNat)
  case atStart => exact ⟨0, [], by omega, rfl, by rw [bs_nil], H0.out⟩
  case round =>
    obtain ⟨k, C, hk, rfl, rfl, hR⟩ := hrel
    have HR := Lib.hid hR
    have hown := hR.own
    have hlen := wdF_len (L.take k)
    have hlen2 : (L.take k).length ≤ k := by simp; omega
    have hcl : C.length ≤ k := by have := hR.cur; subst this; omega
    have hbase := hR.bel.size
    have hCs := bs_size C
    have hCl := bs_list C
    clear hR H0
    by_cases hlt : k < L.length
    · have hX := fun W => slice_one L k hlt W
      have hA := append_bs C [L[k]]
      obtain ⟨c, hc⟩ : ∃ c : Nat, L[k].toNat = c := ⟨_, rfl⟩
      have hb := byte_bs L k hlt (by rw [hS]; exact hlt) hc
      replace hc := Lib.hid hc
      by_cases h35 : c = 35
      · subst h35
        have HZ := Lib.hid (HR.out.stop hlt hc.out)
        have hown := HZ.out.own
        have hlen := wdF_len (ahead L)
        have hlen3 : (wdF (ahead L)).1.length ≤ 5000 := by
          have h1 : (ahead L).length ≤ L.length := by unfold ahead; exact (List.takeWhile_sublist _).length_le
          omega
        clear hX hA hlen hlen2
        by_cases hC : C = []
        · subst hC
          clear hown
          go_wp2
          go_ret
          exact HZ.out.noW
        · have hCe : C.isEmpty = false := by simpa using hC
          generalize hM : (wdF (ahead L)).1 = M at *
          replace hM := Lib.hid hM
          go_wp2_with (first
            | (at_builtin; refine wpList_append_lies _ rfl (.tmp 41) (.tmp 43) 40 rfl w.heap.size 9 i0 (.string ⟨#[]⟩) 1 16 Try.underlying40 hi hz0 hz1 hz2 rfl (by decide) _ _ _ rfl (hown.alloc _) ⟨wr.heap.size, 0, none⟩ 1 1 [.string (bs C)] rfl rfl (news1 _ _ _) (one1 rfl) (by decide) (by unfold maxLen; omega) (by omega) (by simp; omega) _ rfl ?_; intro g cap w1 hown1 hgrow hat hlt1)
            | fail)
          go_wp2
          go_ret
          have h2 := hM.out
          subst h2
          exact HZ.out.oneW hC hown1 hgrow
      · have hne : decide ((c : Int) = 35) = false := decide_eq_false (by omega)
        have hne2 : ((c : Int) == 35) = false := by rw [beq_eq_false_iff_ne]; omega
        have h35' : L[k].toNat ≠ 35 := by rw [hc.out]; exact h35
        by_cases hbl : c = 32 ∨ c = 9
        · have hB : blankB L[k] = true := by unfold blankB; rw [hc.out]; rcases hbl with rfl | rfl <;> rfl
          have hB2 : ((c : Int) == 32) = true ∨ (((c : Int) == 32) = false ∧ ((c : Int) == 9) = true) := by rcases hbl with rfl | rfl <;> decide
          clear hX hA
          by_cases hC : C = []
          · subst hC
            clear hown
            rcases hB2 with hB2 | ⟨hB2, hB3⟩
            all_goals
              go_wp2
              go_roundw
              case rel => exact ⟨k + 1, [], by omega, by go_num, by rw [bs_nil], HR.out.noW hlt h35' hB⟩
              case measure => simp [intOf]; omega
          · have hCe : C.isEmpty = false := by simpa using hC
            generalize hM : (wdF (L.take k)).1 = M at *
            replace hM := Lib.hid hM
            rcases hB2 with hB2 | ⟨hB2, hB3⟩
            all_goals
              go_wp2_with (first
                | (at_builtin; refine wpList_append_lies _ rfl (.tmp 28) (.tmp 30) 40 rfl w.heap.size 9 i0 (.string ⟨#[]⟩) 1 16 Try.underlying40 hi hz0 hz1 hz2 rfl (by decide) _ _ _ rfl (hown.alloc _) ⟨wr.heap.size, 0, none⟩ 1 1 [.string (bs C)] rfl rfl (news1 _ _ _) (one1 rfl) (by decide) (by unfold maxLen; omega) (by omega) (by simp; omega) _ rfl ?_; intro g cap w1 hown1 hgrow hat hlt1)
                | fail)
              have hR1 : WdR L w w1 (k + 1) (.slice (some ⟨g, 0, none⟩) (M.length + 1) cap) [] := by
                have := hM.out
                subst this
                exact HR.out.oneW hC hlt h35' hB hown1 hgrow
              clear hown1 hgrow hat hlt1 hown
              go_wp2
              go_roundw
              case rel => exact ⟨k + 1, [], by omega, by go_num, by rw [bs_nil], hR1⟩
              case measure => simp [intOf]; omega
        · have hB : blankB L[k] = false := by unfold blankB; rw [hc.out]; simp; omega
          have hB1 : decide ((c : Int) = 32) = false := decide_eq_false (by omega)
          have hB2 : ((c : Int) == 32) = false := by rw [beq_eq_false_iff_ne]; omega
          have hB3 : decide ((c : Int) = 9) = false := decide_eq_false (by omega)
          have hB4 : ((c : Int) == 9) = false := by rw [beq_eq_false_iff_ne]; omega
          clear hown
          obtain ⟨D, hD⟩ : ∃ D, Hid (D = C ++ [L[k]]) := ⟨_, Lib.hid rfl⟩
          rw [← hD.out] at hA
          have hR1 : Hid (WdR L w wr (k + 1) _ D) := Lib.hid (by rw [hD.out]; exact HR.out.byte hlt h35' hB)
          have h1s : (bs [L[k]]).size = 1 := bs_size _
          have hst : ¬ (9223372036854775807 < C.length + 1) := by omega
          generalize bs [L[k]] = one at *
          go_wp2
          go_roundw
          case rel => exact ⟨k + 1, D, by omega, by go_num, rfl, hR1.out⟩
          case measure => simp [intOf]; omega
    · obtain rfl : k = L.length := by omega
      have HZ := Lib.hid HR.out.end_
      have hown := HZ.out.own
      have hlen := wdF_len (ahead L)
      have hlen3 : (wdF (ahead L)).1.length ≤ 5000 := by
        have h1 : (ahead L).length ≤ L.length := by unfold ahead; exact (List.takeWhile_sublist _).length_le
        omega
      clear hlen hlen2
      by_cases hC : C = []
      · subst hC
        clear hown
        go_wp2
        go_ret
        exact HZ.out.noW
      · have hCe : C.isEmpty = false := by simpa using hC
        generalize hM : (wdF (ahead L)).1 = M at *
        replace hM := Lib.hid hM
        go_wp2_with (first
          | (at_builtin; refine wpList_append_lies _ rfl (.tmp 41) (.tmp 43) 40 rfl w.heap.size 9 i0 (.string ⟨#[]⟩) 1 16 Try.underlying40 hi hz0 hz1 hz2 rfl (by decide) _ _ _ rfl (hown.alloc _) ⟨wr.heap.size, 0, none⟩ 1 1 [.string (bs C)] rfl rfl (news1 _ _ _) (one1 rfl) (by decide) (by unfold maxLen; omega) (by omega) (by simp; omega) _ rfl ?_; intro g cap w1 hown1 hgrow hat hlt1)
          | fail)
        go_wp2
        go_ret
        have h2 := hM.out
        subst h2
        exact HZ.out.oneW hC hown1 hgrow
end Go.Proofs.Ythanlgdbnhcilaa
namespace Go.Proofs.Ythanlgdbnhcilaa
set_option linter.unusedVariables false
set_option linter.unusedSimpArgs false
open Go.ChangeShapes Go.WideShapes Go.ChangeAt Go.RowKit
theorem infoTok : (Try.prog.info? 32).map (fun i => (i.zero, i.size, i.bytes)) = some (some (.agg #[.string ⟨#[]⟩, .int .i64 0]), 2, 24) := by kernel_rfl
def tokV (t : Tok) : List Value := [strV t.1, .int .i64 t.2]
def tokVs (T : List Tok) : List Value := T.flatMap tokV
theorem tokVs_snoc (T : List Tok) (t : List UInt8) (n : Int) : tokVs (T ++ [(t, n)]) = tokVs T ++ [strV t, .int .i64 n] := by unfold tokVs; simp [tokV]
def RetTok (T : List Tok) (e : Int) (w : World) (r : Ending) (w' : World) : Prop :=
  ∃ v, r = .returned (.tuple #[v, .int .i64 e]) ∧ w'.ownsRow w.heap.size 32 2 v T.length (tokVs T) ∧ Below w.heap.size w w'
structure TkR (B : Nat) (w1 wr : World) (v : Value) (T : List Tok) : Prop where
  own : wr.ownsRow B 32 2 v T.length (tokVs T)
  bel : Below B w1 wr
structure TkI (B : Nat) (w1 wr : World) (v : Value) (T : List Tok) (g2 : Nat) (ws : List (List UInt8)) : Prop where
  own : wr.ownsRow B 32 2 v T.length (tokVs T)
  bel : Below B w1 wr
  lies : Lies wr g2 (ws.map strV)
  lt : 0 < ws.length → g2 < wr.heap.size ∧ v.ownBlock ≠ some g2
theorem TkR.app {B : Nat} {w1 wr w3 : World} {v : Value} {T : List Tok} {t : List UInt8} {n x : Int} {g cap : Nat} {o : Obj} (h : TkR B w1 wr v T) (hB : B ≤ wr.heap.size) (hx : x = n)
    (hown : w3.ownsRow B 32 2 (.slice (some ⟨g, 0, none⟩) (T.length + 1) cap) (T.length + 1) (tokVs T ++ [.string (bs t), .int .i64 x])) (hg : (wr.alloc o).grownBy w3 v.ownBlock) :
    TkR B w1 w3 (.slice (some ⟨g, 0, none⟩) (T.length + 1) cap) (T ++ [(t, n)]) := by
  subst hx
  refine ⟨?_, bel_append h.bel hB h.own hg⟩
  rw [tokVs_snoc, List.length_append]
  exact hown
theorem TkI.step {B : Nat} {w1 wr w3 : World} {v : Value} {T : List Tok} {g2 : Nat} {ws : List (List UInt8)} {t : List UInt8} {n x : Int} {g cap : Nat} {o : Obj} (h : TkI B w1 wr v T g2 ws) (hB : B ≤ wr.heap.size) (h0 : 0 < ws.length) (hx : x = n)
    (hown : w3.ownsRow B 32 2 (.slice (some ⟨g, 0, none⟩) (T.length + 1) cap) (T.length + 1) (tokVs T ++ [.string (bs t), .int .i64 x])) (hg : (wr.alloc o).grownBy w3 v.ownBlock)
    (hat : v.ownBlock = some g ∨ g = (wr.alloc o).heap.size) : TkI B w1 w3 (.slice (some ⟨g, 0, none⟩) (T.length + 1) cap) (T ++ [(t, n)]) g2 ws := by
  have hR : TkR B w1 w3 (.slice (some ⟨g, 0, none⟩) (T.length + 1) cap) (T ++ [(t, n)]) := TkR.app ⟨h.own, h.bel⟩ hB hx hown hg
  obtain ⟨h2, hne⟩ := h.lt h0
  have hs := hg.size
  have hs2 : (wr.alloc o).heap.size = wr.heap.size + 1 := by simp
  refine ⟨hR.own, hR.bel, h.lies.keep (app_keep hg h2 hne), fun _ => ⟨by omega, ?_⟩⟩
  have := app_ne hat h2 hne
  intro e
  apply this
  simpa [Value.ownBlock] using e
theorem TkI.start {B : Nat} {w1 wr w2 : World} {v : Value} {T : List Tok} {g2 : Nat} {ws : List (List UInt8)} (h : TkR B w1 wr v T) (hb2 : Below wr.heap.size wr w2) (hB : B ≤ wr.heap.size) (hl : Lies w2 g2 (ws.map strV)) (hg : 0 < ws.length → wr.heap.size ≤ g2 ∧ g2 < w2.heap.size) : TkI B w1 w2 v T g2 ws :=
  ⟨own_up h.own hb2, h.bel.trans (hb2.mono hB), hl, fun h0 => ⟨(hg h0).2, own_lt h.own (hg h0).1⟩⟩
theorem bs_nl : (⟨#[10]⟩ : ByteArray) = bs [10] := by unfold bs; rfl
theorem line_none {n : Int} {l : List UInt8} (h : ¬ 0 < (wordsL l).length) : lineT n l = [] := by
  have e : wordsL l = [] := by rw [← List.length_eq_zero_iff]; omega
  unfold lineT; rw [if_pos e, e]; rfl
theorem line_some {n : Int} {l : List UInt8} (h : 0 < (wordsL l).length) : lineT n l = (wordsL l).map (fun t => (t, n)) ++ [([10], n)] := by
  have e : wordsL l ≠ [] := by intro e; rw [e] at h; exact absurd h (by decide)
  unfold lineT; rw [if_neg e]
theorem lex_big {l : List UInt8} (h : 4096 < l.length) : lexE l = 1 ∧ lexT l = [] := by
  have e : lexE l = 1 := if_pos h
  exact ⟨e, by unfold lexT; rw [e]; rfl⟩
theorem lex_many {l : List UInt8} (h : ¬ 4096 < l.length) (h2 : 1024 < (tokL l).length) : lexE l = 1 ∧ lexT l = [] := by
  have e : lexE l = 1 := by unfold lexE; rw [if_neg h]; exact if_pos h2
  exact ⟨e, by unfold lexT; rw [e]; rfl⟩
theorem lex_bad {l : List UInt8} (h : ¬ 4096 < l.length) (h2 : ¬ 1024 < (tokL l).length) (h3 : badB l = true) : lexE l = 2 ∧ lexT l = [] := by
  have e : lexE l = 2 := by unfold lexE; rw [if_neg h, if_neg h2]; exact if_pos h3
  exact ⟨e, by unfold lexT; rw [e]; rfl⟩
theorem lex_ok {l : List UInt8} (h : ¬ 4096 < l.length) (h2 : ¬ 1024 < (tokL l).length) (h3 : badB l = false) : lexE l = 0 ∧ lexT l = tokL l := by
  have e : lexE l = 0 := by unfold lexE; rw [if_neg h, if_neg h2]; exact if_neg (by rw [h3]; decide)
  exact ⟨e, by unfold lexT; rw [e]; rfl⟩
set_option maxHeartbeats 1600000 in
set_option maxRecDepth 100000 in
theorem rLex_big (L : List UInt8) (h : 4096 < L.length) (w : World) : Calls Try.prog 8 #[.string (bs L)] w (RetTok (lexT L) (lexE L) w) := by
  obtain ⟨e1, e2⟩ := lex_big h
  have hS := bs_size L
  rw [e1, e2]
  go_enter Try.func8, Try.ntmps8
  go_wp2
  go_ret2
  exact ⟨_, rfl, World.ownsRow_nil _ _ _ _, Below.refl _ _⟩
theorem odd_cases (c : Nat) : ((c < 32 ∧ ¬ 126 < c ∧ ¬ c = 10 ∧ ¬ c = 9) ∨ (¬ c < 32 ∧ 126 < c ∧ ¬ c = 10 ∧ ¬ c = 9)) ∨ (c = 9 ∨ c = 10 ∨ (¬ c < 32 ∧ ¬ 126 < c)) := by omega
theorem odd_yes {x : UInt8} {c : Nat} (hc : x.toNat = c) (h : (c < 32 ∧ ¬ 126 < c ∧ ¬ c = 10 ∧ ¬ c = 9) ∨ (¬ c < 32 ∧ 126 < c ∧ ¬ c = 10 ∧ ¬ c = 9)) : oddB x = true := by
  subst hc; unfold oddB; simp; omega
theorem odd_no {x : UInt8} {c : Nat} (hc : x.toNat = c) (h : c = 9 ∨ c = 10 ∨ (¬ c < 32 ∧ ¬ 126 < c)) : oddB x = false := by
  subst hc; unfold oddB; simp; omega
set_option maxHeartbeats 6400000 in
set_option maxRecDepth 100000 in
theorem rLex_any (L : List UInt8) (h : ¬ 4096 < L.length) (w : World) : Calls Try.prog 8 #[.string (bs L)] w (RetTok (lexT L) (lexE L) w) := by
  obtain ⟨i0, hi, hz0, hz1, hz2⟩ := info_parts infoTok
  have hS := bs_size L
  have hL : L.length ≤ 4096 := by omega
  have H1 := Lib.hid (rLines_any L hL)
  have HW := Lib.hid rWords_any
  go_enter Try.func8, Try.ntmps8
  go_wp2
  go_loop [4, 5] (fun b i => ∃ k : Nat, k ≤ L.length ∧ i = .int .i64 (k : Int) ∧ b = .bool (badB (L.take k))) (fun _ i => L.length - (intOf i).toNat)
  case atStart => exact ⟨0, by omega, rfl, rfl⟩
  case round =>
    obtain ⟨k, hk, rfl, rfl⟩ := hrel
    by_cases hlt : k < L.length
    · obtain ⟨c, hc⟩ : ∃ c : Nat, L[k].toNat = c := ⟨_, rfl⟩
      have hb := byte_bs L k hlt (by rw [hS]; exact hlt) hc
      have hB : badB (L.take (k + 1)) = (badB (L.take k) || oddB L[k]) := by rw [take_snoc hlt, badB_snoc]
      cases hbad : badB (L.take k)
      · replace hbad := Lib.hid hbad
        rcases odd_cases c with ho | ho
        · have hO := Lib.hid (odd_yes hc ho)
          replace hc := Lib.hid hc
          replace hB := Lib.hid hB
          have m1 : ((c : Int) != 10) = true := bne_iff_ne.2 (by omega)
          have m2 : ((c : Int) != 9) = true := bne_iff_ne.2 (by omega)
          rcases ho with ⟨h1, h2, h3, h4⟩ | ⟨h1, h2, h3, h4⟩
          all_goals
            go_wp2
            go_round
            case rel => exact ⟨k + 1, by omega, by go_num, by rw [hB.out, hbad.out, hO.out]; first | rfl | (simp; omega)⟩
            case measure => simp [intOf]; omega
        · have hO := Lib.hid (odd_no hc ho)
          replace hc := Lib.hid hc
          replace hB := Lib.hid hB
          rcases ho with rfl | rfl | ⟨h1, h2⟩
          all_goals
            go_wp2
            go_round
            case rel => exact ⟨k + 1, by omega, by go_num, by rw [hB.out, hbad.out, hO.out]; first | rfl | (simp; omega)⟩
            case measure => simp [intOf]; omega
      · replace hbad := Lib.hid hbad
        replace hc := Lib.hid hc
        replace hB := Lib.hid hB
        go_wp2
        go_round
        case rel => exact ⟨k + 1, by omega, by go_num, by rw [hB.out, hbad.out]; rfl⟩
        case measure => simp [intOf]; omega
    · obtain rfl : k = L.length := by omega
      rw [List.take_length]
      go_wp2_with fail
      refine (H1.out _).mono ?_
      rintro e w1 ⟨v1, rfl, hown1, hb1⟩
      obtain ⟨A1, c1, g1, rfl, hl1, hA1, _⟩ := own_form hown1
      obtain ⟨n1, n2⟩ := linesL_len L
      obtain ⟨rfl, hg1, hg2⟩ := hA1 n1
      have hb1s := hb1.size
      obtain ⟨B, hBe⟩ : ∃ B, B = w1.heap.size := ⟨_, rfl⟩
      have hmem := linesL_mem L
      have HE : Hid (tokL L = tokFrom 0 (linesL L)) := Lib.hid rfl
      have HT0 : Hid (TkR B w1 w1 (.slice none 0 0) (tokFrom 0 ((linesL L).take 0))) := Lib.hid ⟨World.ownsRow_nil _ _ _ _, Below.refl _ _⟩
      generalize linesL L = ls at *
      replace hb1 := Lib.hid hb1
      replace hl1 := Lib.hid hl1
      replace hmem := Lib.hid hmem
      have hg3 : g1 < B := by omega
      have hBw : w.heap.size ≤ B := by omega
      replace hBe := Lib.hid hBe
      clear hown1 hA1 H1
      go_simp
      go_wp2
      go_loopw [6, 8] (fun v i wr => ∃ k : Nat, k ≤ ls.length ∧ i = .int .i64 (k : Int) ∧ TkR B w1 wr v (tokFrom 0 (ls.take k))) (fun _ i _ => ls.length - (intOf i).toNat)
      case atStart => exact ⟨0, by omega, rfl, HT0.out⟩
      case round =>
        obtain ⟨k, hk, rfl, hR⟩ := hrel
        clear HT0
        by_cases hlt : k < ls.length
        · have hcell : wr.cell? ⟨g1, k, none⟩ = some (strV ls[k]) := (hl1.out.below hR.bel hg3) k _ (by simp [hlt])
          have hln : ls[k].length ≤ 4096 := by have := hmem.out ls[k] (by simp); omega
          have H2 := Lib.hid (HW.out ls[k] hln)
          have HR := Lib.hid hR
          have hBr : B ≤ wr.heap.size := by have := hR.bel.size; have := hBe.out; omega
          unfold strV at hcell
          clear hR
          have hTS : tokFrom 0 (ls.take (k + 1)) = tokFrom 0 (ls.take k) ++ lineT ((k : Int) + 1) ls[k] := by
            rw [List.take_succ_eq_append_getElem hlt, tokFrom_snoc]; congr 2; simp; omega
          have hTl := tokFrom_len 4096 0 (ls.take k) (fun x hx => by have := hmem.out x (List.mem_of_mem_take hx); omega)
          have hkl : (ls.take k).length ≤ 4097 := by simp; omega
          have hTl2 : (tokFrom 0 (ls.take k)).length ≤ 17000000 := Nat.le_trans hTl (Nat.le_trans (Nat.mul_le_mul_right 4097 hkl) (by decide))
          have hwl := wordsL_len ls[k]
          generalize hlk : ls[k] = lk at *
          generalize hT : tokFrom 0 (ls.take k) = T at *
          replace hlk := Lib.hid hlk
          replace hT := Lib.hid hT
          replace hTS := Lib.hid hTS
          clear hTl hkl
          go_wp2_with fail
          refine (H2.out _).mono ?_
          rintro e w2 ⟨v2, rfl, hown2, hb2⟩
          obtain ⟨A2, c2, g2, rfl, hl2, hA2, _⟩ := own_form hown2
          have HI0 := Lib.hid (TkI.start HR.out hb2 hBr hl2 (fun h0 => (hA2 (by exact h0)).2))
          have HL0 := Lib.hid (fun h => line_none (n := (k : Int) + 1) (l := lk) h)
          have HL1 := Lib.hid (fun h => line_some (n := (k : Int) + 1) (l := lk) h)
          have hA2 : Hid (0 < (wordsL lk).length → A2 = some ⟨g2, 0, none⟩) := Lib.hid (fun h0 => (hA2 h0).1)
          have hBr2 : B ≤ w2.heap.size := by have := hb2.size; omega
          clear hown2 hl2 hb2 hcell H2
          generalize wordsL lk = ws at *
          have HI1 : Hid (TkI B w1 w2 _ (T ++ (ws.take 0).map (fun t => (t, (k : Int) + 1))) g2 ws) := Lib.hid (by simpa using HI0.out)
          clear HI0
          go_simp
          go_wp2
          go_loopw [6, 10] (fun v i wx => ∃ j : Nat, j ≤ ws.length ∧ i = .int .i64 (j : Int) ∧ B ≤ wx.heap.size ∧ TkI B w1 wx v (T ++ (ws.take j).map (fun t => (t, (k : Int) + 1))) g2 ws) (fun _ i _ => ws.length - (intOf i).toNat)
          case atStart => exact ⟨0, by omega, rfl, hBr2, HI1.out⟩
          case round =>
            obtain ⟨j, hj, rfl, hBx, hI⟩ := hrel
            clear HI1
            have HI := Lib.hid hI
            by_cases hlj : j < ws.length
            · have h0 : 0 < ws.length := by omega
              obtain rfl := hA2.out h0
              have hown := hI.own
              have hcell : wr.cell? ⟨g2, j, none⟩ = some (strV ws[j]) := hI.lies j _ (by simp [hlj])
              have hTS2 : T ++ (ws.take (j + 1)).map (fun t => (t, (k : Int) + 1)) = T ++ (ws.take j).map (fun t => (t, (k : Int) + 1)) ++ [(ws[j], (k : Int) + 1)] := by
                rw [List.take_succ_eq_append_getElem hlj, List.map_append, List.append_assoc]; rfl
              have hT1l : (T ++ (ws.take j).map (fun t => (t, (k : Int) + 1))).length ≤ 17004096 := by simp; omega
              replace hTS2 := Lib.hid hTS2
              clear hI
              unfold strV at hcell
              generalize ws[j] = t at *
              generalize T ++ (ws.take j).map (fun t => (t, (k : Int) + 1)) = T1 at *
              go_wp2_with (first
                | (at_builtin; refine wpList_append_lies _ rfl (.tmp 64) (.tmp 72) 22 rfl B 32 i0 (.agg #[.string ⟨#[]⟩, .int .i64 0]) 2 24 Try.underlying22 hi hz0 hz1 hz2 rfl (by decide) _ _ _ rfl (hown.alloc _) ⟨wr.heap.size, 0, none⟩ 1 1 [.string (bs t), .int .i64 ((k : Int) + 1)] rfl rfl (news2 _ _ _ _) (one2 rfl rfl) (by decide) (by unfold maxLen; omega) (by omega) (by simp; omega) _ rfl ?_; intro g cap w3 hown1 hgrow hat hlt1)
                | fail)
              have hI1 : Hid (TkI B w1 w3 (.slice (some ⟨g, 0, none⟩) (T1.length + 1) cap) (T1 ++ [(t, (k : Int) + 1)]) g2 ws) := Lib.hid (HI.out.step hBx h0 (by omega) hown1 hgrow hat)
              have hBy : B ≤ w3.heap.size := by have := hgrow.size; simp at this; omega
              clear hown1 hgrow hat hlt1 hown hcell
              go_wp2
              go_roundw
              case rel => exact ⟨j + 1, by omega, by go_num, hBy, by rw [hTS2.out]; exact hI1.out⟩
              case measure => simp [intOf]; omega
            · obtain rfl : j = ws.length := by omega
              have hT1l : (T ++ (ws.take ws.length).map (fun t => (t, (k : Int) + 1))).length ≤ 17004096 := by simp; omega
              have hown := hI.own
              rw [List.take_length] at hown hT1l hI
              replace HI := Lib.hid hI
              clear hI
              by_cases h0 : 0 < ws.length
              · have HT1 : Hid (T ++ lineT ((k : Int) + 1) lk = T ++ ws.map (fun t => (t, (k : Int) + 1)) ++ [([10], (k : Int) + 1)]) := Lib.hid (by rw [HL1.out h0, List.append_assoc])
                generalize T ++ ws.map (fun t => (t, (k : Int) + 1)) = T1 at *
                have hnl := Lib.hid bs_nl
                go_wp2_with (first
                  | (at_builtin; refine wpList_append_lies _ rfl (.tmp 77) (.tmp 81) 22 rfl B 32 i0 (.agg #[.string ⟨#[]⟩, .int .i64 0]) 2 24 Try.underlying22 hi hz0 hz1 hz2 rfl (by decide) _ _ _ rfl (hown.alloc _) ⟨wr.heap.size, 0, none⟩ 1 1 [.string ⟨#[10]⟩, .int .i64 ((k : Int) + 1)] rfl rfl (news2 _ _ _ _) (one2 rfl rfl) (by decide) (by unfold maxLen; omega) (by omega) (by simp; omega) _ rfl ?_; intro g cap w3 hown1 hgrow hat hlt1)
                  | fail)
                have hR1 : Hid (TkR B w1 w3 (.slice (some ⟨g, 0, none⟩) (T1.length + 1) cap) (T1 ++ [([10], (k : Int) + 1)])) := by
                  rw [hnl.out] at hown1
                  exact Lib.hid (TkR.app (o := _) ⟨HI.out.own, HI.out.bel⟩ hBx (by omega) hown1 hgrow)
                clear hown1 hgrow hat hlt1 hown hnl
                go_wp2
                go_roundw
                case rel => exact ⟨k + 1, by omega, by go_num, by rw [hTS.out, HT1.out]; exact hR1.out⟩
                case measure => simp [intOf]; omega
              · have HT1 : Hid (T ++ lineT ((k : Int) + 1) lk = T ++ ws.map (fun t => (t, (k : Int) + 1))) := Lib.hid (by rw [HL0.out h0, show ws = [] by rw [← List.length_eq_zero_iff]; omega]; rfl)
                clear hown
                go_wp2
                go_roundw
                case rel => exact ⟨k + 1, by omega, by go_num, by rw [hTS.out, HT1.out]; exact ⟨HI.out.own, HI.out.bel⟩⟩
                case measure => simp [intOf]; omega
        · obtain rfl : k = ls.length := by omega
          have hE := HE.out
          rw [List.take_length, ← hE] at hR
          have hown := own_base hR.own hBw
          have hbel : Hid (Below w.heap.size w wr) := Lib.hid (hb1.out.trans (hR.bel.mono hBw))
          obtain ⟨A3, c3, g3, rfl, _⟩ := own_form hown
          replace hown := Lib.hid hown
          clear hR hE
          by_cases h1024 : 1024 < (tokL L).length
          · have E1 := Lib.hid (lex_many h h1024).1
            have E2 := Lib.hid (lex_many h h1024).2
            generalize hTK : tokL L = TK at *
            replace hTK := Lib.hid hTK
            go_wp2
            go_ret2
            rw [E1.out, E2.out]
            exact ⟨_, rfl, World.ownsRow_nil _ _ _ _, hbel.out⟩
          · cases hbad : badB L
            · have E1 := Lib.hid (lex_ok h h1024 hbad).1
              have E2 := Lib.hid (lex_ok h h1024 hbad).2
              generalize hTK : tokL L = TK at *
              replace hTK := Lib.hid hTK
              replace hbad := Lib.hid hbad
              go_wp2
              go_ret2
              rw [E1.out, E2.out]
              exact ⟨_, rfl, hown.out, hbel.out⟩
            · have E1 := Lib.hid (lex_bad h h1024 hbad).1
              have E2 := Lib.hid (lex_bad h h1024 hbad).2
              generalize hTK : tokL L = TK at *
              replace hTK := Lib.hid hTK
              replace hbad := Lib.hid hbad
              go_wp2
              go_ret2
              rw [E1.out, E2.out]
              exact ⟨_, rfl, World.ownsRow_nil _ _ _ _, hbel.out⟩
end Go.Proofs.Ythanlgdbnhcilaa
namespace Go.Proofs.Ythanlgdbnhcilaa
set_option linter.unusedVariables false
set_option linter.unusedSimpArgs false
open Go.ChangeShapes Go.WideShapes Go.ChangeAt Go.RowKit
theorem infoRune : (Try.prog.info? 21).map (fun i => (i.zero, i.size, i.bytes)) = some (some (.int .i32 0), 1, 4) := by kernel_rfl
theorem own_kind {w : World} {B : Nat} {e : TypeId} {size : Nat} {v : Value} {n : Nat} {xs : List Value} (h : w.ownsRow B e size v n xs) {k : Nat} {o : Obj} (hk : w.heap[k]? = some o) (ho : ∀ c fz, o ≠ .cells c e fz) : v.ownBlock ≠ some k := by
  intro he
  rcases h.2 with ⟨rfl, _⟩ | ⟨g, cap, cur, rfl, _, hg, _⟩
  · simp [Value.ownBlock] at he
  · simp [Value.ownBlock] at he
    subst he
    rw [hk] at hg
    exact ho _ _ (Option.some.inj hg)
theorem own_stay {w w' : World} {B : Nat} {e : TypeId} {size : Nat} {v : Value} {n : Nat} {xs : List Value} (h : w.ownsRow B e size v n xs) (hb : ∀ g, v.ownBlock = some g → w'.heap[g]? = w.heap[g]?) : w'.ownsRow B e size v n xs := by
  refine ⟨h.1, ?_⟩
  rcases h.2 with hn | ⟨g, cap, cur, rfl, hbg, hg, rest⟩
  · exact .inl hn
  · exact .inr ⟨g, cap, cur, rfl, hbg, (hb g rfl).trans hg, rest⟩
theorem own_some {w : World} {B : Nat} {e : TypeId} {size : Nat} {v : Value} {n : Nat} {xs : List Value} (h : w.ownsRow B e size v n xs) {g : Nat} (hg : v.ownBlock = some g) : ∃ c fz, w.heap[g]? = some (.cells c e fz) := by
  rcases h.2 with ⟨rfl, _⟩ | ⟨g', cap, cur, rfl, _, hg', _⟩
  · simp [Value.ownBlock] at hg
  · simp [Value.ownBlock] at hg
    subst hg
    exact ⟨_, _, hg'⟩
theorem own_cut {w : World} {B : Nat} {e : TypeId} {size : Nat} {A : Option Addr} {n cap : Nat} {xs : List Value} (h : w.ownsRow B e size (.slice A n cap) n xs) : w.ownsRow B e size (.slice A 0 cap) 0 [] := by
  refine ⟨by simp, ?_⟩
  rcases h.2 with ⟨hv, hn⟩ | ⟨g, cap', cur, hv, hbg, hg, hnc, hcm, hcs, _⟩
  · injection hv with h1 h2 h3
    subst h1 h3
    exact .inl ⟨rfl, rfl⟩
  · injection hv with h1 h2 h3
    subst h1 h3
    exact .inr ⟨g, _, cur, rfl, hbg, hg, Nat.zero_le _, hcm, hcs, by simp⟩
structure LxH (B : Nat) (w0 w : World) (M IT : Nat) (s : ByteArray) (pos : Nat) (o : List Tok) (c : List Int) (n : Int) (b od : Bool) (v u : Value) : Prop where
  row : w.heap[M]? = some (.cells #[v, u, .int .i64 n, .bool b, .bool od] 38 (0, 0))
  it : w.heap[IT]? = some (.stringIter s pos)
  ov : w.ownsRow B 32 2 v o.length (tokVs o)
  ou : w.ownsRow B 21 1 u c.length (c.map (Value.int .i32))
  bM : B ≤ M
  bI : B ≤ IT
  bel : Below B w0 w
  sz : B ≤ w.heap.size
def LxG (B : Nat) (w0 w : World) (M IT : Nat) (s : ByteArray) (pos : Nat) (R : Rg) : Prop := ∃ v u, LxH B w0 w M IT s pos R.out R.cur R.ln R.note R.odd v u
section
variable {B : Nat} {w0 w : World} {M IT : Nat} {s : ByteArray} {pos : Nat} {o : List Tok} {c : List Int} {n : Int} {b od : Bool} {v u : Value}
theorem LxH.MI (h : LxH B w0 w M IT s pos o c n b od v u) : IT ≠ M := by
  rintro rfl
  have := h.it
  rw [h.row] at this
  cases this
theorem LxH.vM (h : LxH B w0 w M IT s pos o c n b od v u) : v.ownBlock ≠ some M := own_kind h.ov h.row (fun c fz e => by injection e with _ e2; exact absurd e2 (by decide))
theorem LxH.uM (h : LxH B w0 w M IT s pos o c n b od v u) : u.ownBlock ≠ some M := own_kind h.ou h.row (fun c fz e => by injection e with _ e2; exact absurd e2 (by decide))
theorem LxH.vI (h : LxH B w0 w M IT s pos o c n b od v u) : v.ownBlock ≠ some IT := own_kind h.ov h.it (fun c fz e => by cases e)
theorem LxH.uI (h : LxH B w0 w M IT s pos o c n b od v u) : u.ownBlock ≠ some IT := own_kind h.ou h.it (fun c fz e => by cases e)
theorem LxH.vu (h : LxH B w0 w M IT s pos o c n b od v u) {g : Nat} (hg : v.ownBlock = some g) : u.ownBlock ≠ some g := by
  obtain ⟨c1, fz1, h1⟩ := own_some h.ov hg
  exact own_kind h.ou h1 (fun c fz e => by injection e with _ e2; exact absurd e2 (by decide))
theorem LxH.uv (h : LxH B w0 w M IT s pos o c n b od v u) {g : Nat} (hg : u.ownBlock = some g) : v.ownBlock ≠ some g := fun e => h.vu e hg
theorem LxH.ltM (h : LxH B w0 w M IT s pos o c n b od v u) : M < w.heap.size := (Array.getElem?_eq_some_iff.1 h.row).1
theorem LxH.ltI (h : LxH B w0 w M IT s pos o c n b od v u) : IT < w.heap.size := (Array.getElem?_eq_some_iff.1 h.it).1
theorem LxH.drew (h : LxH B w0 w M IT s pos o c n b od v u) : LxH B w0 w.drew M IT s pos o c n b od v u := ⟨h.row, h.it, h.ov, h.ou, h.bM, h.bI, ⟨h.bel.os, h.bel.tape, h.bel.output, h.bel.size, h.bel.block⟩, h.sz⟩
theorem LxH.drewN (h : LxH B w0 w M IT s pos o c n b od v u) (q : Nat) : LxH B w0 (w.drewN q) M IT s pos o c n b od v u := ⟨h.row, h.it, h.ov, h.ou, h.bM, h.bI, ⟨h.bel.os, h.bel.tape, h.bel.output, h.bel.size, h.bel.block⟩, h.sz⟩
theorem LxH.set (h : LxH B w0 w M IT s pos o c n b od v u) (j : Nat) (a : Value) {c' : List Int} {n' : Int} {b' od' : Bool} {u' : Value}
    (hr : (#[v, u, .int .i64 n, .bool b, .bool od] : Array Value).setIfInBounds j a = #[v, u', .int .i64 n', .bool b', .bool od'])
    (hu : w.ownsRow B 21 1 u' c'.length (c'.map (Value.int .i32))) : LxH B w0 (w.setCell ⟨M, j, none⟩ a) M IT s pos o c' n' b' od' v u' := by
  have huM : u'.ownBlock ≠ some M := own_kind hu h.row (fun c fz e => by injection e with _ e2; exact absurd e2 (by decide))
  refine ⟨by rw [row_set1 h.row, hr], row_other1 h.MI h.it j a, own_stay h.ov (fun g hg => row_other1 (fun e => h.vM (by rw [hg, e])) rfl j a), own_stay hu (fun g hg => row_other1 (fun e => huM (by rw [hg, e])) rfl j a), h.bM, h.bI, h.bel.setCell (by exact h.bM) _, ?_⟩
  have e := h.sz
  simpa [World.setCell] using e
theorem LxH.next (h : LxH B w0 w M IT s pos o c n b od v u) (p : Nat) : LxH B w0 (w.iterAt IT s p) M IT s p o c n b od v u := by
  refine ⟨(Lib.iterAt_other w IT M s p (Ne.symm h.MI)).trans h.row, Lib.iterAt_heap w IT s pos p h.it, own_stay h.ov (fun g hg => Lib.iterAt_other w IT g s p (fun e => h.vI (by rw [hg, e]))), own_stay h.ou (fun g hg => Lib.iterAt_other w IT g s p (fun e => h.uI (by rw [hg, e]))), h.bM, h.bI, Lib.below_iterAt h.bel h.bI s p, ?_⟩
  rw [Lib.iterAt_size]
  exact h.sz
theorem LxH.tok (h : LxH B w0 w M IT s pos o c n b od v u) {w1 : World} {x : Obj} {g cap : Nat} {t : List UInt8} (hown : w1.ownsRow B 32 2 (.slice (some ⟨g, 0, none⟩) (o.length + 1) cap) (o.length + 1) (tokVs o ++ [.string (bs t), .int .i64 n])) (hg : (w.alloc x).grownBy w1 v.ownBlock) :
    w1.heap[M]? = some (.cells #[v, u, .int .i64 n, .bool b, .bool od] 38 (0, 0)) ∧ LxH B w0 (w1.setCell ⟨M, 0, none⟩ (.slice (some ⟨g, 0, none⟩) (o.length + 1) cap)) M IT s pos (o ++ [(t, n)]) c n b od (.slice (some ⟨g, 0, none⟩) (o.length + 1) cap) u := by
  have keep : ∀ k, k < w.heap.size → v.ownBlock ≠ some k → w1.heap[k]? = w.heap[k]? := fun k hk hne => app_keep hg hk hne
  have r1 := (keep M h.ltM h.vM).trans h.row
  have i1 := (keep IT h.ltI h.vI).trans h.it
  have u1 : w1.ownsRow B 21 1 u c.length (c.map (Value.int .i32)) := own_stay h.ou (fun g2 hg2 => by
    obtain ⟨c2, f2, h2⟩ := own_some h.ou hg2
    exact keep g2 (Array.getElem?_eq_some_iff.1 h2).1 (h.uv hg2))
  have v1 : w1.ownsRow B 32 2 (.slice (some ⟨g, 0, none⟩) (o.length + 1) cap) (o ++ [(t, n)]).length (tokVs (o ++ [(t, n)])) := by
    rw [tokVs_snoc, List.length_append]
    exact hown
  have vM : Value.ownBlock (.slice (some ⟨g, 0, none⟩) (o.length + 1) cap) ≠ some M := own_kind v1 r1 (fun c fz e => by injection e with _ e2; exact absurd e2 (by decide))
  have uM : u.ownBlock ≠ some M := h.uM
  have hs := hg.size
  have hs2 : (w.alloc x).heap.size = w.heap.size + 1 := by simp
  have hs3 := h.sz
  refine ⟨r1, by rw [row_set1 r1]; rfl, row_other1 h.MI i1 0 _, own_stay v1 (fun k hk => row_other1 (fun e => vM (by rw [hk, e])) rfl 0 _), own_stay u1 (fun k hk => row_other1 (fun e => uM (by rw [hk, e])) rfl 0 _), h.bM, h.bI, (bel_append h.bel h.sz h.ov hg).setCell (by exact h.bM) _, ?_⟩
  have e : B ≤ w1.heap.size := by omega
  simpa [World.setCell] using e
theorem LxH.cur (h : LxH B w0 w M IT s pos o c n b od v u) {w1 : World} {x : Obj} {g cap : Nat} {r : Int} (hown : w1.ownsRow B 21 1 (.slice (some ⟨g, 0, none⟩) (c.length + 1) cap) (c.length + 1) (c.map (Value.int .i32) ++ [.int .i32 r])) (hg : (w.alloc x).grownBy w1 u.ownBlock) :
    w1.heap[M]? = some (.cells #[v, u, .int .i64 n, .bool b, .bool od] 38 (0, 0)) ∧ LxH B w0 (w1.setCell ⟨M, 1, none⟩ (.slice (some ⟨g, 0, none⟩) (c.length + 1) cap)) M IT s pos o (c ++ [r]) n b od v (.slice (some ⟨g, 0, none⟩) (c.length + 1) cap) := by
  have keep : ∀ k, k < w.heap.size → u.ownBlock ≠ some k → w1.heap[k]? = w.heap[k]? := fun k hk hne => app_keep hg hk hne
  have r1 := (keep M h.ltM h.uM).trans h.row
  have i1 := (keep IT h.ltI h.uI).trans h.it
  have v1 : w1.ownsRow B 32 2 v o.length (tokVs o) := own_stay h.ov (fun g2 hg2 => by
    obtain ⟨c2, f2, h2⟩ := own_some h.ov hg2
    exact keep g2 (Array.getElem?_eq_some_iff.1 h2).1 (h.vu hg2))
  have u1 : w1.ownsRow B 21 1 (.slice (some ⟨g, 0, none⟩) (c.length + 1) cap) (c ++ [r]).length ((c ++ [r]).map (Value.int .i32)) := by
    rw [List.map_append, List.length_append]
    exact hown
  have uM : Value.ownBlock (.slice (some ⟨g, 0, none⟩) (c.length + 1) cap) ≠ some M := own_kind u1 r1 (fun c fz e => by injection e with _ e2; exact absurd e2 (by decide))
  have vM : v.ownBlock ≠ some M := h.vM
  have hs := hg.size
  have hs2 : (w.alloc x).heap.size = w.heap.size + 1 := by simp
  have hs3 := h.sz
  refine ⟨r1, by rw [row_set1 r1]; rfl, row_other1 h.MI i1 1 _, own_stay v1 (fun k hk => row_other1 (fun e => vM (by rw [hk, e])) rfl 1 _), own_stay u1 (fun k hk => row_other1 (fun e => uM (by rw [hk, e])) rfl 1 _), h.bM, h.bI, (bel_append h.bel h.sz h.ou hg).setCell (by exact h.bM) _, ?_⟩
  have e : B ≤ w1.heap.size := by omega
  simpa [World.setCell] using e
end
set_option maxHeartbeats 1600000 in
theorem pLexAdd_any {B : Nat} {w0 : World} {M IT : Nat} {s : ByteArray} {pos : Nat} {o : List Tok} {c : List Int} {n : Int} {b od : Bool} {v u : Value} (t : List UInt8) (w : World) (h : LxH B w0 w M IT s pos o c n b od v u) (hl : o.length ≤ 20000) :
    Calls Try.prog 21 #[.pointer (some ⟨M, 0, none⟩), .string (bs t)] w fun e w' => e = .returned (.tuple #[]) ∧ ∃ v', LxH B w0 w' M IT s pos (o ++ [(t, n)]) c n b od v' u := by
  obtain ⟨i0, hi, hz0, hz1, hz2⟩ := info_parts infoTok
  have c0 : w.cell? ⟨M, 0, none⟩ = some v := by rw [Lib.cell_of_heap h.row]; rfl
  have c2 : w.cell? ⟨M, 2, none⟩ = some (.int .i64 n) := by rw [Lib.cell_of_heap h.row]; rfl
  have f0 : w.frozen? ⟨M, 0, none⟩ = false := Lib.frozen_of_heap h.row 0
  have hsz := h.sz
  have hov := h.ov
  have hlt := h.ltM
  have H := Lib.hid h
  clear h
  obtain ⟨A0, k0, g0, rfl, _⟩ := own_form hov
  go_enter Try.func21, Try.ntmps21
  go_wp2_with fail
  go_region_law
    ((refine step_append_lies _ (by rfl) _ _ _ (by rfl) B 32 i0 (.agg #[.string ⟨#[]⟩, .int .i64 0]) 2 24 Try.underlying22 hi hz0 hz1 hz2 rfl (by omega) (.slice A0 o.length k0) o.length (tokVs o) (by rfl) ((hov.alloc _).drew)
        ⟨w.heap.size, 0, none⟩ 1 1 [.string (bs t), .int .i64 n] (by rfl) (by rfl) (World.news_of_block (cs := #[.string (bs t), .int .i64 n]) (t := 32) (fr := (0, 0)) (heap_alloc_new w _)) (one2 rfl rfl)
        (by omega) (by unfold maxLen; omega) (by omega) (by simp; omega) (w.heap.size + 1) (by simp) ?_; intro gg cap w1 hown1 hgrow hat hlt1; (have HT := Lib.hid (H.out.drew.tok hown1 hgrow)); (have d0 : w1.cell? ⟨M, 0, none⟩ = some (.slice A0 o.length k0) := by rw [Lib.cell_of_heap HT.out.1]; rfl); (have e0 : w1.frozen? ⟨M, 0, none⟩ = false := Lib.frozen_of_heap HT.out.1 0)))
  all_goals
    go_wp2
    go_end0
    exact ⟨rfl, _, HT.out.2⟩
set_option maxHeartbeats 1600000 in
theorem pLexWord_any {B : Nat} {w0 : World} {M IT : Nat} {s : ByteArray} {pos : Nat} {o : List Tok} {c : List Int} {n : Int} {b od : Bool} {v u : Value} (w : World) (h : LxH B w0 w M IT s pos o c n b od v u) (hl : o.length ≤ 20000) :
    Calls Try.prog 20 #[.pointer (some ⟨M, 0, none⟩)] w fun e w' => e = .returned (.tuple #[]) ∧ ∃ v' u', LxH B w0 w' M IT s pos (wdT o c n) [] n b od v' u' := by
  have hcl := h.ou.1
  obtain ⟨A1, k1, g1, rfl, hl1, hA1, hA0⟩ := own_form h.ou
  have c1 : w.cell? ⟨M, 1, none⟩ = some (.slice A1 c.length k1) := by rw [Lib.cell_of_heap h.row]; rfl
  by_cases hc : c = []
  · subst hc
    have e : wdT o [] n = o := if_pos rfl
    rw [e]
    have H := Lib.hid h
    clear h hl1 hA1 hA0
    go_enter Try.func20, Try.ntmps20
    go_wp2
    go_end0
    exact ⟨rfl, _, _, H.out⟩
  · have hc0 : 0 < c.length := List.length_pos_iff.2 hc
    obtain ⟨rfl, hg1, hg2⟩ := hA1 hc0
    have e : wdT o c n = o ++ [(rb c, n)] := if_neg hc
    rw [e]
    have hconv : (convert 36 9 (.slice (some ⟨g1, 0, none⟩) c.length k1)).run Try.prog w = .ok (.string (bs (rb c))) w := by
      rw [run_convert_runes w _ _ 21 ⟨g1, 0, none⟩ c.length k1 c (Nat.le_refl _) Try.underlying36 Try.underlying21 Try.underlying9 (fun j hj => ?_), List.take_length, bs_rb]
      have := hl1 j (.int .i32 (c.getD j 0)) (by simp [hj, List.getD])
      have hadd : (⟨g1, 0, none⟩ : Addr).add j = ⟨g1, j, none⟩ := by unfold Addr.add; split <;> simp_all
      rw [hadd, this]
    have H := Lib.hid h
    have HA := Lib.hid (pLexAdd_any (rb c) w h hl)
    generalize rb c = t at *
    clear h hl1 hA1 hA0 hc e
    go_enter Try.func20, Try.ntmps20
    go_wp2_with fail
    refine HA.out.mono ?_
    rintro e w1 ⟨rfl, v', h1⟩
    have d1 : w1.cell? ⟨M, 1, none⟩ = some (.slice (some ⟨g1, 0, none⟩) c.length k1) := by rw [Lib.cell_of_heap h1.row]; rfl
    have f1 : w1.frozen? ⟨M, 1, none⟩ = false := Lib.frozen_of_heap h1.row 1
    have hcut := own_cut h1.ou
    have HF := Lib.hid (h1.set 1 (.slice (some ⟨g1, 0, none⟩) 0 k1) (c' := []) (n' := n) (b' := b) (od' := od) rfl (by simpa using hcut))
    clear h1 hcut HA hconv
    go_wp2
    go_end0
    exact ⟨rfl, _, _, HF.out⟩
end Go.Proofs.Ythanlgdbnhcilaa
namespace Go.Proofs.Ythanlgdbnhcilaa
set_option linter.unusedVariables false
set_option linter.unusedSimpArgs false
open Go.ChangeShapes Go.WideShapes Go.ChangeAt Go.RowKit
def Rd (w : World) (A : Option Addr) (xs : List Value) : Prop := ∀ j u, xs[j]? = some u → ∃ b o, A = some ⟨b, o, none⟩ ∧ b < w.heap.size ∧ w.cell? ⟨b, o + j, none⟩ = some u
theorem Rd.below {w w' : World} {A : Option Addr} {xs : List Value} {B : Nat} (h : Rd w A xs) (hb : Below B w w') (hB : w.heap.size ≤ B) : Rd w' A xs := fun j u hu => by
  obtain ⟨b, o, h1, h2, h3⟩ := h j u hu
  exact ⟨b, o, h1, Nat.lt_of_lt_of_le h2 hb.size, (hb.cell (p := ⟨b, o + j, none⟩) (by show b < B; omega)).trans h3⟩
theorem Rd.own {w : World} {base : Nat} {e : TypeId} {size : Nat} {A : Option Addr} {n m c : Nat} {xs : List Value} (h : w.ownsRow base e size (.slice A m c) n xs) : Rd w A xs := fun j u hu => by
  obtain ⟨A', c', g, hv, hl, hA, _⟩ := own_form h
  have hn : 0 < n := by
    have h1 := h.1
    rcases Nat.eq_zero_or_pos n with h0 | h0
    · subst h0
      rw [Nat.zero_mul] at h1
      rw [List.length_eq_zero_iff] at h1
      subst h1
      simp at hu
    · exact h0
  obtain ⟨h1, h2, h3⟩ := hA hn
  obtain ⟨rfl, rfl, rfl⟩ : A = A' ∧ m = n ∧ c = c' := by simpa using hv
  exact ⟨g, 0, h1, h3, by rw [Nat.zero_add]; exact hl j u hu⟩
theorem Rd.at_ {w : World} {A : Option Addr} {xs : List Value} (h : Rd w A xs) {b o : Nat} (hA : A = some ⟨b, o, none⟩) {j : Nat} {u : Value} (hu : xs[j]? = some u) : w.cell? ⟨b, o + j, none⟩ = some u := by
  obtain ⟨b', o', h1, h2, h3⟩ := h j u hu
  rw [hA] at h1
  obtain ⟨rfl, rfl⟩ : b = b' ∧ o = o' := by simpa using h1
  exact h3
theorem tokVs_at (T : List Tok) (k : Nat) (h : k < T.length) : (tokVs T)[2 * k]? = some (strV T[k].1) ∧ (tokVs T)[2 * k + 1]? = some (.int .i64 T[k].2) := by
  induction T generalizing k with
  | nil => simp at h
  | cons t T ih =>
    have e : tokVs (t :: T) = strV t.1 :: .int .i64 t.2 :: tokVs T := by unfold tokVs; rw [List.flatMap_cons]; rfl
    rw [e]
    cases k with
    | zero => exact ⟨rfl, rfl⟩
    | succ k =>
      rw [show 2 * (k + 1) = 2 * k + 1 + 1 by omega]
      simpa using ih k (by simpa using h)
theorem Rd.tok {w : World} {A : Option Addr} {T : List Tok} (h : Rd w A (tokVs T)) {k : Nat} (hk : k < T.length) :
    ∃ b o, A = some ⟨b, o, none⟩ ∧ b < w.heap.size ∧ ∀ j (hj : j < T.length), w.cell? ⟨b, o + j * 2, none⟩ = some (.string (bs T[j].1)) ∧ w.cell? ⟨b, o + j * 2 + 1, none⟩ = some (.int .i64 T[j].2) := by
  obtain ⟨h1, h2⟩ := tokVs_at T k hk
  obtain ⟨b, o, hA, hb, hc⟩ := h _ _ h1
  refine ⟨b, o, hA, hb, fun j hj => ?_⟩
  obtain ⟨h3, h4⟩ := tokVs_at T j hj
  have h5 := h.at_ hA h3
  have h6 := h.at_ hA h4
  rw [show 2 * j = j * 2 by omega] at h5 h6
  exact ⟨h5, by rw [Nat.add_assoc]; exact h6⟩
def gapB (T : List Tok) (k : Nat) : Bool := (T.getD k ([], 0)).1 != [10] && decide (k + 1 < T.length) && (T.getD (k + 1) ([], 0)).1 != [10]
def pieceT (T : List Tok) (k : Nat) : List UInt8 := (T.getD k ([], 0)).1 ++ (if gapB T k = true then [32] else [])
def shW (T : List Tok) (k : Nat) : List UInt8 := (List.range k).flatMap (pieceT T)
def showT (T : List Tok) : List UInt8 := shW T T.length
theorem shW_succ (T : List Tok) (k : Nat) : shW T (k + 1) = shW T k ++ pieceT T k := by unfold shW; rw [List.range_succ, List.flatMap_append]; simp
def szT (T : List Tok) : Nat := (T.map (fun t => t.1.length + 1)).sum
theorem szT_snoc (T : List Tok) (t : Tok) : szT (T ++ [t]) = szT T + (t.1.length + 1) := by unfold szT; simp
theorem szT_take (T : List Tok) (k : Nat) : szT (T.take k) ≤ szT T := by
  conv => rhs; rw [← List.take_append_drop k T]
  unfold szT
  rw [List.map_append, List.sum_append]
  omega
theorem szT_ge (T : List Tok) : T.length ≤ szT T := by
  unfold szT
  induction T with
  | nil => simp
  | cons t T ih => simp; omega
theorem tokD_at (T : List Tok) (k : Nat) (h : k < T.length) (d : Tok) : T.getD k d = T[k] := by simp [List.getD, List.getElem?_eq_getElem h]
theorem shW_len (T : List Tok) (k : Nat) (h : k ≤ T.length) : (shW T k).length ≤ szT (T.take k) := by
  induction k with
  | zero => simp [shW]
  | succ k ih =>
    rw [shW_succ, List.take_succ_eq_append_getElem (by omega), szT_snoc, List.length_append]
    have := ih (by omega)
    unfold pieceT
    rw [tokD_at T k (by omega)]
    split <;> simp <;> omega
theorem sh_bd (T : List Tok) (k : Nat) (h : k < T.length) (hs : szT T ≤ 1000000000) : (shW T k).length + T[k].1.length + 1 ≤ 1000000000 := by
  have h1 := shW_len T k (by omega)
  have h2 := szT_take T (k + 1)
  rw [List.take_succ_eq_append_getElem h, szT_snoc] at h2
  omega
theorem sh_plain (T : List Tok) (k : Nat) (h : k < T.length) (hg : T[k].1 = [10] ∨ k + 1 = T.length ∨ ∃ h2 : k + 1 < T.length, T[k + 1].1 = [10]) : shW T (k + 1) = shW T k ++ T[k].1 := by
  have e : gapB T k = false := by
    unfold gapB
    rw [tokD_at T k h]
    rcases hg with hg | hg | ⟨h2, hg⟩
    · rw [hg]; rfl
    · rw [decide_eq_false (show ¬ k + 1 < T.length by omega)]; simp
    · rw [tokD_at T (k + 1) h2, hg]; simp
  rw [shW_succ]
  unfold pieceT
  rw [tokD_at T k h, e]
  simp
theorem sh_gap (T : List Tok) (k : Nat) (h2 : k + 1 < T.length) (hg : T[k].1 ≠ [10]) (hg2 : T[k + 1].1 ≠ [10]) : shW T (k + 1) = shW T k ++ T[k].1 ++ [32] := by
  have e : gapB T k = true := by
    unfold gapB
    rw [tokD_at T k (by omega), tokD_at T (k + 1) h2, decide_eq_true h2]
    simp [hg, hg2]
  rw [shW_succ]
  unfold pieceT
  rw [tokD_at T k (by omega), e]
  simp
theorem bs_sp : (⟨#[32]⟩ : ByteArray) = bs [32] := by unfold bs; rfl
set_option maxHeartbeats 3200000 in
set_option maxRecDepth 100000 in
theorem rShow_any (T : List Tok) (hs : szT T ≤ 1000000000) (A : Option Addr) (c : Nat) (w : World) (hR : Rd w A (tokVs T)) : Calls Try.prog 11 #[.slice A T.length c] w fun e w' => e = .returned (.string (bs (showT T))) ∧ w = w' := by
  have HR := Lib.hid hR
  clear hR
  have hb0 := Lib.hid bs_nil
  have hlenT := szT_ge T
  go_enter Try.func11, Try.ntmps11
  go_wp2
  go_loop [3, 4] (fun s i => ∃ k : Nat, k ≤ T.length ∧ i = .int .i64 (k : Int) ∧ s = .string (bs (shW T k))) (fun _ i => T.length - (intOf i).toNat)
  case atStart => exact ⟨0, by omega, rfl, by rw [← hb0.out]; rfl⟩
  case round =>
    obtain ⟨k, hk, rfl, rfl⟩ := hrel
    by_cases hlt : k < T.length
    · obtain ⟨b, o, rfl, hb, hc⟩ := HR.out.tok hlt
      have hcell := (hc k hlt).1
      have hl := sh_bd T k hlt hs
      have hp1 := sh_plain T k hlt
      have hp2 : ∀ h2 : k + 1 < T.length, T[k].1 ≠ [10] → T[k + 1].1 ≠ [10] → shW T (k + 1) = shW T k ++ T[k].1 ++ [32] := sh_gap T k
      have hcn : ∀ h : k + 1 < T.length, w.cell? ⟨b, o + (k + 1) * 2, none⟩ = some (.string (bs T[k + 1].1)) := fun h => (hc (k + 1) h).1
      clear hc
      obtain ⟨S', hS'⟩ : ∃ S', Hid (S' = shW T (k + 1)) := ⟨_, Lib.hid rfl⟩
      rw [← hS'.out] at hp1
      generalize hS : shW T k = S at *
      generalize ht : T[k].1 = t at *
      have z1 := bs_size S
      have z2 := bs_size t
      obtain ⟨S1, hS1⟩ : ∃ S1, Hid (S1 = S ++ t) := ⟨_, Lib.hid rfl⟩
      obtain ⟨S2, hS2⟩ : ∃ S2, Hid (S2 = S1 ++ [32]) := ⟨_, Lib.hid rfl⟩
      have z3 := bs_size S1
      have a1 : bs S ++ bs t = bs S1 := by rw [hS1.out]; exact append_bs S t
      have a2 : bs S1 ++ ⟨#[32]⟩ = bs S2 := by rw [hS2.out, bs_sp]; exact append_bs S1 [32]
      have hl1 : S1.length ≤ 1000000000 := by rw [hS1.out]; simp; omega
      have l1 := bs_list t
      have s1 : ¬ (9223372036854775807 < S.length + t.length) := by omega
      have s2 : ¬ (9223372036854775807 < S1.length + 1) := by omega
      by_cases h10 : t = [10]
      · have E : Hid (S' = S1) := Lib.hid (hS1.out ▸ hp1 (Or.inl h10))
        have hE1 : (t == [10]) = true := by rw [h10]; rfl
        replace h10 := Lib.hid h10
        clear hp1 hp2 hcn
        go_wp2
        go_round
        case rel => exact ⟨k + 1, by omega, by go_num, by rw [← hS'.out, E.out]⟩
        case measure => simp [intOf]; omega
      · have hE1 : (t == [10]) = false := by rw [beq_eq_false_iff_ne]; exact h10
        by_cases hn : k + 1 < T.length
        · have hcn' := hcn hn
          have hd1 : ((k : Int) + 1 < (T.length : Int)) := by omega
          clear hcn
          generalize ht2 : T[k + 1].1 = t2 at *
          have l2 := bs_list t2
          by_cases h102 : t2 = [10]
          · have E : Hid (S' = S1) := Lib.hid (hS1.out ▸ hp1 (Or.inr (Or.inr ⟨hn, by rw [ht2]; exact h102⟩)))
            have hE2 : (t2 == [10]) = true := by rw [h102]; rfl
            replace h102 := Lib.hid h102
            replace h10 := Lib.hid h10
            clear hp1 hp2
            go_wp2
            go_round
            case rel => exact ⟨k + 1, by omega, by go_num, by rw [← hS'.out, E.out]⟩
            case measure => simp [intOf]; omega
          · have E : Hid (S' = S2) := Lib.hid (by rw [hS2.out, hS1.out, hS'.out]; exact hp2 hn h10 (by rw [ht2]; exact h102))
            have hE2 : (t2 == [10]) = false := by rw [beq_eq_false_iff_ne]; exact h102
            replace h102 := Lib.hid h102
            replace h10 := Lib.hid h10
            clear hp1 hp2
            go_wp2
            go_round
            case rel => exact ⟨k + 1, by omega, by go_num, by rw [← hS'.out, E.out]⟩
            case measure => simp [intOf]; omega
        · have E : Hid (S' = S1) := Lib.hid (hS1.out ▸ hp1 (Or.inr (Or.inl (by omega))))
          have hd1 : ¬ ((k : Int) + 1 < (T.length : Int)) := by omega
          replace h10 := Lib.hid h10
          clear hp1 hp2 hcn
          go_wp2
          go_round
          case rel => exact ⟨k + 1, by omega, by go_num, by rw [← hS'.out, E.out]⟩
          case measure => simp [intOf]; omega
    · obtain rfl : k = T.length := by omega
      go_wp2
      go_ret
      exact ⟨rfl, rfl⟩
set_option maxHeartbeats 3200000 in
set_option maxRecDepth 100000 in
theorem rTokens_yes (T : List Tok) (A A' : Option Addr) (c c' : Nat) (w : World) (hT : T.length ≤ 1000000000) (hR : Rd w A (tokVs T)) (hR' : Rd w A' (tokVs T)) : Calls Try.prog 9 #[.slice A T.length c, .slice A' T.length c'] w fun e w' => e = .returned (.bool true) ∧ Below w.heap.size w w' := by
  have HR := Lib.hid hR
  have HR' := Lib.hid hR'
  clear hR hR'
  go_enter Try.func9, Try.ntmps9
  go_wp2
  go_loopw [5] (fun i wr => ∃ k : Nat, k ≤ T.length ∧ i = .int .i64 (k : Int) ∧ Below w.heap.size w wr) (fun i _ => T.length - (intOf i).toNat)
  case atStart => exact ⟨0, by omega, rfl, Below.refl _ _⟩
  case round =>
    obtain ⟨k, hk, rfl, hB⟩ := hrel
    have hR := HR.out.below hB (Nat.le_refl _)
    have hR' := HR'.out.below hB (Nat.le_refl _)
    replace hB := Lib.hid hB
    by_cases hlt : k < T.length
    · obtain ⟨b, o, rfl, hb, hc⟩ := hR.tok hlt
      obtain ⟨b', o', rfl, hb', hc'⟩ := hR'.tok hlt
      obtain ⟨c1, c2⟩ := hc k hlt
      obtain ⟨c3, c4⟩ := hc' k hlt
      clear hc hc' hR hR'
      generalize T[k].1 = t at *
      generalize T[k].2 = n at *
      go_wp2_with fail
      go_region
      go_wp2
      go_roundw
      case rel => exact ⟨k + 1, by omega, by go_num, hB.out.drew⟩
      case measure => simp [intOf]; omega
    · obtain rfl : k = T.length := by omega
      clear hR hR'
      go_wp2
      go_ret
      exact ⟨rfl, hB.out⟩
theorem rLexA_any (L : List UInt8) (w : World) : Calls Try.prog 8 #[.string (bs L)] w (RetTok (lexT L) (lexE L) w) := by
  by_cases h : 4096 < L.length
  · exact rLex_big L h w
  · exact rLex_any L h w
end Go.Proofs.Ythanlgdbnhcilaa
namespace Go.Proofs.Ythanlgdbnhcilaa
set_option linter.unusedVariables false
set_option linter.unusedSimpArgs false
open Go.ChangeShapes Go.WideShapes Go.ChangeAt Go.RowKit
theorem wdT_len (o : List Tok) (c : List Int) (n : Int) : (wdT o c n).length ≤ o.length + 1 := by unfold wdT; split <;> simp
theorem snoc_or (T : List Tok) : T = [] ∨ ∃ T' x m, T = T' ++ [(x, m)] := by
  rcases List.eq_nil_or_concat T with h | ⟨T', ⟨x, m⟩, h⟩
  · exact .inl h
  · exact .inr ⟨T', x, m, by rw [h, List.concat_eq_append]⟩
set_option maxHeartbeats 1600000 in
theorem pLexLine_any {B : Nat} {w0 : World} {M IT : Nat} {s : ByteArray} {pos : Nat} {o : List Tok} {c : List Int} {b od : Bool} {v u : Value} (n : Nat) (w : World) (h : LxH B w0 w M IT s pos o c (n : Int) b od v u) (hl : o.length ≤ 19000) (hn : n ≤ 100000) :
    Calls Try.prog 13 #[.pointer (some ⟨M, 0, none⟩)] w fun e w' => e = .returned (.tuple #[]) ∧ ∃ v' u', LxH B w0 w' M IT s pos (enT (wdT o c n) n) [] ((n : Int) + 1) false od v' u' := by
  have HW := Lib.hid (pLexWord_any w h (by omega))
  have hl1 := wdT_len o c n
  have hb0 := Lib.hid bs_nl
  have hw : IntKind.i64.wrap ((n : Int) + 1) = (n : Int) + 1 := wrap_small _ (by omega) (by omega)
  generalize wdT o c n = T at *
  clear h
  go_enter Try.func13, Try.ntmps13
  go_wp2_with fail
  refine HW.out.mono ?_
  rintro e w1 ⟨rfl, v1, u1, h1⟩
  clear HW
  obtain ⟨A1, k1, g1, rfl, -⟩ := own_form h1.ov
  have c0 : w1.cell? ⟨M, 0, none⟩ = some (.slice A1 T.length k1) := by rw [Lib.cell_of_heap h1.row]; rfl
  have c2 : w1.cell? ⟨M, 2, none⟩ = some (.int .i64 (n : Int)) := by rw [Lib.cell_of_heap h1.row]; rfl
  have S2 := fun q => (h1.drewN q).set 2 (.int .i64 ((n : Int) + 1)) (c' := []) (n' := (n : Int) + 1) (b' := b) (od' := od) rfl (h1.drewN q).ou
  have S3 := Lib.hid (fun q => (S2 q).set 3 (.bool false) (c' := []) (n' := (n : Int) + 1) (b' := false) (od' := od) rfl (S2 q).ou)
  have f2 : ∀ q, (w1.drewN q).frozen? ⟨M, 2, none⟩ = false := fun q => Lib.frozen_of_heap (h1.drewN q).row 2
  have c2q : ∀ q, (w1.drewN q).cell? ⟨M, 2, none⟩ = some (.int .i64 (n : Int)) := fun q => by rw [Lib.cell_of_heap (h1.drewN q).row]; rfl
  have f3' : ∀ q, ((w1.drewN q).setCell ⟨M, 2, none⟩ (.int .i64 ((n : Int) + 1))).frozen? ⟨M, 3, none⟩ = false := fun q => Lib.frozen_of_heap (S2 q).row 3
  have c3' : ∀ q, ((w1.drewN q).setCell ⟨M, 2, none⟩ (.int .i64 ((n : Int) + 1))).cell? ⟨M, 3, none⟩ = some (.bool b) := fun q => by rw [Lib.cell_of_heap (S2 q).row]; rfl
  clear S2
  rcases snoc_or T with rfl | ⟨T', x, m, rfl⟩
  · have e : enT [] (n : Int) = [] := rfl
    replace e := Lib.hid e
    replace h1 := Lib.hid h1
    go_wp2_with fail
    go_quiet (fail)
    go_wp2
    go_end0
    exact ⟨rfl, by rw [e.out]; exact ⟨_, _, S3.out _⟩⟩
  · have hN : (T' ++ [(x, m)]).length = T'.length + 1 := by simp
    have hR : Rd w1 A1 (tokVs (T' ++ [(x, m)])) := Rd.own h1.ov
    obtain ⟨b1, o1, rfl, hb1, hc⟩ := hR.tok (k := T'.length) (by omega)
    have hcell := (hc T'.length (by omega)).2
    have hg : (T' ++ [(x, m)])[T'.length] = (x, m) := by simp
    rw [hg] at hcell
    clear hc hR hg
    simp only [Nat.zero_add] at hcell
    by_cases hm : m = (n : Int)
    · have e : enT (T' ++ [(x, m)]) (n : Int) = T' ++ [(x, m)] ++ [([10], (n : Int))] := by
        unfold enT
        rw [hasL_snoc, if_pos (by rw [hm]; simp)]
      replace e := Lib.hid e
      have HA := fun q => pLexAdd_any [10] (w1.drewN q) (h1.drewN q) (by omega)
      rw [← hb0.out] at HA
      replace HA := Lib.hid HA
      have e1 : (m == (n : Int)) = true := by rw [hm]; simp
      replace hm := Lib.hid hm
      clear h1 hb0 S3 f3' c3' f2 c2q
      generalize hT : T' ++ [(x, m)] = T at *
      replace hT := Lib.hid hT
      generalize T.length = N at *
      generalize T'.length = q at *
      have hx : IntKind.i64.wrap ((N : Int) - 1) = (q : Int) := by rw [hN]; exact (wrap_small _ (by omega) (by omega)).trans (by omega)
      have hq0 : decide ((0 : Int) < (N : Int)) = true := decide_eq_true (by omega)
      have hq2 : 0 < N := by omega
      have hq1 : (0 : Int) ≤ (q : Int) ∧ (q : Int) < (N : Int) := by omega
      replace hN := Lib.hid hN
      go_wp2_with fail
      go_quiet (fail)
      go_wp2_with fail
      refine (HA.out _).mono ?_
      rintro e w2 ⟨rfl, v2, h2⟩
      clear HA hcell c0 c2 hb1
      have d2 : w2.cell? ⟨M, 2, none⟩ = some (.int .i64 (n : Int)) := by rw [Lib.cell_of_heap h2.row]; rfl
      have d3 : w2.frozen? ⟨M, 2, none⟩ = false := Lib.frozen_of_heap h2.row 2
      have S2 := h2.set 2 (.int .i64 ((n : Int) + 1)) (c' := []) (n' := (n : Int) + 1) (b' := b) (od' := od) rfl h2.ou
      have d4 : (w2.setCell ⟨M, 2, none⟩ (.int .i64 ((n : Int) + 1))).frozen? ⟨M, 3, none⟩ = false := Lib.frozen_of_heap S2.row 3
      have d5 : (w2.setCell ⟨M, 2, none⟩ (.int .i64 ((n : Int) + 1))).cell? ⟨M, 3, none⟩ = some (.bool b) := by rw [Lib.cell_of_heap S2.row]; rfl
      have S3 := Lib.hid (S2.set 3 (.bool false) (c' := []) (n' := (n : Int) + 1) (b' := false) (od' := od) rfl S2.ou)
      clear h2 S2
      go_wp2
      go_end0
      exact ⟨rfl, by rw [hT.out, e.out]; exact ⟨_, _, S3.out⟩⟩
    · have e : enT (T' ++ [(x, m)]) (n : Int) = T' ++ [(x, m)] := by
        unfold enT
        rw [hasL_snoc, if_neg (by simpa using hm)]
      replace e := Lib.hid e
      have e1 : (m == (n : Int)) = false := by simpa using hm
      replace hm := Lib.hid hm
      replace h1 := Lib.hid h1
      generalize hT : T' ++ [(x, m)] = T at *
      replace hT := Lib.hid hT
      generalize T.length = N at *
      generalize T'.length = q at *
      have hx : IntKind.i64.wrap ((N : Int) - 1) = (q : Int) := by rw [hN]; exact (wrap_small _ (by omega) (by omega)).trans (by omega)
      have hq0 : decide ((0 : Int) < (N : Int)) = true := decide_eq_true (by omega)
      have hq2 : 0 < N := by omega
      have hq1 : (0 : Int) ≤ (q : Int) ∧ (q : Int) < (N : Int) := by omega
      replace hN := Lib.hid hN
      clear h1
      go_wp2_with fail
      go_quiet (fail)
      go_wp2
      go_end0
      exact ⟨rfl, by rw [hT.out, e.out]; exact ⟨_, _, S3.out _⟩⟩
theorem pKnown_p (r : Int) (w : World) : Calls Try.prog 19 #[.int .i32 r] w fun e w' => e = .returned (.bool (knB r)) ∧ w = w' := by
  by_cases h1 : r = 10
  · subst h1
    go_enter Try.func19, Try.ntmps19
    go_wp2
    go_ret
    exact ⟨rfl, rfl⟩
  · by_cases h2 : r = 9
    · subst h2
      go_enter Try.func19, Try.ntmps19
      go_wp2
      go_ret
      exact ⟨rfl, rfl⟩
    · have e1 : (r == 10) = false := beq_false_of_ne h1
      have e2 : (r == 9) = false := beq_false_of_ne h2
      replace h1 := Lib.hid h1
      replace h2 := Lib.hid h2
      by_cases h3 : 32 ≤ r
      · have e3 : decide (32 ≤ r) = true := decide_eq_true h3
        by_cases h4 : r ≤ 126
        · have e4 : decide (r ≤ 126) = true := decide_eq_true h4
          have e : Hid (knB r = true) := Lib.hid (by unfold knB; rw [e1, e2, e3, e4]; rfl)
          go_enter Try.func19, Try.ntmps19
          go_wp2
          go_ret
          exact ⟨by rw [e.out]; rfl, rfl⟩
        · have e4 : decide (r ≤ 126) = false := decide_eq_false h4
          have e : Hid (knB r = false) := Lib.hid (by unfold knB; rw [e1, e2, e3, e4]; rfl)
          go_enter Try.func19, Try.ntmps19
          go_wp2
          go_ret
          exact ⟨by rw [e.out]; rfl, rfl⟩
      · have e3 : decide (32 ≤ r) = false := decide_eq_false h3
        have e : Hid (knB r = false) := Lib.hid (by unfold knB; rw [e1, e2, e3]; rfl)
        go_enter Try.func19, Try.ntmps19
        go_wp2
        go_ret
        exact ⟨by rw [e.out]; rfl, rfl⟩
theorem news1s (w : World) (a : Addr) (v : Value) (t : TypeId) (u : Value) : ∀ j x, [u][j]? = some x → ((w.setCell a v).alloc (.cells #[u] t)).cell? ((⟨w.heap.size, 0, none⟩ : Addr).add j) = some x := by
  have h := news1 (w.setCell a v) t u
  have hz : (w.setCell a v).heap.size = w.heap.size := by simp [World.setCell]
  rw [hz] at h
  exact h
theorem tk_nl {R : Rg} {r : Int} (h : r = 10) : rgGo R r = rgNl R := if_pos h
theorem tk_note {R : Rg} {r : Int} (h : r ≠ 10) (hn : R.note = true) : rgGo R r = R := by unfold rgGo; rw [if_neg h, if_pos hn]
theorem tk_hash {R : Rg} {r : Int} (h : r = 35) (hn : R.note = false) : rgGo R r = ⟨R.out, R.cur, R.ln, true, R.odd⟩ := by unfold rgGo; rw [if_neg (by omega), if_neg (by rw [hn]; decide), if_pos h]
theorem tk_blank {R : Rg} {r : Int} (h : r = 32 ∨ r = 9) (hn : R.note = false) : rgGo R r = rgWd R := by unfold rgGo; rw [if_neg (by omega), if_neg (by rw [hn]; decide), if_neg (by omega), if_pos h]
theorem tk_byte {R : Rg} {r : Int} (h1 : r ≠ 10) (h2 : r ≠ 35) (h3 : r ≠ 32) (h4 : r ≠ 9) (hn : R.note = false) : rgGo R r = ⟨R.out, R.cur ++ [r], R.ln, R.note, R.odd⟩ := by
  unfold rgGo; rw [if_neg h1, if_neg (by rw [hn]; decide), if_neg h2, if_neg (by omega)]
theorem LxH.odd {B : Nat} {w0 w : World} {M IT : Nat} {s : ByteArray} {pos : Nat} {o : List Tok} {c : List Int} {n : Int} {b od : Bool} {v u : Value} (h : LxH B w0 w M IT s pos o c n b od v u) (x : Bool) : LxH B w0 (w.setCell ⟨M, 4, none⟩ (.bool x)) M IT s pos o c n b x v u := h.set 4 (.bool x) rfl h.ou
set_option maxHeartbeats 3200000 in
theorem pTake_any {B : Nat} {w0 : World} {M IT : Nat} {s : ByteArray} {pos : Nat} {R : Rg} (r : Int) (k : Nat) (w : World) (hk : R.ln = (k : Int)) (h : LxG B w0 w M IT s pos R) (hl : R.out.length ≤ 18000) (hc : R.cur.length ≤ 18000) (hn : k ≤ 100000) :
    Calls Try.prog 12 #[.pointer (some ⟨M, 0, none⟩), .int .i32 r] w fun e w' => e = .returned (.tuple #[]) ∧ LxG B w0 w' M IT s pos (rgTk R r) := by
  obtain ⟨o, c, n, b, od⟩ := R
  obtain ⟨v, u, h⟩ := h
  simp only at h hl hc hk
  subst hk
  obtain ⟨i0, hi, hz0, hz1, hz2⟩ := info_parts infoRune
  obtain ⟨kb, hkb⟩ : ∃ kb, kb = knB r := ⟨_, rfl⟩
  have HK := Lib.hid (pKnown_p r)
  rw [← hkb] at HK
  have E0 : rgTk ⟨o, c, (k : Int), b, od⟩ r = rgGo ⟨o, c, (k : Int), b, od || !kb⟩ r := by unfold rgTk; rw [hkb]
  have c4 : w.cell? ⟨M, 4, none⟩ = some (.bool od) := by rw [Lib.cell_of_heap h.row]; rfl
  have f4 : w.frozen? ⟨M, 4, none⟩ = false := Lib.frozen_of_heap h.row 4
  have H := h.odd (od || !kb)
  have hcl := h.ou.1
  clear h hkb
  cases od
  · cases kb
    · have H : LxH B w0 (w.setCell ⟨M, 4, none⟩ (.bool true)) M IT s pos o c (k : Int) b true v u := H
      have c3 : (w.setCell ⟨M, 4, none⟩ (.bool true)).cell? ⟨M, 3, none⟩ = some (.bool b) := by rw [Lib.cell_of_heap H.row]; rfl
      have f3 : (w.setCell ⟨M, 4, none⟩ (.bool true)).frozen? ⟨M, 3, none⟩ = false := Lib.frozen_of_heap H.row 3
      have c1 : (w.setCell ⟨M, 4, none⟩ (.bool true)).cell? ⟨M, 1, none⟩ = some u := by rw [Lib.cell_of_heap H.row]; rfl
      by_cases h10 : r = 10
      · have e10 : (r == 10) = true := by rw [h10]; rfl
        have E : Hid (rgTk _ r = rgNl _) := Lib.hid (E0.trans (tk_nl h10))
        have HL := Lib.hid (pLexLine_any k _ H (by omega) hn)
        replace h10 := Lib.hid h10
        clear H E0 c1
        go_enter Try.func12, Try.ntmps12
        go_wp2_with fail
        refine (HK.out _).mono ?_
        rintro e w1 ⟨rfl, rfl⟩
        go_wp2_with fail
        refine HL.out.mono ?_
        rintro e w2 ⟨rfl, v2, u2, h2⟩
        replace h2 := Lib.hid h2
        go_wp2
        go_end0
        exact ⟨rfl, by rw [E.out]; exact ⟨_, _, h2.out⟩⟩
      have e10 : (r == 10) = false := beq_false_of_ne h10
      cases b
      · by_cases h35 : r = 35
        · have e35 : (r == 35) = true := by rw [h35]; rfl
          have E : Hid (rgTk _ r = _) := Lib.hid (E0.trans (tk_hash h35 rfl))
          have HS := Lib.hid (H.set 3 (.bool true) (c' := c) (n' := (k : Int)) (b' := true) (od' := true) rfl H.ou)
          replace h10 := Lib.hid h10
          replace h35 := Lib.hid h35
          clear H E0 c1
          go_enter Try.func12, Try.ntmps12
          go_wp2_with fail
          refine (HK.out _).mono ?_
          rintro e w1 ⟨rfl, rfl⟩
          go_wp2
          go_end0
          exact ⟨rfl, by rw [E.out]; exact ⟨_, _, HS.out⟩⟩
        have e35 : (r == 35) = false := beq_false_of_ne h35
        by_cases hb : r = 32 ∨ r = 9
        · have E : Hid (rgTk _ r = _) := Lib.hid (E0.trans (tk_blank hb rfl))
          have HW := Lib.hid (pLexWord_any _ H (by omega))
          replace h10 := Lib.hid h10
          replace h35 := Lib.hid h35
          clear H E0 c1
          rcases hb with hb | hb
          · have e32 : (r == 32) = true := by rw [hb]; rfl
            replace hb := Lib.hid hb
            go_enter Try.func12, Try.ntmps12
            go_wp2_with fail
            refine (HK.out _).mono ?_
            rintro e w1 ⟨rfl, rfl⟩
            go_wp2_with fail
            refine HW.out.mono ?_
            rintro e w2 ⟨rfl, v2, u2, h2⟩
            replace h2 := Lib.hid h2
            go_wp2
            go_end0
            exact ⟨rfl, by rw [E.out]; exact ⟨_, _, h2.out⟩⟩
          · have e32 : (r == 32) = false := beq_false_of_ne (by omega)
            have e9 : (r == 9) = true := by rw [hb]; rfl
            replace hb := Lib.hid hb
            go_enter Try.func12, Try.ntmps12
            go_wp2_with fail
            refine (HK.out _).mono ?_
            rintro e w1 ⟨rfl, rfl⟩
            go_wp2_with fail
            refine HW.out.mono ?_
            rintro e w2 ⟨rfl, v2, u2, h2⟩
            replace h2 := Lib.hid h2
            go_wp2
            go_end0
            exact ⟨rfl, by rw [E.out]; exact ⟨_, _, h2.out⟩⟩
        · have E : Hid (rgTk _ r = _) := Lib.hid (E0.trans (tk_byte h10 h35 (by omega) (by omega) rfl))
          have e32 : (r == 32) = false := beq_false_of_ne (by omega)
          have e9 : (r == 9) = false := beq_false_of_ne (by omega)
          replace h10 := Lib.hid h10
          replace h35 := Lib.hid h35
          replace hb := Lib.hid hb
          have hou := H.ou
          have hsz := H.sz
          obtain ⟨A1, k1, g1, rfl, -⟩ := own_form hou
          replace H := Lib.hid H
          clear E0
          go_enter Try.func12, Try.ntmps12
          go_wp2_with fail
          refine (HK.out _).mono ?_
          rintro e w1 ⟨rfl, rfl⟩
          go_wp2_with (first
            | (at_builtin
               refine wpList_append_lies _ rfl (.tmp 20) (.tmp 22) 36 rfl B 21 i0 (.int .i32 0) 1 4 Try.underlying36 hi hz0 hz1 hz2 rfl (by decide) _ _ _ rfl (hou.alloc _) ⟨w.heap.size, 0, none⟩ 1 1 [.int .i32 r] rfl rfl (news1s w _ _ _ _) (one1 rfl) (by decide) (by unfold maxLen; omega) (by omega) (by simp at hsz ⊢; omega) _ rfl ?_
               intro g cap w3 hown1 hgrow hat hlt1
               have HT := Lib.hid (H.out.cur hown1 hgrow)
               have d1 : w3.cell? ⟨M, 1, none⟩ = some (.slice A1 c.length k1) := by rw [Lib.cell_of_heap HT.out.1]; rfl
               have g1 : w3.frozen? ⟨M, 1, none⟩ = false := Lib.frozen_of_heap HT.out.1 1
               clear hown1 hgrow hat hlt1)
            | fail)
          go_wp2
          go_end0
          exact ⟨rfl, by rw [E.out]; exact ⟨_, _, HT.out.2⟩⟩
      · have E : Hid (rgTk _ r = _) := Lib.hid (E0.trans (tk_note h10 rfl))
        replace h10 := Lib.hid h10
        replace H := Lib.hid H
        clear E0 c1
        go_enter Try.func12, Try.ntmps12
        go_wp2_with fail
        refine (HK.out _).mono ?_
        rintro e w1 ⟨rfl, rfl⟩
        go_wp2
        go_end0
        exact ⟨rfl, by rw [E.out]; exact ⟨_, _, H.out⟩⟩
    · have H : LxH B w0 (w.setCell ⟨M, 4, none⟩ (.bool false)) M IT s pos o c (k : Int) b false v u := H
      have c3 : (w.setCell ⟨M, 4, none⟩ (.bool false)).cell? ⟨M, 3, none⟩ = some (.bool b) := by rw [Lib.cell_of_heap H.row]; rfl
      have f3 : (w.setCell ⟨M, 4, none⟩ (.bool false)).frozen? ⟨M, 3, none⟩ = false := Lib.frozen_of_heap H.row 3
      have c1 : (w.setCell ⟨M, 4, none⟩ (.bool false)).cell? ⟨M, 1, none⟩ = some u := by rw [Lib.cell_of_heap H.row]; rfl
      by_cases h10 : r = 10
      · have e10 : (r == 10) = true := by rw [h10]; rfl
        have E : Hid (rgTk _ r = rgNl _) := Lib.hid (E0.trans (tk_nl h10))
        have HL := Lib.hid (pLexLine_any k _ H (by omega) hn)
        replace h10 := Lib.hid h10
        clear H E0 c1
        go_enter Try.func12, Try.ntmps12
        go_wp2_with fail
        refine (HK.out _).mono ?_
        rintro e w1 ⟨rfl, rfl⟩
        go_wp2_with fail
        refine HL.out.mono ?_
        rintro e w2 ⟨rfl, v2, u2, h2⟩
        replace h2 := Lib.hid h2
        go_wp2
        go_end0
        exact ⟨rfl, by rw [E.out]; exact ⟨_, _, h2.out⟩⟩
      have e10 : (r == 10) = false := beq_false_of_ne h10
      cases b
      · by_cases h35 : r = 35
        · have e35 : (r == 35) = true := by rw [h35]; rfl
          have E : Hid (rgTk _ r = _) := Lib.hid (E0.trans (tk_hash h35 rfl))
          have HS := Lib.hid (H.set 3 (.bool true) (c' := c) (n' := (k : Int)) (b' := true) (od' := false) rfl H.ou)
          replace h10 := Lib.hid h10
          replace h35 := Lib.hid h35
          clear H E0 c1
          go_enter Try.func12, Try.ntmps12
          go_wp2_with fail
          refine (HK.out _).mono ?_
          rintro e w1 ⟨rfl, rfl⟩
          go_wp2
          go_end0
          exact ⟨rfl, by rw [E.out]; exact ⟨_, _, HS.out⟩⟩
        have e35 : (r == 35) = false := beq_false_of_ne h35
        by_cases hb : r = 32 ∨ r = 9
        · have E : Hid (rgTk _ r = _) := Lib.hid (E0.trans (tk_blank hb rfl))
          have HW := Lib.hid (pLexWord_any _ H (by omega))
          replace h10 := Lib.hid h10
          replace h35 := Lib.hid h35
          clear H E0 c1
          rcases hb with hb | hb
          · have e32 : (r == 32) = true := by rw [hb]; rfl
            replace hb := Lib.hid hb
            go_enter Try.func12, Try.ntmps12
            go_wp2_with fail
            refine (HK.out _).mono ?_
            rintro e w1 ⟨rfl, rfl⟩
            go_wp2_with fail
            refine HW.out.mono ?_
            rintro e w2 ⟨rfl, v2, u2, h2⟩
            replace h2 := Lib.hid h2
            go_wp2
            go_end0
            exact ⟨rfl, by rw [E.out]; exact ⟨_, _, h2.out⟩⟩
          · have e32 : (r == 32) = false := beq_false_of_ne (by omega)
            have e9 : (r == 9) = true := by rw [hb]; rfl
            replace hb := Lib.hid hb
            go_enter Try.func12, Try.ntmps12
            go_wp2_with fail
            refine (HK.out _).mono ?_
            rintro e w1 ⟨rfl, rfl⟩
            go_wp2_with fail
            refine HW.out.mono ?_
            rintro e w2 ⟨rfl, v2, u2, h2⟩
            replace h2 := Lib.hid h2
            go_wp2
            go_end0
            exact ⟨rfl, by rw [E.out]; exact ⟨_, _, h2.out⟩⟩
        · have E : Hid (rgTk _ r = _) := Lib.hid (E0.trans (tk_byte h10 h35 (by omega) (by omega) rfl))
          have e32 : (r == 32) = false := beq_false_of_ne (by omega)
          have e9 : (r == 9) = false := beq_false_of_ne (by omega)
          replace h10 := Lib.hid h10
          replace h35 := Lib.hid h35
          replace hb := Lib.hid hb
          have hou := H.ou
          have hsz := H.sz
          obtain ⟨A1, k1, g1, rfl, -⟩ := own_form hou
          replace H := Lib.hid H
          clear E0
          go_enter Try.func12, Try.ntmps12
          go_wp2_with fail
          refine (HK.out _).mono ?_
          rintro e w1 ⟨rfl, rfl⟩
          go_wp2_with (first
            | (at_builtin
               refine wpList_append_lies _ rfl (.tmp 20) (.tmp 22) 36 rfl B 21 i0 (.int .i32 0) 1 4 Try.underlying36 hi hz0 hz1 hz2 rfl (by decide) _ _ _ rfl (hou.alloc _) ⟨w.heap.size, 0, none⟩ 1 1 [.int .i32 r] rfl rfl (news1s w _ _ _ _) (one1 rfl) (by decide) (by unfold maxLen; omega) (by omega) (by simp at hsz ⊢; omega) _ rfl ?_
               intro g cap w3 hown1 hgrow hat hlt1
               have HT := Lib.hid (H.out.cur hown1 hgrow)
               have d1 : w3.cell? ⟨M, 1, none⟩ = some (.slice A1 c.length k1) := by rw [Lib.cell_of_heap HT.out.1]; rfl
               have g1 : w3.frozen? ⟨M, 1, none⟩ = false := Lib.frozen_of_heap HT.out.1 1
               clear hown1 hgrow hat hlt1)
            | fail)
          go_wp2
          go_end0
          exact ⟨rfl, by rw [E.out]; exact ⟨_, _, HT.out.2⟩⟩
      · have E : Hid (rgTk _ r = _) := Lib.hid (E0.trans (tk_note h10 rfl))
        replace h10 := Lib.hid h10
        replace H := Lib.hid H
        clear E0 c1
        go_enter Try.func12, Try.ntmps12
        go_wp2_with fail
        refine (HK.out _).mono ?_
        rintro e w1 ⟨rfl, rfl⟩
        go_wp2
        go_end0
        exact ⟨rfl, by rw [E.out]; exact ⟨_, _, H.out⟩⟩
  · have H : LxH B w0 (w.setCell ⟨M, 4, none⟩ (.bool true)) M IT s pos o c (k : Int) b true v u := H
    have c3 : (w.setCell ⟨M, 4, none⟩ (.bool true)).cell? ⟨M, 3, none⟩ = some (.bool b) := by rw [Lib.cell_of_heap H.row]; rfl
    have f3 : (w.setCell ⟨M, 4, none⟩ (.bool true)).frozen? ⟨M, 3, none⟩ = false := Lib.frozen_of_heap H.row 3
    have c1 : (w.setCell ⟨M, 4, none⟩ (.bool true)).cell? ⟨M, 1, none⟩ = some u := by rw [Lib.cell_of_heap H.row]; rfl
    by_cases h10 : r = 10
    · have e10 : (r == 10) = true := by rw [h10]; rfl
      have E : Hid (rgTk _ r = rgNl _) := Lib.hid (E0.trans (tk_nl h10))
      have HL := Lib.hid (pLexLine_any k _ H (by omega) hn)
      replace h10 := Lib.hid h10
      clear H E0 c1
      go_enter Try.func12, Try.ntmps12
      go_wp2_with fail
      refine HL.out.mono ?_
      rintro e w2 ⟨rfl, v2, u2, h2⟩
      replace h2 := Lib.hid h2
      go_wp2
      go_end0
      exact ⟨rfl, by rw [E.out]; exact ⟨_, _, h2.out⟩⟩
    have e10 : (r == 10) = false := beq_false_of_ne h10
    cases b
    · by_cases h35 : r = 35
      · have e35 : (r == 35) = true := by rw [h35]; rfl
        have E : Hid (rgTk _ r = _) := Lib.hid (E0.trans (tk_hash h35 rfl))
        have HS := Lib.hid (H.set 3 (.bool true) (c' := c) (n' := (k : Int)) (b' := true) (od' := true) rfl H.ou)
        replace h10 := Lib.hid h10
        replace h35 := Lib.hid h35
        clear H E0 c1
        go_enter Try.func12, Try.ntmps12
        go_wp2
        go_end0
        exact ⟨rfl, by rw [E.out]; exact ⟨_, _, HS.out⟩⟩
      have e35 : (r == 35) = false := beq_false_of_ne h35
      by_cases hb : r = 32 ∨ r = 9
      · have E : Hid (rgTk _ r = _) := Lib.hid (E0.trans (tk_blank hb rfl))
        have HW := Lib.hid (pLexWord_any _ H (by omega))
        replace h10 := Lib.hid h10
        replace h35 := Lib.hid h35
        clear H E0 c1
        rcases hb with hb | hb
        · have e32 : (r == 32) = true := by rw [hb]; rfl
          replace hb := Lib.hid hb
          go_enter Try.func12, Try.ntmps12
          go_wp2_with fail
          refine HW.out.mono ?_
          rintro e w2 ⟨rfl, v2, u2, h2⟩
          replace h2 := Lib.hid h2
          go_wp2
          go_end0
          exact ⟨rfl, by rw [E.out]; exact ⟨_, _, h2.out⟩⟩
        · have e32 : (r == 32) = false := beq_false_of_ne (by omega)
          have e9 : (r == 9) = true := by rw [hb]; rfl
          replace hb := Lib.hid hb
          go_enter Try.func12, Try.ntmps12
          go_wp2_with fail
          refine HW.out.mono ?_
          rintro e w2 ⟨rfl, v2, u2, h2⟩
          replace h2 := Lib.hid h2
          go_wp2
          go_end0
          exact ⟨rfl, by rw [E.out]; exact ⟨_, _, h2.out⟩⟩
      · have E : Hid (rgTk _ r = _) := Lib.hid (E0.trans (tk_byte h10 h35 (by omega) (by omega) rfl))
        have e32 : (r == 32) = false := beq_false_of_ne (by omega)
        have e9 : (r == 9) = false := beq_false_of_ne (by omega)
        replace h10 := Lib.hid h10
        replace h35 := Lib.hid h35
        replace hb := Lib.hid hb
        have hou := H.ou
        have hsz := H.sz
        obtain ⟨A1, k1, g1, rfl, -⟩ := own_form hou
        replace H := Lib.hid H
        clear E0
        go_enter Try.func12, Try.ntmps12
        go_wp2_with (first
          | (at_builtin
             refine wpList_append_lies _ rfl (.tmp 20) (.tmp 22) 36 rfl B 21 i0 (.int .i32 0) 1 4 Try.underlying36 hi hz0 hz1 hz2 rfl (by decide) _ _ _ rfl (hou.alloc _) ⟨w.heap.size, 0, none⟩ 1 1 [.int .i32 r] rfl rfl (news1s w _ _ _ _) (one1 rfl) (by decide) (by unfold maxLen; omega) (by omega) (by simp at hsz ⊢; omega) _ rfl ?_
             intro g cap w3 hown1 hgrow hat hlt1
             have HT := Lib.hid (H.out.cur hown1 hgrow)
             have d1 : w3.cell? ⟨M, 1, none⟩ = some (.slice A1 c.length k1) := by rw [Lib.cell_of_heap HT.out.1]; rfl
             have g1 : w3.frozen? ⟨M, 1, none⟩ = false := Lib.frozen_of_heap HT.out.1 1
             clear hown1 hgrow hat hlt1)
          | fail)
        go_wp2
        go_end0
        exact ⟨rfl, by rw [E.out]; exact ⟨_, _, HT.out.2⟩⟩
    · have E : Hid (rgTk _ r = _) := Lib.hid (E0.trans (tk_note h10 rfl))
      replace h10 := Lib.hid h10
      replace H := Lib.hid H
      clear E0 c1
      go_enter Try.func12, Try.ntmps12
      go_wp2
      go_end0
      exact ⟨rfl, by rw [E.out]; exact ⟨_, _, H.out⟩⟩
end Go.Proofs.Ythanlgdbnhcilaa
