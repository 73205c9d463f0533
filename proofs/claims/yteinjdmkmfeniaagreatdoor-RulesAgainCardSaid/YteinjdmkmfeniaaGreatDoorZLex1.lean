/- Several texts in one: LisA, LexA, LexB, LexD, LexE, LexN, LexG. -/
import Derived.Test.YteinjdmkmfeniaaGreatDoorRows
import Derived.WalkKit
import Derived.ProofKit
import Derived.OpenShut
import Derived.Handy
import Derived.Outline
import Derived.Lib.Hide
import Derived.Below
import Derived.OwnWalk
import Derived.Laws.OwnMore
import Derived.Deep.AppendLies
import Derived.Laws.Strings
import Derived.Laws.Strings2
import Derived.Laws.Slices
import Derived.Laws.Cover4
import Derived.Laws.RangeAny
namespace Go.Proofs.YteinjdmkmfeniaaGreatDoor
set_option linter.unusedVariables false
open Go.ChangeShapes Go.WideShapes Go.ChangeAt Go.RowKit
theorem infoStr : (Tryz.prog.info? 9).map (fun i => (i.zero, i.size, i.bytes)) = some (some (.string ⟨#[]⟩), 1, 16) := by kernel_rfl
def RetRow (e : TypeId) (size n : Nat) (xs : List Value) (w : World) (r : Ending) (w' : World) : Prop :=
  ∃ v, r = .returned v ∧ w'.ownsRow w.heap.size e size v n xs ∧ Below w.heap.size w w'
def Lies (w : World) (g : Nat) (xs : List Value) : Prop := ∀ j u, xs[j]? = some u → w.cell? ⟨g, j, none⟩ = some u
theorem Lies.keep {w w' : World} {g : Nat} {xs : List Value} (h : Lies w g xs) (hb : w'.heap[g]? = w.heap[g]?) : Lies w' g xs :=
  fun j u hu => (World.cell?_of_block (a := ⟨g, j, none⟩) hb).trans (h j u hu)
theorem Lies.below {w w' : World} {g B : Nat} {xs : List Value} (h : Lies w g xs) (hb : Below B w w') (hg : g < B) : Lies w' g xs := h.keep (hb.block g hg)
theorem own_form {w : World} {base : Nat} {e : TypeId} {size : Nat} {v : Value} {n : Nat} {xs : List Value} (h : w.ownsRow base e size v n xs) :
    ∃ A c g, v = .slice A n c ∧ Lies w g xs ∧ (0 < n → A = some ⟨g, 0, none⟩ ∧ base ≤ g ∧ g < w.heap.size) ∧ (n = 0 → A = none ∨ A = some ⟨g, 0, none⟩) := by
  rcases h.2 with ⟨rfl, hn⟩ | ⟨g, cap, cur, rfl, hb, hg, hnc, hcm, hcs, htake⟩
  · subst hn
    exact ⟨none, 0, 0, rfl, fun j u hu => (by have := h.1; simp at this; subst this; simp at hu), fun h0 => absurd h0 (by omega), fun _ => .inl rfl⟩
  · refine ⟨_, cap, g, rfl, fun j u hu => ?_, fun _ => ⟨rfl, hb, (Array.getElem?_eq_some_iff.1 hg).1⟩, fun _ => .inr rfl⟩
    rw [cell_of_row w g j cur e (0, 0) hg]
    rw [← htake, List.getElem?_take] at hu
    split at hu
    · simpa using hu
    · cases hu
theorem own_up {w w' : World} {base : Nat} {e : TypeId} {size : Nat} {v : Value} {n : Nat} {xs : List Value} (h : w.ownsRow base e size v n xs) (hb : Below w.heap.size w w') : w'.ownsRow base e size v n xs := by
  refine ⟨h.1, ?_⟩
  rcases h.2 with hn | ⟨g, cap, cur, rfl, hbg, hg, rest⟩
  · exact .inl hn
  · exact .inr ⟨g, cap, cur, rfl, hbg, (hb.block g (Array.getElem?_eq_some_iff.1 hg).1).trans hg, rest⟩
theorem news1 (w : World) (t : TypeId) (u : Value) : ∀ j x, [u][j]? = some x → (w.alloc (.cells #[u] t)).cell? ((⟨w.heap.size, 0, none⟩ : Addr).add j) = some x :=
  World.news_of_block (w := w.alloc (.cells #[u] t)) (cs := #[u]) (heap_alloc_new w _)
theorem one1 {u : Value} (h : u.oneCell' = true) : ∀ x ∈ [u], x.oneCell' = true := fun x hx => by rw [List.mem_singleton.1 hx]; exact h
theorem bel_append {w wr w1 : World} {base : Nat} {e : TypeId} {size : Nat} {v : Value} {n : Nat} {xs : List Value} {o : Obj} (hb : Below base w wr) (hw : base ≤ wr.heap.size) (hown : wr.ownsRow base e size v n xs) (hg : (wr.alloc o).grownBy w1 v.ownBlock) : Below base w w1 :=
  (hb.alloc hw o).grown hg (by rw [show (wr.alloc o).heap.size = wr.heap.size + 1 by simp]; omega) (fun k hk => (hown.lt k hk).1)
theorem own_lt {w : World} {base : Nat} {e : TypeId} {size : Nat} {v : Value} {n : Nat} {xs : List Value} (h : w.ownsRow base e size v n xs) {g : Nat} (hg : w.heap.size ≤ g) : v.ownBlock ≠ some g := by
  intro e
  have := (h.lt g e).2
  omega
theorem news2 (w : World) (t : TypeId) (a b : Value) : ∀ j x, [a, b][j]? = some x → (w.alloc (.cells #[a, b] t)).cell? ((⟨w.heap.size, 0, none⟩ : Addr).add j) = some x :=
  World.news_of_block (w := w.alloc (.cells #[a, b] t)) (cs := #[a, b]) (heap_alloc_new w _)
theorem one2 {a b : Value} (ha : a.oneCell' = true) (hb : b.oneCell' = true) : ∀ x ∈ [a, b], x.oneCell' = true := fun x hx => by
  rcases List.mem_cons.1 hx with rfl | hx
  · exact ha
  · rw [List.mem_singleton.1 hx]; exact hb
theorem app_keep {wr w1 : World} {o : Obj} {v : Value} {g2 : Nat} (hg : (wr.alloc o).grownBy w1 v.ownBlock) (h2 : g2 < wr.heap.size) (hne : v.ownBlock ≠ some g2) : w1.heap[g2]? = wr.heap[g2]? := by
  rw [hg.block g2 (by simp; omega) (fun e => hne e.symm)]
  exact heap_alloc_old wr o h2
end Go.Proofs.YteinjdmkmfeniaaGreatDoor
namespace Go.Proofs.YteinjdmkmfeniaaGreatDoor
set_option linter.unusedVariables false
open Go.ChangeShapes Go.WideShapes Go.ChangeAt Go.RowKit
@[irreducible] def bs (l : List UInt8) : ByteArray := ⟨l.toArray⟩
theorem bs_toList (l : List UInt8) : (bs l).data.toList = l := by unfold bs; simp
theorem bs_list (l : List UInt8) : (bs l).toList = l := by rw [ByteArray.toList_eq]; exact bs_toList l
theorem bs_of (s : ByteArray) : bs s.data.toList = s := by unfold bs; simp
theorem bs_size (l : List UInt8) : (bs l).size = l.length := by unfold bs; simp [ByteArray.size]
theorem size_toList (s : ByteArray) : s.data.toList.length = s.size := Array.length_toList
theorem extract_bs (s : ByteArray) (a k : Nat) : s.extract a k = bs ((s.data.toList.take k).drop a) := by
  apply ByteArray.ext
  unfold bs
  rw [ByteArray.data_extract]
  apply Array.ext'
  simp [Array.toList_extract, List.extract_eq_take_drop, List.drop_take]
theorem append_bs (a b : List UInt8) : bs a ++ bs b = bs (a ++ b) := by
  apply ByteArray.ext
  unfold bs
  rw [ByteArray.data_append]
  simp
theorem snocInd {α : Type} {P : List α → Prop} (h0 : P []) (h : ∀ l c, P l → P (l ++ [c])) (l : List α) : P l := by
  have key : ∀ r : List α, P r.reverse := by
    intro r
    induction r with
    | nil => exact h0
    | cons c r ih => rw [List.reverse_cons]; exact h _ _ ih
  have := key l.reverse
  rwa [List.reverse_reverse] at this
theorem get_of_toList (s : ByteArray) (k : Nat) (h' : k < s.size) (h : k < s.data.toList.length) : s[k] = s.data.toList[k] := by simp [ByteArray.getElem_eq_getElem_data]
theorem get_bs (L : List UInt8) (k : Nat) (h : k < L.length) (h' : k < (bs L).size) : (bs L)[k] = L[k] := by
  have e : (bs L).data.toList = L := bs_toList L
  rw [get_of_toList (bs L) k h' (by rw [e]; exact h)]
  congr 1
theorem byte_bs (L : List UInt8) (k : Nat) (h : k < L.length) (h' : k < (bs L).size) {c : Nat} (hc : L[k].toNat = c) : ((bs L)[k]'h').toNat = c := by rw [get_bs L k h h']; exact hc
def lnStep (x : List (List UInt8) × List UInt8) (c : UInt8) : List (List UInt8) × List UInt8 := if c.toNat = 10 then (x.1 ++ [x.2], []) else (x.1, x.2 ++ [c])
def lnF (l : List UInt8) : List (List UInt8) × List UInt8 := l.foldl lnStep ([], [])
def linesL (l : List UInt8) : List (List UInt8) := (lnF l).1 ++ [(lnF l).2]
theorem lnF_snoc (l : List UInt8) (c : UInt8) : lnF (l ++ [c]) = lnStep (lnF l) c := by unfold lnF; rw [List.foldl_append]; rfl
theorem take_snoc {l : List UInt8} {k : Nat} (h : k < l.length) : l.take (k + 1) = l.take k ++ [l[k]] := List.take_succ_eq_append_getElem h
theorem lnF_nl {l : List UInt8} {c : UInt8} (h : c.toNat = 10) : lnF (l ++ [c]) = ((lnF l).1 ++ [(lnF l).2], []) := by rw [lnF_snoc]; exact if_pos h
theorem lnF_no {l : List UInt8} {c : UInt8} (h : c.toNat ≠ 10) : lnF (l ++ [c]) = ((lnF l).1, (lnF l).2 ++ [c]) := by rw [lnF_snoc]; exact if_neg h
def blankB (c : UInt8) : Bool := c.toNat == 32 || c.toNat == 9
def wdEnd (x : List (List UInt8) × List UInt8) : List (List UInt8) := if x.2 = [] then x.1 else x.1 ++ [x.2]
def wdStep (x : List (List UInt8) × List UInt8) (c : UInt8) : List (List UInt8) × List UInt8 := if blankB c = true then (wdEnd x, []) else (x.1, x.2 ++ [c])
def wdF (l : List UInt8) : List (List UInt8) × List UInt8 := l.foldl wdStep ([], [])
def ahead (l : List UInt8) : List UInt8 := l.takeWhile (fun c => c.toNat != 35)
def wordsL (l : List UInt8) : List (List UInt8) := wdEnd (wdF (ahead l))
theorem wdF_snoc (l : List UInt8) (c : UInt8) : wdF (l ++ [c]) = wdStep (wdF l) c := by unfold wdF; rw [List.foldl_append]; rfl
theorem wdF_blank {l : List UInt8} {c : UInt8} (h : blankB c = true) : wdF (l ++ [c]) = (wdEnd (wdF l), []) := by rw [wdF_snoc]; exact if_pos h
theorem wdF_byte {l : List UInt8} {c : UInt8} (h : blankB c = false) : wdF (l ++ [c]) = ((wdF l).1, (wdF l).2 ++ [c]) := by rw [wdF_snoc]; exact if_neg (by rw [h]; decide)
theorem wdEnd_none {x : List (List UInt8) × List UInt8} (h : x.2 = []) : wdEnd x = x.1 := if_pos h
theorem wdEnd_some {x : List (List UInt8) × List UInt8} (h : x.2 ≠ []) : wdEnd x = x.1 ++ [x.2] := if_neg h
abbrev Tok := List UInt8 × Int
def lineT (n : Int) (l : List UInt8) : List Tok := (wordsL l).map (fun t => (t, n)) ++ (if wordsL l = [] then [] else [([10], n)])
def tokFrom : Nat → List (List UInt8) → List Tok
  | _, [] => []
  | i, l :: r => lineT ((i : Int) + 1) l ++ tokFrom (i + 1) r
theorem tokFrom_snoc (i : Nat) (a : List (List UInt8)) (l : List UInt8) : tokFrom i (a ++ [l]) = tokFrom i a ++ lineT ((i : Int) + a.length + 1) l := by
  induction a generalizing i with
  | nil => simp [tokFrom]
  | cons x a ih =>
    rw [List.cons_append]
    simp only [tokFrom]
    rw [ih, List.append_assoc]
    congr 3
    simp; omega
def tokL (l : List UInt8) : List Tok := tokFrom 0 (linesL l)
def oddB (c : UInt8) : Bool := (c.toNat < 32 || 126 < c.toNat) && c.toNat != 10 && c.toNat != 9
def badB (l : List UInt8) : Bool := l.any oddB
theorem badB_snoc (l : List UInt8) (c : UInt8) : badB (l ++ [c]) = (badB l || oddB c) := by unfold badB; simp
def lexE (l : List UInt8) : Int := if 4096 < l.length then 1 else if 1024 < (tokL l).length then 1 else if badB l = true then 2 else 0
def lexT (l : List UInt8) : List Tok := if lexE l = 0 then tokL l else []
theorem slice_bs (L : List UInt8) (a b : Nat) (hab : a ≤ b) (hb : b ≤ L.length) {A B : Int} (hA : A = (a : Int)) (hB : B = (b : Int)) (W : World) :
    (Instr.slice 9 (.string (bs L)) (some (.int .i64 A)) (some (.int .i64 B)) none).run Tryz.prog W = .ok (.string (bs ((L.take b).drop a))) W := by
  subst hA
  subst hB
  rw [run_slice_string W 9 (bs L) .i64 .i64 a b Tryz.underlying9 (by omega) (by omega) (by rw [bs_size]; omega)]
  rw [extract_bs, bs_toList]
  rfl
theorem slice_from (L : List UInt8) (a : Nat) (ha : a ≤ L.length) {A : Int} (hA : A = (a : Int)) (W : World) :
    (Instr.slice 9 (.string (bs L)) (some (.int .i64 A)) none none).run Tryz.prog W = .ok (.string (bs (L.drop a))) W := by
  subst hA
  rw [run_slice_string_l W 9 (bs L) Tryz.underlying9 .i64 a (by omega) (by rw [bs_size]; omega)]
  rw [extract_bs, bs_toList, bs_size, List.take_length]
  rfl
theorem slice_upto (L : List UInt8) (b : Nat) (hb : b ≤ L.length) {B : Int} (hB : B = (b : Int)) (W : World) :
    (Instr.slice 9 (.string (bs L)) none (some (.int .i64 B)) none).run Tryz.prog W = .ok (.string (bs (L.take b))) W := by
  subst hB
  rw [run_slice_string_h W 9 (bs L) Tryz.underlying9 .i64 b (by omega) (by rw [bs_size]; omega)]
  rw [extract_bs, bs_toList]
  rfl
end Go.Proofs.YteinjdmkmfeniaaGreatDoor
namespace Go.Proofs.YteinjdmkmfeniaaGreatDoor
set_option linter.unusedVariables false
set_option linter.unusedSimpArgs false
open Go.ChangeShapes Go.WideShapes Go.ChangeAt Go.RowKit
def strV (t : List UInt8) : Value := .string (bs t)
structure LnR (L : List UInt8) (w wr : World) (k a : Nat) (v : Value) : Prop where
  own : wr.ownsRow w.heap.size 9 1 v (lnF (L.take k)).1.length ((lnF (L.take k)).1.map strV)
  cur : (lnF (L.take k)).2 = (L.take k).drop a
  bel : Below w.heap.size w wr
theorem LnR.no {L : List UInt8} {w wr : World} {k a : Nat} {v : Value} (h : LnR L w wr k a v) (hk : k < L.length) (ha : a ≤ k) (h10 : L[k].toNat ≠ 10) : LnR L w wr (k + 1) a v := by
  have e : L.take (k + 1) = L.take k ++ [L[k]] := take_snoc hk
  refine ⟨?_, ?_, h.bel⟩
  · rw [e, lnF_no h10]; exact h.own
  · rw [e, lnF_no h10, List.drop_append_of_le_length (by simp; omega), ← h.cur]
theorem LnR.nl {L : List UInt8} {w wr w1 : World} {k a : Nat} {v : Value} {g cap : Nat} {t : TypeId} (h : LnR L w wr k a v) (hk : k < L.length) (h10 : L[k].toNat = 10)
    (hown : w1.ownsRow w.heap.size 9 1 (.slice (some ⟨g, 0, none⟩) ((lnF (L.take k)).1.length + 1) cap) ((lnF (L.take k)).1.length + 1) ((lnF (L.take k)).1.map strV ++ [.string (bs ((L.take k).drop a))]))
    (hg : (wr.alloc (.cells #[.string (bs ((L.take k).drop a))] t)).grownBy w1 v.ownBlock) : LnR L w w1 (k + 1) (k + 1) (.slice (some ⟨g, 0, none⟩) ((lnF (L.take k)).1.length + 1) cap) := by
  have e : L.take (k + 1) = L.take k ++ [L[k]] := take_snoc hk
  refine ⟨?_, ?_, bel_append h.bel h.bel.size h.own hg⟩
  · rw [e, lnF_nl h10, h.cur]
    simpa [strV] using hown
  · rw [e, lnF_nl h10, List.drop_eq_nil_of_le (by simp; omega)]
theorem LnR.fin {L : List UInt8} {w wr w1 : World} {a : Nat} {v : Value} {g cap : Nat} {t : TypeId} (h : LnR L w wr L.length a v)
    (hown : w1.ownsRow w.heap.size 9 1 (.slice (some ⟨g, 0, none⟩) ((lnF L).1.length + 1) cap) ((lnF L).1.length + 1) ((lnF L).1.map strV ++ [.string (bs (L.drop a))]))
    (hg : (wr.alloc (.cells #[.string (bs (L.drop a))] t)).grownBy w1 v.ownBlock) : RetRow 9 1 (linesL L).length ((linesL L).map strV) w (.returned (.slice (some ⟨g, 0, none⟩) ((lnF L).1.length + 1) cap)) w1 := by
  refine ⟨_, rfl, ?_, bel_append h.bel h.bel.size h.own hg⟩
  have hc := h.cur
  rw [List.take_length] at hc
  unfold linesL
  rw [hc]
  simpa [strV] using hown
end Go.Proofs.YteinjdmkmfeniaaGreatDoor
namespace Go.Proofs.YteinjdmkmfeniaaGreatDoor
set_option linter.unusedVariables false
set_option linter.unusedSimpArgs false
open Go.ChangeShapes Go.WideShapes Go.ChangeAt Go.RowKit
theorem infoTok : (Tryz.prog.info? 59).map (fun i => (i.zero, i.size, i.bytes)) = some (some (.agg #[.string ⟨#[]⟩, .int .i64 0]), 2, 24) := by kernel_rfl
def tokV (t : Tok) : List Value := [strV t.1, .int .i64 t.2]
def tokVs (T : List Tok) : List Value := T.flatMap tokV
theorem tokVs_snoc (T : List Tok) (t : List UInt8) (n : Int) : tokVs (T ++ [(t, n)]) = tokVs T ++ [strV t, .int .i64 n] := by unfold tokVs; simp [tokV]
def RetTok (T : List Tok) (e : Int) (w : World) (r : Ending) (w' : World) : Prop :=
  ∃ v, r = .returned (.tuple #[v, .int .i64 e]) ∧ w'.ownsRow w.heap.size 59 2 v T.length (tokVs T) ∧ Below w.heap.size w w'
structure TkR (B : Nat) (w1 wr : World) (v : Value) (T : List Tok) : Prop where
  own : wr.ownsRow B 59 2 v T.length (tokVs T)
  bel : Below B w1 wr
structure TkI (B : Nat) (w1 wr : World) (v : Value) (T : List Tok) (g2 : Nat) (ws : List (List UInt8)) : Prop where
  own : wr.ownsRow B 59 2 v T.length (tokVs T)
  bel : Below B w1 wr
  lies : Lies wr g2 (ws.map strV)
  lt : 0 < ws.length → g2 < wr.heap.size ∧ v.ownBlock ≠ some g2
theorem TkR.app {B : Nat} {w1 wr w3 : World} {v : Value} {T : List Tok} {t : List UInt8} {n x : Int} {g cap : Nat} {o : Obj} (h : TkR B w1 wr v T) (hB : B ≤ wr.heap.size) (hx : x = n)
    (hown : w3.ownsRow B 59 2 (.slice (some ⟨g, 0, none⟩) (T.length + 1) cap) (T.length + 1) (tokVs T ++ [.string (bs t), .int .i64 x])) (hg : (wr.alloc o).grownBy w3 v.ownBlock) :
    TkR B w1 w3 (.slice (some ⟨g, 0, none⟩) (T.length + 1) cap) (T ++ [(t, n)]) := by
  subst hx
  refine ⟨?_, bel_append h.bel hB h.own hg⟩
  rw [tokVs_snoc, List.length_append]
  exact hown
theorem TkI.start {B : Nat} {w1 wr w2 : World} {v : Value} {T : List Tok} {g2 : Nat} {ws : List (List UInt8)} (h : TkR B w1 wr v T) (hb2 : Below wr.heap.size wr w2) (hB : B ≤ wr.heap.size) (hl : Lies w2 g2 (ws.map strV)) (hg : 0 < ws.length → wr.heap.size ≤ g2 ∧ g2 < w2.heap.size) : TkI B w1 w2 v T g2 ws :=
  ⟨own_up h.own hb2, h.bel.trans (hb2.mono hB), hl, fun h0 => ⟨(hg h0).2, own_lt h.own (hg h0).1⟩⟩
theorem bs_nl : (⟨#[10]⟩ : ByteArray) = bs [10] := by unfold bs; rfl
theorem lex_big {l : List UInt8} (h : 4096 < l.length) : lexE l = 1 ∧ lexT l = [] := by
  have e : lexE l = 1 := if_pos h
  exact ⟨e, by unfold lexT; rw [e]; rfl⟩
theorem lex_many {l : List UInt8} (h : ¬ 4096 < l.length) (h2 : 1024 < (tokL l).length) : lexE l = 1 ∧ lexT l = [] := by
  have e : lexE l = 1 := by unfold lexE; rw [if_neg h]; exact if_pos h2
  exact ⟨e, by unfold lexT; rw [e]; rfl⟩
theorem lex_bad {l : List UInt8} (h : ¬ 4096 < l.length) (h2 : ¬ 1024 < (tokL l).length) (h3 : badB l = true) : lexE l = 2 ∧ lexT l = [] := by
  have e : lexE l = 2 := by unfold lexE; rw [if_neg h, if_neg h2]; exact if_pos h3
  exact ⟨e, by unfold lexT; rw [e]; rfl⟩
theorem lex_ok {l : List UInt8} (h : ¬ 4096 < l.length) (h2 : ¬ 1024 < (tokL l).length) (h3 : badB l = false) : lexE l = 0 ∧ lexT l = tokL l := by
  have e : lexE l = 0 := by unfold lexE; rw [if_neg h, if_neg h2]; exact if_neg (by rw [h3]; decide)
  exact ⟨e, by unfold lexT; rw [e]; rfl⟩
end Go.Proofs.YteinjdmkmfeniaaGreatDoor
namespace Go.Proofs.YteinjdmkmfeniaaGreatDoor
set_option linter.unusedVariables false
set_option linter.unusedSimpArgs false
open Go.ChangeShapes Go.WideShapes Go.ChangeAt Go.RowKit
def Rd (w : World) (A : Option Addr) (xs : List Value) : Prop := ∀ j u, xs[j]? = some u → ∃ b o, A = some ⟨b, o, none⟩ ∧ b < w.heap.size ∧ w.cell? ⟨b, o + j, none⟩ = some u
theorem Rd.below {w w' : World} {A : Option Addr} {xs : List Value} {B : Nat} (h : Rd w A xs) (hb : Below B w w') (hB : w.heap.size ≤ B) : Rd w' A xs := fun j u hu => by
  obtain ⟨b, o, h1, h2, h3⟩ := h j u hu
  exact ⟨b, o, h1, Nat.lt_of_lt_of_le h2 hb.size, (hb.cell (p := ⟨b, o + j, none⟩) (by show b < B; omega)).trans h3⟩
theorem Rd.own {w : World} {base : Nat} {e : TypeId} {size : Nat} {A : Option Addr} {n m c : Nat} {xs : List Value} (h : w.ownsRow base e size (.slice A m c) n xs) : Rd w A xs := fun j u hu => by
  obtain ⟨A', c', g, hv, hl, hA, _⟩ := own_form h
  have hn : 0 < n := by
    have h1 := h.1
    rcases Nat.eq_zero_or_pos n with h0 | h0
    · subst h0
      rw [Nat.zero_mul] at h1
      rw [List.length_eq_zero_iff] at h1
      subst h1
      simp at hu
    · exact h0
  obtain ⟨h1, h2, h3⟩ := hA hn
  obtain ⟨rfl, rfl, rfl⟩ : A = A' ∧ m = n ∧ c = c' := by simpa using hv
  exact ⟨g, 0, h1, h3, by rw [Nat.zero_add]; exact hl j u hu⟩
theorem Rd.at_ {w : World} {A : Option Addr} {xs : List Value} (h : Rd w A xs) {b o : Nat} (hA : A = some ⟨b, o, none⟩) {j : Nat} {u : Value} (hu : xs[j]? = some u) : w.cell? ⟨b, o + j, none⟩ = some u := by
  obtain ⟨b', o', h1, h2, h3⟩ := h j u hu
  rw [hA] at h1
  obtain ⟨rfl, rfl⟩ : b = b' ∧ o = o' := by simpa using h1
  exact h3
theorem tokVs_at (T : List Tok) (k : Nat) (h : k < T.length) : (tokVs T)[2 * k]? = some (strV T[k].1) ∧ (tokVs T)[2 * k + 1]? = some (.int .i64 T[k].2) := by
  induction T generalizing k with
  | nil => simp at h
  | cons t T ih =>
    have e : tokVs (t :: T) = strV t.1 :: .int .i64 t.2 :: tokVs T := by unfold tokVs; rw [List.flatMap_cons]; rfl
    rw [e]
    cases k with
    | zero => exact ⟨rfl, rfl⟩
    | succ k =>
      rw [show 2 * (k + 1) = 2 * k + 1 + 1 by omega]
      simpa using ih k (by simpa using h)
theorem Rd.tok {w : World} {A : Option Addr} {T : List Tok} (h : Rd w A (tokVs T)) {k : Nat} (hk : k < T.length) :
    ∃ b o, A = some ⟨b, o, none⟩ ∧ b < w.heap.size ∧ ∀ j (hj : j < T.length), w.cell? ⟨b, o + j * 2, none⟩ = some (.string (bs T[j].1)) ∧ w.cell? ⟨b, o + j * 2 + 1, none⟩ = some (.int .i64 T[j].2) := by
  obtain ⟨h1, h2⟩ := tokVs_at T k hk
  obtain ⟨b, o, hA, hb, hc⟩ := h _ _ h1
  refine ⟨b, o, hA, hb, fun j hj => ?_⟩
  obtain ⟨h3, h4⟩ := tokVs_at T j hj
  have h5 := h.at_ hA h3
  have h6 := h.at_ hA h4
  rw [show 2 * j = j * 2 by omega] at h5 h6
  exact ⟨h5, by rw [Nat.add_assoc]; exact h6⟩
def gapB (T : List Tok) (k : Nat) : Bool := (T.getD k ([], 0)).1 != [10] && decide (k + 1 < T.length) && (T.getD (k + 1) ([], 0)).1 != [10]
def pieceT (T : List Tok) (k : Nat) : List UInt8 := (T.getD k ([], 0)).1 ++ (if gapB T k = true then [32] else [])
def shW (T : List Tok) (k : Nat) : List UInt8 := (List.range k).flatMap (pieceT T)
def showT (T : List Tok) : List UInt8 := shW T T.length
theorem shW_succ (T : List Tok) (k : Nat) : shW T (k + 1) = shW T k ++ pieceT T k := by unfold shW; rw [List.range_succ, List.flatMap_append]; simp
def zsT (T : List Tok) : Nat := (T.map (fun t => t.1.length + 1)).sum
theorem szT_snoc (T : List Tok) (t : Tok) : zsT (T ++ [t]) = zsT T + (t.1.length + 1) := by unfold zsT; simp
theorem szT_take (T : List Tok) (k : Nat) : zsT (T.take k) ≤ zsT T := by
  conv => rhs; rw [← List.take_append_drop k T]
  unfold zsT
  rw [List.map_append, List.sum_append]
  omega
theorem szT_ge (T : List Tok) : T.length ≤ zsT T := by
  unfold zsT
  induction T with
  | nil => simp
  | cons t T ih => simp; omega
theorem tokD_at (T : List Tok) (k : Nat) (h : k < T.length) (d : Tok) : T.getD k d = T[k] := by simp [List.getD, List.getElem?_eq_getElem h]
theorem shW_len (T : List Tok) (k : Nat) (h : k ≤ T.length) : (shW T k).length ≤ zsT (T.take k) := by
  induction k with
  | zero => simp [shW]
  | succ k ih =>
    rw [shW_succ, List.take_succ_eq_append_getElem (by omega), szT_snoc, List.length_append]
    have := ih (by omega)
    unfold pieceT
    rw [tokD_at T k (by omega)]
    split <;> simp <;> omega
theorem sh_bd (T : List Tok) (k : Nat) (h : k < T.length) (hs : zsT T ≤ 1000000000) : (shW T k).length + T[k].1.length + 1 ≤ 1000000000 := by
  have h1 := shW_len T k (by omega)
  have h2 := szT_take T (k + 1)
  rw [List.take_succ_eq_append_getElem h, szT_snoc] at h2
  omega
end Go.Proofs.YteinjdmkmfeniaaGreatDoor
namespace Go.Proofs.YteinjdmkmfeniaaGreatDoor
set_option linter.unusedVariables false
set_option linter.unusedSimpArgs false
structure LxS where
  out : List Tok
  ln : Int
  cur : List UInt8
  note : Bool
  any : Bool
def lx0 : LxS := ⟨[], 1, [], false, false⟩
def lxFl (S : LxS) : LxS := ⟨S.out ++ (if S.cur = [] then [] else [(S.cur, S.ln)]), S.ln, [], S.note, S.any || !S.cur.isEmpty⟩
def lxNl (S : LxS) : LxS := ⟨(lxFl S).out ++ (if (lxFl S).any = true then [([10], S.ln)] else []), S.ln + 1, [], false, false⟩
def lxStep (S : LxS) (c : UInt8) : LxS :=
  if c.toNat = 10 then lxNl S else if S.note = true then S else if c.toNat = 35 then { lxFl S with note := true } else if blankB c = true then lxFl S else { S with cur := S.cur ++ [c] }
def lxF (l : List UInt8) : LxS := l.foldl lxStep lx0
theorem lxF_snoc (l : List UInt8) (c : UInt8) : lxF (l ++ [c]) = lxStep (lxF l) c := by unfold lxF; rw [List.foldl_append]; rfl
def hashB (x : List UInt8) : Bool := x.any (fun c => c.toNat == 35)
theorem hash_snoc (x : List UInt8) (c : UInt8) : hashB (x ++ [c]) = (hashB x || c.toNat == 35) := by unfold hashB; simp
theorem ahead_of {x : List UInt8} (h : hashB x = false) : ahead x = x := by
  unfold ahead hashB at *
  induction x with
  | nil => rfl
  | cons c x ih =>
    rw [List.any_cons, Bool.or_eq_false_iff] at h
    rw [List.takeWhile_cons_of_pos (by simp; simpa using h.1), ih h.2]
theorem ahead_snoc {x : List UInt8} (y : List UInt8) (h : hashB x = true) : ahead (x ++ y) = ahead x := by
  unfold ahead hashB at *
  induction x with
  | nil => simp at h
  | cons c x ih =>
    by_cases hc : c.toNat = 35
    · rw [List.cons_append, List.takeWhile_cons_of_neg (by simp [hc]), List.takeWhile_cons_of_neg (by simp [hc])]
    · rw [List.any_cons] at h
      have h2 : x.any (fun c => c.toNat == 35) = true := by simpa [hc] using h
      rw [List.cons_append, List.takeWhile_cons_of_pos (by simp [hc]), List.takeWhile_cons_of_pos (by simp [hc]), ih h2]
theorem ahead_hash {x : List UInt8} {c : UInt8} (h : hashB x = false) (hc : c.toNat = 35) : ahead (x ++ [c]) = x := by
  unfold ahead
  have e := ahead_of h
  unfold ahead at e
  have hp : ∀ y ∈ x, (y.toNat != 35) = true := by
    intro y hy
    have hy2 : y ∈ List.takeWhile (fun c => c.toNat != 35) x := by rw [e]; exact hy
    exact List.all_eq_true.1 (List.all_takeWhile (p := fun c : UInt8 => c.toNat != 35)) y hy2
  rw [List.takeWhile_append_of_pos hp, List.takeWhile_cons_of_neg (by simp [hc]), List.append_nil]
structure LxI (l : List UInt8) (S : LxS) : Prop where
  ln : S.ln = ((lnF l).1.length : Int) + 1
  note : S.note = hashB (lnF l).2
  yes : hashB (lnF l).2 = true → S.cur = [] ∧ S.out = tokFrom 0 (lnF l).1 ++ (wordsL (lnF l).2).map (fun t => (t, S.ln)) ∧ S.any = !(wordsL (lnF l).2).isEmpty
  no : hashB (lnF l).2 = false → S.cur = (wdF (lnF l).2).2 ∧ S.out = tokFrom 0 (lnF l).1 ++ (wdF (lnF l).2).1.map (fun t => (t, S.ln)) ∧ S.any = !(wdF (lnF l).2).1.isEmpty
theorem LxI.fl {l : List UInt8} {S : LxS} (h : LxI l S) : (lxFl S).out = tokFrom 0 (lnF l).1 ++ (wordsL (lnF l).2).map (fun t => (t, S.ln)) ∧ (lxFl S).any = !(wordsL (lnF l).2).isEmpty := by
  cases hh : hashB (lnF l).2
  · obtain ⟨h1, h2, h3⟩ := h.no hh
    have e : wordsL (lnF l).2 = wdEnd (wdF (lnF l).2) := by unfold wordsL; rw [ahead_of hh]
    rw [e]
    unfold lxFl
    by_cases hc : (wdF (lnF l).2).2 = []
    · rw [wdEnd_none hc, h1, hc]
      simp only [if_true, List.append_nil, List.isEmpty_nil, Bool.not_true, Bool.or_false]
      exact ⟨h2, h3⟩
    · rw [wdEnd_some hc, h1]
      simp only [if_neg hc]
      refine ⟨by rw [h2]; simp, ?_⟩
      have : (wdF (lnF l).2).2.isEmpty = false := by simpa using hc
      rw [this]
      simp
  · obtain ⟨h1, h2, h3⟩ := h.yes hh
    unfold lxFl
    rw [h1]
    simp only [if_true, List.append_nil, List.isEmpty_nil, Bool.not_true, Bool.or_false]
    exact ⟨h2, h3⟩
theorem LxI.nl {l : List UInt8} {S : LxS} (h : LxI l S) : (lxNl S).out = tokFrom 0 ((lnF l).1 ++ [(lnF l).2]) := by
  obtain ⟨h1, h2⟩ := h.fl
  rw [tokFrom_snoc]
  unfold lxNl
  simp only [h1, h2]
  rw [List.append_assoc]
  congr 1
  have e : ((0 : Nat) : Int) + ((lnF l).1.length : Int) + 1 = S.ln := by rw [h.ln]; omega
  rw [e]
  unfold lineT
  congr 1
  by_cases hw : wordsL (lnF l).2 = []
  · rw [if_pos hw, hw]; rfl
  · rw [if_neg hw]
    have : (wordsL (lnF l).2).isEmpty = false := by simpa using hw
    rw [this]; rfl
theorem lx_inv (l : List UInt8) : LxI l (lxF l) := by
  induction l using snocInd with
  | h0 => exact ⟨rfl, rfl, fun h => by simp [lnF, hashB] at h, fun _ => ⟨rfl, rfl, rfl⟩⟩
  | h l c ih =>
    rw [lxF_snoc]
    generalize lxF l = S at *
    by_cases h10 : c.toNat = 10
    · have e : lxStep S c = lxNl S := if_pos h10
      rw [e]
      have o := ih.nl
      refine ⟨?_, ?_, fun h => ?_, fun _ => ?_⟩
      · rw [lnF_nl h10]; unfold lxNl; simp [ih.ln]
      · rw [lnF_nl h10]; rfl
      · rw [lnF_nl h10] at h; cases h
      · rw [lnF_nl h10]
        exact ⟨rfl, by rw [o]; simp [wdF], rfl⟩
    · have eL := lnF_no h10 (l := l)
      cases hh : hashB (lnF l).2
      · have hn : S.note = false := ih.note.trans hh
        obtain ⟨n1, n2, n3⟩ := ih.no hh
        by_cases h35 : c.toNat = 35
        · have e : lxStep S c = { lxFl S with note := true } := by unfold lxStep; rw [if_neg h10, hn, if_neg (by decide), if_pos h35]
          obtain ⟨f1, f2⟩ := ih.fl
          have hx : wordsL ((lnF l).2 ++ [c]) = wordsL (lnF l).2 := by unfold wordsL; rw [ahead_hash hh h35, ahead_of hh]
          have hy : hashB ((lnF l).2 ++ [c]) = true := by rw [hash_snoc, hh, h35]; rfl
          rw [e]
          refine ⟨?_, ?_, fun _ => ?_, fun h => ?_⟩
          · rw [eL]; exact ih.ln
          · rw [eL]; exact hy.symm
          · rw [eL]; show _ ∧ _ ∧ _; rw [hx]; exact ⟨rfl, f1, f2⟩
          · rw [eL] at h; rw [hy] at h; cases h
        · have hy : hashB ((lnF l).2 ++ [c]) = false := by rw [hash_snoc, hh]; simpa using h35
          cases hb : blankB c
          · have e : lxStep S c = { S with cur := S.cur ++ [c] } := by unfold lxStep; rw [if_neg h10, hn, if_neg (by decide), if_neg h35, if_neg (by rw [hb]; decide)]
            rw [e]
            refine ⟨?_, ?_, fun h => ?_, fun _ => ?_⟩
            · rw [eL]; exact ih.ln
            · rw [eL]; exact hn.trans hy.symm
            · rw [eL] at h; rw [hy] at h; cases h
            · rw [eL]; show _ ∧ _ ∧ _; rw [wdF_byte hb]; exact ⟨by rw [← n1], n2, n3⟩
          · have e : lxStep S c = lxFl S := by unfold lxStep; rw [if_neg h10, hn, if_neg (by decide), if_neg h35, if_pos hb]
            obtain ⟨f1, f2⟩ := ih.fl
            have hw : wordsL (lnF l).2 = wdEnd (wdF (lnF l).2) := by unfold wordsL; rw [ahead_of hh]
            rw [hw] at f1 f2
            rw [e]
            refine ⟨?_, ?_, fun h => ?_, fun _ => ?_⟩
            · rw [eL]; exact ih.ln
            · rw [eL]; exact hn.trans hy.symm
            · rw [eL] at h; rw [hy] at h; cases h
            · rw [eL]; show _ ∧ _ ∧ _; rw [wdF_blank hb]; exact ⟨rfl, f1, f2⟩
      · have hn : S.note = true := ih.note.trans hh
        have e : lxStep S c = S := by unfold lxStep; rw [if_neg h10, if_pos hn]
        have hy : hashB ((lnF l).2 ++ [c]) = true := by rw [hash_snoc, hh]; rfl
        have hx : wordsL ((lnF l).2 ++ [c]) = wordsL (lnF l).2 := by unfold wordsL; rw [ahead_snoc _ hh]
        rw [e]
        obtain ⟨y1, y2, y3⟩ := ih.yes hh
        refine ⟨?_, ?_, fun _ => ?_, fun h => ?_⟩
        · rw [eL]; exact ih.ln
        · rw [eL]; exact hn.trans hy.symm
        · rw [eL]; show _ ∧ _ ∧ _; rw [hx]; exact ⟨y1, y2, y3⟩
        · rw [eL] at h; rw [hy] at h; cases h
theorem tokL_lx (l : List UInt8) : tokL l = (lxNl (lxF l)).out := by
  rw [(lx_inv l).nl]; rfl
theorem st_nl {S : LxS} {c : UInt8} (h : c.toNat = 10) : lxStep S c = lxNl S := if_pos h
theorem st_blank {S : LxS} {c : UInt8} (hb : blankB c = true) (hn : S.note = false) : lxStep S c = lxFl S := by
  have h : c.toNat = 32 ∨ c.toNat = 9 := by unfold blankB at hb; simpa using hb
  unfold lxStep; rw [if_neg (by omega), hn, if_neg (by decide), if_neg (by omega), if_pos hb]
theorem bad_app (a b : List UInt8) : badB (a ++ b) = (badB a || badB b) := by unfold badB; simp
end Go.Proofs.YteinjdmkmfeniaaGreatDoor
namespace Go.Proofs.YteinjdmkmfeniaaGreatDoor
set_option linter.unusedVariables false
set_option linter.unusedSimpArgs false
def rb (ns : List Int) : List UInt8 := (runesBytes ns).data.toList
theorem bs_rb (ns : List Int) : bs (rb ns) = runesBytes ns := bs_of _
theorem enc_one (x : UInt8) (h : x.toNat < 128) : Utf8.encode (x.toNat : Int) = bs [x] := by
  unfold Utf8.encode Utf8.valid
  have h1 : (x.toNat : Int) < 55296 := by omega
  have h2 : (0 : Int) ≤ (x.toNat : Int) := by omega
  simp only [h1, h2, decide_true, Bool.and_self, Bool.true_or, if_true, Int.toNat_natCast, h]
  unfold bs
  congr
  simp
theorem enc_all (c : List UInt8) (h : ∀ x ∈ c, x.toNat < 128) : ∀ a : List UInt8, (c.map (fun x => (x.toNat : Int))).foldl (fun r n => r ++ Utf8.encode n) (bs a) = bs (a ++ c) := by
  induction c with
  | nil => intro a; simp
  | cons x c ih =>
    intro a
    rw [List.map_cons, List.foldl_cons, enc_one x (h x (by simp)), append_bs, ih (fun y hy => h y (by simp [hy]))]
    simp
theorem rb_low (c : List UInt8) (h : ∀ x ∈ c, x.toNat < 128) : rb (c.map (fun x => (x.toNat : Int))) = c := by
  have e := enc_all c h []
  have e0 : bs [] = ByteArray.empty := by unfold bs; rfl
  rw [e0] at e
  unfold rb runesBytes
  rw [e, List.nil_append, bs_toList]
structure Rg where
  out : List Tok
  cur : List Int
  ln : Int
  note : Bool
  odd : Bool
def rg0 : Rg := ⟨[], [], 1, false, false⟩
def knL (r : Int) : Bool := r == 10 || r == 9 || (decide (32 ≤ r) && decide (r ≤ 126))
def hasL (T : List Tok) (n : Int) : Bool := match T.getLast? with | some t => t.2 == n | none => false
def wdT (o : List Tok) (c : List Int) (n : Int) : List Tok := if c = [] then o else o ++ [(rb c, n)]
def rgWd (S : Rg) : Rg := ⟨wdT S.out S.cur S.ln, [], S.ln, S.note, S.odd⟩
def enT (o : List Tok) (n : Int) : List Tok := if hasL o n = true then o ++ [([10], n)] else o
def rgNl (S : Rg) : Rg := ⟨enT (wdT S.out S.cur S.ln) S.ln, [], S.ln + 1, false, S.odd⟩
def rgGo (S : Rg) (r : Int) : Rg := if r = 10 then rgNl S else if S.note = true then S else if r = 35 then ⟨S.out, S.cur, S.ln, true, S.odd⟩ else if r = 32 ∨ r = 9 then rgWd S else ⟨S.out, S.cur ++ [r], S.ln, S.note, S.odd⟩
def rgTk (S : Rg) (r : Int) : Rg := rgGo ⟨S.out, S.cur, S.ln, S.note, S.odd || !knL r⟩ r
theorem hasL_snoc (T : List Tok) (t : List UInt8) (m n : Int) : hasL (T ++ [(t, m)]) n = (m == n) := by unfold hasL; simp
theorem hasL_lt (T : List Tok) (n : Int) (h : ∀ t ∈ T, t.2 ≤ n) : hasL T (n + 1) = false := by
  unfold hasL
  cases e : T.getLast? with
  | none => rfl
  | some t =>
    have := h t (List.mem_of_getLast? e)
    simp
    omega
structure LxQ (o : List Tok) (c : List Int) (S : LxS) (bad : Bool) : Prop where
  len : o.length = S.out.length
  any : hasL o S.ln = S.any
  le : ∀ t ∈ o, t.2 ≤ S.ln
  nil : c = [] ↔ S.cur = []
  eqs : bad = false → o = S.out ∧ c = S.cur.map (fun x => (x.toNat : Int)) ∧ ∀ x ∈ S.cur, x.toNat < 128
theorem fl_none {S : LxS} (h : S.cur = []) : lxFl S = S := by
  cases S
  simp only at h
  subst h
  simp [lxFl]
theorem LxQ.worse {o : List Tok} {c : List Int} {S : LxS} {bad bad' : Bool} (h : LxQ o c S bad) (hb : bad' = false → bad = false) : LxQ o c S bad' := ⟨h.len, h.any, h.le, h.nil, fun e => h.eqs (hb e)⟩
theorem LxQ.fl {o : List Tok} {c : List Int} {S : LxS} {bad : Bool} (h : LxQ o c S bad) : LxQ (wdT o c S.ln) [] (lxFl S) bad := by
  unfold wdT
  by_cases hc : c = []
  · have hs := h.nil.1 hc
    rw [if_pos hc, fl_none hs]
    subst hc
    exact h
  · have hs : S.cur ≠ [] := fun e => hc (h.nil.2 e)
    have hs2 : S.cur.isEmpty = false := by simpa using hs
    rw [if_neg hc]
    refine ⟨?_, ?_, ?_, ?_, ?_⟩
    · unfold lxFl
      rw [if_neg hs]
      simp [h.len]
    · rw [hasL_snoc]
      unfold lxFl
      simp [hs2]
    · intro t ht
      show t.2 ≤ S.ln
      rw [List.mem_append, List.mem_singleton] at ht
      rcases ht with ht | rfl
      · exact h.le t ht
      · exact Int.le_refl _
    · exact ⟨fun _ => rfl, fun _ => rfl⟩
    · intro e
      obtain ⟨e1, e2, e3⟩ := h.eqs e
      refine ⟨?_, rfl, by simp [lxFl]⟩
      unfold lxFl
      rw [if_neg hs]
      show o ++ [(rb c, S.ln)] = S.out ++ [(S.cur, S.ln)]
      rw [e1, e2, rb_low _ e3]
structure LxZ (R : Rg) (S : LxS) (bad : Bool) : Prop where
  ln : R.ln = S.ln
  note : R.note = S.note
  odd : R.odd = bad
  no : S.note = false → LxQ R.out R.cur S bad
  yes : S.note = true → LxQ (wdT R.out R.cur R.ln) [] S bad
theorem LxZ.fl {R : Rg} {S : LxS} {bad : Bool} (h : LxZ R S bad) : LxQ (wdT R.out R.cur R.ln) [] (lxFl S) bad := by
  cases hn : S.note
  · rw [h.ln]; exact (h.no hn).fl
  · have q := h.yes hn
    rw [fl_none (q.nil.1 rfl)]
    exact q
theorem LxZ.nl {R : Rg} {S : LxS} {bad : Bool} (h : LxZ R S bad) : LxZ (rgNl R) (lxNl S) bad := by
  have q := h.fl
  have hfl : (lxFl S).ln = S.ln := rfl
  have hq : LxQ (enT (wdT R.out R.cur R.ln) R.ln) [] (lxNl S) bad := by
    have ha : hasL (wdT R.out R.cur R.ln) R.ln = (lxFl S).any := by
      have := q.any
      rw [hfl, ← h.ln] at this
      exact this
    have hle : ∀ t ∈ enT (wdT R.out R.cur R.ln) R.ln, t.2 ≤ S.ln := by
      intro t ht
      unfold enT at ht
      split at ht
      · rw [List.mem_append, List.mem_singleton] at ht
        rcases ht with ht | rfl
        · exact q.le t ht
        · rw [h.ln]; exact Int.le_refl _
      · exact q.le t ht
    refine ⟨?_, ?_, ?_, ⟨fun _ => rfl, fun _ => rfl⟩, ?_⟩
    · unfold enT lxNl
      rw [ha]
      cases (lxFl S).any
      · simp [q.len]
      · simp [q.len]
    · show hasL _ (S.ln + 1) = false
      exact hasL_lt _ _ hle
    · intro t ht
      have := hle t ht
      show t.2 ≤ S.ln + 1
      omega
    · intro e
      refine ⟨?_, rfl, fun x hx => by cases hx⟩
      have e1 := (q.eqs e).1
      unfold enT lxNl
      rw [ha, ← e1, h.ln]
      cases (lxFl S).any
      · simp
      · simp
  refine ⟨?_, rfl, h.odd, fun _ => hq, fun e => (by cases e)⟩
  show R.ln + 1 = S.ln + 1
  rw [h.ln]
theorem kn_byte (c : UInt8) : knL (c.toNat : Int) = !oddB c := by
  unfold knL oddB
  generalize c.toNat = n
  by_cases h1 : n = 10
  · subst h1; rfl
  · by_cases h2 : n = 9
    · subst h2; rfl
    · by_cases h3 : n < 32
      · have e1 : ((n : Int) == 10) = false := beq_false_of_ne (by omega)
        have e2 : ((n : Int) == 9) = false := beq_false_of_ne (by omega)
        have e3 : decide ((32 : Int) ≤ n) = false := decide_eq_false (by omega)
        simp [e1, e2, e3, h1, h2, h3]
      · by_cases h4 : 126 < n
        · have e1 : ((n : Int) == 10) = false := beq_false_of_ne (by omega)
          have e2 : ((n : Int) == 9) = false := beq_false_of_ne (by omega)
          have e3 : decide ((n : Int) ≤ 126) = false := decide_eq_false (by omega)
          simp [e1, e2, e3, h1, h2, h4]
        · have e1 : ((n : Int) == 10) = false := beq_false_of_ne (by omega)
          have e2 : ((n : Int) == 9) = false := beq_false_of_ne (by omega)
          have e3 : decide ((32 : Int) ≤ n) = true := decide_eq_true (by omega)
          have e4 : decide ((n : Int) ≤ 126) = true := decide_eq_true (by omega)
          simp [e1, e2, e3, e4, h3, h4]
theorem LxZ.odd' {R : Rg} {S : LxS} {bad : Bool} (h : LxZ R S bad) (x : Bool) : LxZ ⟨R.out, R.cur, R.ln, R.note, R.odd || x⟩ S (bad || x) :=
  ⟨h.ln, h.note, by show (R.odd || x) = _; rw [h.odd], fun e => (h.no e).worse (fun e => (Bool.or_eq_false_iff.1 e).1), fun e => (h.yes e).worse (fun e => (Bool.or_eq_false_iff.1 e).1)⟩
theorem LxZ.go {R : Rg} {S : LxS} {bad : Bool} (h : LxZ R S bad) (c : UInt8) (hc : c.toNat < 128) : LxZ (rgGo R (c.toNat : Int)) (lxStep S c) bad := by
  by_cases h10 : c.toNat = 10
  · unfold rgGo lxStep
    rw [if_pos (by omega), if_pos h10]
    exact h.nl
  · cases hn : S.note
    · have hr : R.note = false := h.note.trans hn
      have q := h.no hn
      by_cases h35 : c.toNat = 35
      · unfold rgGo lxStep
        rw [if_neg (by omega), if_neg (by rw [hr]; decide), if_pos (by omega), if_neg h10, if_neg (by rw [hn]; decide), if_pos h35]
        refine ⟨h.ln, rfl, h.odd, fun e => (by cases e), fun _ => ?_⟩
        have q2 := h.fl
        exact ⟨q2.len, q2.any, q2.le, q2.nil, q2.eqs⟩
      · by_cases hb : blankB c = true
        · have hb2 : (c.toNat : Int) = 32 ∨ (c.toNat : Int) = 9 := by
            unfold blankB at hb
            rw [Bool.or_eq_true, beq_iff_eq, beq_iff_eq] at hb
            omega
          unfold rgGo lxStep
          rw [if_neg (by omega), if_neg (by rw [hr]; decide), if_neg (by omega), if_pos hb2, if_neg h10, if_neg (by rw [hn]; decide), if_neg h35, if_pos hb]
          have q2 := h.fl
          exact ⟨h.ln, h.note, h.odd, fun _ => q2, fun e => absurd (hn.symm.trans e) (by decide)⟩
        · have hb2 : ¬ ((c.toNat : Int) = 32 ∨ (c.toNat : Int) = 9) := by
            intro e
            apply hb
            unfold blankB
            rw [Bool.or_eq_true, beq_iff_eq, beq_iff_eq]
            omega
          unfold rgGo lxStep
          rw [if_neg (by omega), if_neg (by rw [hr]; decide), if_neg (by omega), if_neg hb2, if_neg h10, if_neg (by rw [hn]; decide), if_neg h35, if_neg hb]
          refine ⟨h.ln, h.note, h.odd, fun _ => ⟨q.len, q.any, q.le, ⟨fun e => (by simp at e), fun e => (by simp at e)⟩, fun e => ?_⟩, fun e => absurd (hn.symm.trans e) (by decide)⟩
          obtain ⟨e1, e2, e3⟩ := q.eqs e
          refine ⟨e1, ?_, ?_⟩
          · show R.cur ++ [(c.toNat : Int)] = (S.cur ++ [c]).map _
            rw [e2]; simp
          · intro x hx
            have hx2 : x ∈ S.cur ++ [c] := hx
            rw [List.mem_append, List.mem_singleton] at hx2
            rcases hx2 with hx2 | rfl
            · exact e3 x hx2
            · exact hc
    · have hr : R.note = true := h.note.trans hn
      unfold rgGo lxStep
      rw [if_neg (by omega), if_pos hr, if_neg h10, if_pos hn]
      exact h
theorem LxZ.low {R : Rg} {S : LxS} {bad : Bool} (h : LxZ R S bad) (c : UInt8) (hc : c.toNat < 128) : LxZ (rgTk R (c.toNat : Int)) (lxStep S c) (bad || oddB c) := by
  have h2 := h.odd' (oddB c)
  unfold rgTk
  rw [kn_byte, Bool.not_not]
  exact h2.go c hc
theorem lx_high (x : List UInt8) (hx : ∀ c ∈ x, 128 ≤ c.toNat) : ∀ S : LxS, x.foldl lxStep S = if S.note = true then S else { S with cur := S.cur ++ x } := by
  induction x with
  | nil => intro S; simp
  | cons c x ih =>
    intro S
    have hc := hx c (by simp)
    have hb : ¬ blankB c = true := by
      unfold blankB
      rw [Bool.or_eq_true, beq_iff_eq, beq_iff_eq]
      omega
    have st : lxStep S c = if S.note = true then S else { S with cur := S.cur ++ [c] } := by
      unfold lxStep
      have n10 : ¬ c.toNat = 10 := by omega
      have n35 : ¬ c.toNat = 35 := by omega
      simp only [n10, n35, hb, if_false]
      rfl
    rw [List.foldl_cons, ih (fun y hy => hx y (by simp [hy])), st]
    cases hn : S.note
    · simp [hn]
    · simp [hn]
theorem LxZ.high {R : Rg} {S : LxS} {bad : Bool} (h : LxZ R S bad) (r : Int) (hr : 128 ≤ r) (x : List UInt8) (hx : ∀ c ∈ x, 128 ≤ c.toNat) (hx0 : x ≠ []) : LxZ (rgTk R r) (x.foldl lxStep S) true := by
  have hk : knL r = false := by
    unfold knL
    rw [beq_false_of_ne (by omega), beq_false_of_ne (by omega), decide_eq_false (show ¬ r ≤ 126 by omega)]
    simp
  have hb : ∀ b : Bool, true = false → b = false := fun b e => by cases e
  rw [lx_high x hx]
  unfold rgTk rgGo
  rw [hk, if_neg (by omega)]
  cases hn : S.note
  · have hR : R.note = false := h.note.trans hn
    rw [if_neg (by rw [hR]; decide), if_neg (by omega), if_neg (by omega), if_neg (by decide)]
    have q := h.no hn
    refine ⟨h.ln, hR, by simp, fun _ => ⟨q.len, q.any, q.le, ⟨fun e => (by simp at e), fun e => ?_⟩, fun e => by cases e⟩, fun e => by cases e⟩
    have e2 : S.cur ++ x = [] := e
    rw [List.append_eq_nil_iff] at e2
    exact absurd e2.2 hx0
  · have hR : R.note = true := h.note.trans hn
    rw [if_pos hR, if_pos rfl]
    exact ⟨h.ln, h.note, by simp, fun e => absurd (hn.symm.trans e) (by decide), fun e => (h.yes e).worse (hb _)⟩
theorem LxZ.start : LxZ rg0 lx0 false := ⟨rfl, rfl, rfl, fun _ => ⟨rfl, rfl, fun t ht => (by cases ht), ⟨fun _ => rfl, fun _ => rfl⟩, fun _ => ⟨rfl, rfl, fun x hx => by cases hx⟩⟩, fun e => by cases e⟩
theorem dec_bytes (s : ByteArray) (p : Nat) (h : p < s.size) (ha : 128 ≤ (s[p]'h).toNat) : ∀ j, j < (Utf8.decode s p).2 → p + j < s.size ∧ 128 ≤ (s.get! (p + j)).toNat := by
  have e0 : s.get! (p + 0) = s[p]'h := get_at s p h
  have c0 : p + 0 < s.size ∧ 128 ≤ (s.get! (p + 0)).toNat := ⟨h, by rw [e0]; exact ha⟩
  have hn : ¬ (s[p]'h).toNat < 128 := by omega
  have key : ∀ k, (decide (p + k < s.size) && (s.get! (p + k)).toNat / 64 == 2) = true → p + k < s.size ∧ 128 ≤ (s.get! (p + k)).toNat := by
    intro k hk
    rw [Bool.and_eq_true, decide_eq_true_eq, beq_iff_eq] at hk
    exact ⟨hk.1, by omega⟩
  intro j
  simp only [Utf8.decode, e0, hn, if_false]
  split
  · rename_i h1
    rw [Bool.and_eq_true] at h1
    have k1 := key 1 h1.2
    split
    · intro hj
      have : j = 0 ∨ j = 1 := by simp only at hj; omega
      rcases this with rfl | rfl
      · exact c0
      · exact k1
    · intro hj
      obtain rfl : j = 0 := by simp only at hj; omega
      exact c0
  · split
    · rename_i h1
      rw [Bool.and_eq_true, Bool.and_eq_true] at h1
      have k1 := key 1 h1.1.2
      have k2 := key 2 h1.2
      split
      · intro hj
        have : j = 0 ∨ j = 1 ∨ j = 2 := by simp only at hj; omega
        rcases this with rfl | rfl | rfl
        · exact c0
        · exact k1
        · exact k2
      · intro hj
        obtain rfl : j = 0 := by simp only at hj; omega
        exact c0
    · split
      · rename_i h1
        rw [Bool.and_eq_true, Bool.and_eq_true, Bool.and_eq_true] at h1
        have k1 := key 1 h1.1.1.2
        have k2 := key 2 h1.1.2
        have k3 := key 3 h1.2
        split
        · intro hj
          have : j = 0 ∨ j = 1 ∨ j = 2 ∨ j = 3 := by simp only at hj; omega
          rcases this with rfl | rfl | rfl | rfl
          · exact c0
          · exact k1
          · exact k2
          · exact k3
        · intro hj
          obtain rfl : j = 0 := by simp only at hj; omega
          exact c0
      · intro hj
        obtain rfl : j = 0 := by simp only at hj; omega
        exact c0
theorem LxZ.rune {R : Rg} {L : List UInt8} {p : Nat} (h : LxZ R (lxF (L.take p)) (badB (L.take p))) (hp : p < L.length) :
    LxZ (rgTk R ((Utf8.decode (bs L) p).1 : Int)) (lxF (L.take (p + (Utf8.decode (bs L) p).2))) (badB (L.take (p + (Utf8.decode (bs L) p).2))) ∧ 1 ≤ (Utf8.decode (bs L) p).2 ∧ p + (Utf8.decode (bs L) p).2 ≤ L.length := by
  have hp2 : p < (bs L).size := by rw [bs_size]; exact hp
  have hc := get_bs L p hp hp2
  by_cases ha : L[p].toNat < 128
  · rw [decode_ascii (bs L) p hp2 (by rw [hc]; exact ha), hc]
    refine ⟨?_, Nat.le_refl _, hp⟩
    show LxZ (rgTk R (L[p].toNat : Int)) (lxF (L.take (p + 1))) (badB (L.take (p + 1)))
    rw [take_snoc hp, lxF_snoc, badB_snoc]
    exact h.low _ ha
  · have hd := decode_high (bs L) p hp2 (by rw [hc]; omega)
    have hb := dec_bytes (bs L) p hp2 (by rw [hc]; omega)
    generalize hr : (Utf8.decode (bs L) p).1 = r at *
    generalize hw : (Utf8.decode (bs L) p).2 = d at *
    have hle : p + d ≤ L.length := by
      have := (hb (d - 1) (by omega)).1
      rw [bs_size] at this
      omega
    refine ⟨?_, hd.2, hle⟩
    have e : L.take (p + d) = L.take p ++ (L.drop p).take d := by rw [List.take_add]
    have hx : ∀ c ∈ (L.drop p).take d, 128 ≤ c.toNat := by
      intro c hc
      obtain ⟨j, hj, rfl⟩ := List.getElem_of_mem hc
      have hj2 : j < d := by simp at hj; omega
      have hb2 := hb j hj2
      have hjl : p + j < L.length := by omega
      have e3 : (bs L).get! (p + j) = L[p + j] := by
        have := get_at (bs L) (p + j) hb2.1
        rw [Nat.add_zero] at this
        rw [this, get_bs L (p + j) hjl hb2.1]
      rw [e3] at hb2
      simpa using hb2.2
    have hx0 : (L.drop p).take d ≠ [] := by
      intro e2
      have := congrArg List.length e2
      simp at this
      omega
    have hbad : badB (L.take (p + d)) = true := by
      rw [e, bad_app]
      have : badB ((L.drop p).take d) = true := by
        cases hxx : (L.drop p).take d with
        | nil => exact absurd hxx hx0
        | cons c x =>
          have := hx c (by rw [hxx]; simp)
          unfold badB
          rw [List.any_cons]
          have : oddB c = true := by unfold oddB; simp; omega
          rw [this]; rfl
      rw [this, Bool.or_true]
    rw [hbad, e]
    unfold lxF
    rw [List.foldl_append]
    exact h.high _ (by omega) _ hx hx0
theorem tk_len (R : Rg) (r : Int) : (rgTk R r).out.length ≤ R.out.length + 2 ∧ (rgTk R r).cur.length ≤ R.cur.length + 1 ∧ R.ln ≤ (rgTk R r).ln ∧ (rgTk R r).ln ≤ R.ln + 1 := by
  unfold rgTk rgGo rgNl rgWd enT wdT
  (repeat' split) <;> simp <;> omega
theorem LxZ.fin {R : Rg} {L : List UInt8} (h : LxZ R (lxF L) (badB L)) : (rgNl R).out.length = (tokL L).length ∧ (rgNl R).odd = badB L ∧ (badB L = false → (rgNl R).out = tokL L) := by
  have q := h.nl
  have e : (lxNl (lxF L)).note = false := rfl
  have q2 := q.no e
  rw [tokL_lx]
  exact ⟨q2.len, q.odd, fun e => (q2.eqs e).1⟩
end Go.Proofs.YteinjdmkmfeniaaGreatDoor
