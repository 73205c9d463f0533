/- Several texts in one: LisA, LexA, LexB, LexE. -/
import Derived.Test.YtafecnlaodgmkaaGreatDoorRows
import Derived.WalkKit
import Derived.ProofKit
import Derived.OpenShut
import Derived.Handy
import Derived.Outline
import Derived.Lib.Hide
import Derived.Below
import Derived.OwnWalk
import Derived.Laws.OwnMore
import Derived.Deep.AppendLies
import Derived.Laws.Strings
import Derived.Laws.Strings2
import Derived.Laws.Slices
namespace Go.Proofs.YtafecnlaodgmkaaGreatDoor
set_option linter.unusedVariables false
open Go.ChangeShapes Go.WideShapes Go.ChangeAt Go.RowKit
def Lies (w : World) (g : Nat) (xs : List Value) : Prop := ∀ j u, xs[j]? = some u → w.cell? ⟨g, j, none⟩ = some u
theorem Lies.keep {w w' : World} {g : Nat} {xs : List Value} (h : Lies w g xs) (hb : w'.heap[g]? = w.heap[g]?) : Lies w' g xs :=
  fun j u hu => (World.cell?_of_block (a := ⟨g, j, none⟩) hb).trans (h j u hu)
theorem Lies.below {w w' : World} {g B : Nat} {xs : List Value} (h : Lies w g xs) (hb : Below B w w') (hg : g < B) : Lies w' g xs := h.keep (hb.block g hg)
theorem own_form {w : World} {base : Nat} {e : TypeId} {size : Nat} {v : Value} {n : Nat} {xs : List Value} (h : w.ownsRow base e size v n xs) :
    ∃ A c g, v = .slice A n c ∧ Lies w g xs ∧ (0 < n → A = some ⟨g, 0, none⟩ ∧ base ≤ g ∧ g < w.heap.size) ∧ (n = 0 → A = none ∨ A = some ⟨g, 0, none⟩) := by
  rcases h.2 with ⟨rfl, hn⟩ | ⟨g, cap, cur, rfl, hb, hg, hnc, hcm, hcs, htake⟩
  · subst hn
    exact ⟨none, 0, 0, rfl, fun j u hu => (by have := h.1; simp at this; subst this; simp at hu), fun h0 => absurd h0 (by omega), fun _ => .inl rfl⟩
  · refine ⟨_, cap, g, rfl, fun j u hu => ?_, fun _ => ⟨rfl, hb, (Array.getElem?_eq_some_iff.1 hg).1⟩, fun _ => .inr rfl⟩
    rw [cell_of_row w g j cur e (0, 0) hg]
    rw [← htake, List.getElem?_take] at hu
    split at hu
    · simpa using hu
    · cases hu
theorem own_up {w w' : World} {base : Nat} {e : TypeId} {size : Nat} {v : Value} {n : Nat} {xs : List Value} (h : w.ownsRow base e size v n xs) (hb : Below w.heap.size w w') : w'.ownsRow base e size v n xs := by
  refine ⟨h.1, ?_⟩
  rcases h.2 with hn | ⟨g, cap, cur, rfl, hbg, hg, rest⟩
  · exact .inl hn
  · exact .inr ⟨g, cap, cur, rfl, hbg, (hb.block g (Array.getElem?_eq_some_iff.1 hg).1).trans hg, rest⟩
theorem news1 (w : World) (t : TypeId) (u : Value) : ∀ j x, [u][j]? = some x → (w.alloc (.cells #[u] t)).cell? ((⟨w.heap.size, 0, none⟩ : Addr).add j) = some x :=
  World.news_of_block (w := w.alloc (.cells #[u] t)) (cs := #[u]) (heap_alloc_new w _)
theorem one1 {u : Value} (h : u.oneCell' = true) : ∀ x ∈ [u], x.oneCell' = true := fun x hx => by rw [List.mem_singleton.1 hx]; exact h
theorem bel_append {w wr w1 : World} {base : Nat} {e : TypeId} {size : Nat} {v : Value} {n : Nat} {xs : List Value} {o : Obj} (hb : Below base w wr) (hw : base ≤ wr.heap.size) (hown : wr.ownsRow base e size v n xs) (hg : (wr.alloc o).grownBy w1 v.ownBlock) : Below base w w1 :=
  (hb.alloc hw o).grown hg (by rw [show (wr.alloc o).heap.size = wr.heap.size + 1 by simp]; omega) (fun k hk => (hown.lt k hk).1)
theorem news2 (w : World) (t : TypeId) (a b : Value) : ∀ j x, [a, b][j]? = some x → (w.alloc (.cells #[a, b] t)).cell? ((⟨w.heap.size, 0, none⟩ : Addr).add j) = some x :=
  World.news_of_block (w := w.alloc (.cells #[a, b] t)) (cs := #[a, b]) (heap_alloc_new w _)
theorem one2 {a b : Value} (ha : a.oneCell' = true) (hb : b.oneCell' = true) : ∀ x ∈ [a, b], x.oneCell' = true := fun x hx => by
  rcases List.mem_cons.1 hx with rfl | hx
  · exact ha
  · rw [List.mem_singleton.1 hx]; exact hb
theorem app_keep {wr w1 : World} {o : Obj} {v : Value} {g2 : Nat} (hg : (wr.alloc o).grownBy w1 v.ownBlock) (h2 : g2 < wr.heap.size) (hne : v.ownBlock ≠ some g2) : w1.heap[g2]? = wr.heap[g2]? := by
  rw [hg.block g2 (by simp; omega) (fun e => hne e.symm)]
  exact heap_alloc_old wr o h2
theorem app_ne {wr : World} {o : Obj} {v : Value} {g g2 : Nat} (hat : v.ownBlock = some g ∨ g = (wr.alloc o).heap.size) (h2 : g2 < wr.heap.size) (hne : v.ownBlock ≠ some g2) : g ≠ g2 := by
  rcases hat with h | h
  · intro e; subst e; exact hne h
  · have : (wr.alloc o).heap.size = wr.heap.size + 1 := by simp
    omega
end Go.Proofs.YtafecnlaodgmkaaGreatDoor
namespace Go.Proofs.YtafecnlaodgmkaaGreatDoor
set_option linter.unusedVariables false
open Go.ChangeShapes Go.WideShapes Go.ChangeAt Go.RowKit
@[irreducible] def bs (l : List UInt8) : ByteArray := ⟨l.toArray⟩
theorem bs_toList (l : List UInt8) : (bs l).data.toList = l := by unfold bs; simp
theorem bs_list (l : List UInt8) : (bs l).toList = l := by rw [ByteArray.toList_eq]; exact bs_toList l
theorem bs_of (s : ByteArray) : bs s.data.toList = s := by unfold bs; simp
theorem bs_size (l : List UInt8) : (bs l).size = l.length := by unfold bs; simp [ByteArray.size]
theorem extract_bs (s : ByteArray) (a k : Nat) : s.extract a k = bs ((s.data.toList.take k).drop a) := by
  apply ByteArray.ext
  unfold bs
  rw [ByteArray.data_extract]
  apply Array.ext'
  simp [Array.toList_extract, List.extract_eq_take_drop, List.drop_take]
theorem append_bs (a b : List UInt8) : bs a ++ bs b = bs (a ++ b) := by
  apply ByteArray.ext
  unfold bs
  rw [ByteArray.data_append]
  simp
theorem snocInd {α : Type} {P : List α → Prop} (h0 : P []) (h : ∀ l c, P l → P (l ++ [c])) (l : List α) : P l := by
  have key : ∀ r : List α, P r.reverse := by
    intro r
    induction r with
    | nil => exact h0
    | cons c r ih => rw [List.reverse_cons]; exact h _ _ ih
  have := key l.reverse
  rwa [List.reverse_reverse] at this
theorem get_of_toList (s : ByteArray) (k : Nat) (h' : k < s.size) (h : k < s.data.toList.length) : s[k] = s.data.toList[k] := by simp [ByteArray.getElem_eq_getElem_data]
theorem get_bs (L : List UInt8) (k : Nat) (h : k < L.length) (h' : k < (bs L).size) : (bs L)[k] = L[k] := by
  have e : (bs L).data.toList = L := bs_toList L
  rw [get_of_toList (bs L) k h' (by rw [e]; exact h)]
  congr 1
theorem byte_bs (L : List UInt8) (k : Nat) (h : k < L.length) (h' : k < (bs L).size) {c : Nat} (hc : L[k].toNat = c) : ((bs L)[k]'h').toNat = c := by rw [get_bs L k h h']; exact hc
def lnStep (x : List (List UInt8) × List UInt8) (c : UInt8) : List (List UInt8) × List UInt8 := if c.toNat = 10 then (x.1 ++ [x.2], []) else (x.1, x.2 ++ [c])
def lnF (l : List UInt8) : List (List UInt8) × List UInt8 := l.foldl lnStep ([], [])
theorem lnF_snoc (l : List UInt8) (c : UInt8) : lnF (l ++ [c]) = lnStep (lnF l) c := by unfold lnF; rw [List.foldl_append]; rfl
theorem take_snoc {l : List UInt8} {k : Nat} (h : k < l.length) : l.take (k + 1) = l.take k ++ [l[k]] := List.take_succ_eq_append_getElem h
theorem lnF_no {l : List UInt8} {c : UInt8} (h : c.toNat ≠ 10) : lnF (l ++ [c]) = ((lnF l).1, (lnF l).2 ++ [c]) := by rw [lnF_snoc]; exact if_neg h
def ahead (l : List UInt8) : List UInt8 := l.takeWhile (fun c => c.toNat != 35)
theorem slice_from (L : List UInt8) (a : Nat) (ha : a ≤ L.length) {A : Int} (hA : A = (a : Int)) (W : World) :
    (Instr.slice 9 (.string (bs L)) (some (.int .i64 A)) none none).run Tryz.prog W = .ok (.string (bs (L.drop a))) W := by
  subst hA
  rw [run_slice_string_l W 9 (bs L) Tryz.underlying9 .i64 a (by omega) (by rw [bs_size]; omega)]
  rw [extract_bs, bs_toList, bs_size, List.take_length]
  rfl
theorem slice_upto (L : List UInt8) (b : Nat) (hb : b ≤ L.length) {B : Int} (hB : B = (b : Int)) (W : World) :
    (Instr.slice 9 (.string (bs L)) none (some (.int .i64 B)) none).run Tryz.prog W = .ok (.string (bs (L.take b))) W := by
  subst hB
  rw [run_slice_string_h W 9 (bs L) Tryz.underlying9 .i64 b (by omega) (by rw [bs_size]; omega)]
  rw [extract_bs, bs_toList]
  rfl
end Go.Proofs.YtafecnlaodgmkaaGreatDoor
namespace Go.Proofs.YtafecnlaodgmkaaGreatDoor
set_option linter.unusedVariables false
set_option linter.unusedSimpArgs false
open Go.ChangeShapes Go.WideShapes Go.ChangeAt Go.RowKit
def strV (t : List UInt8) : Value := .string (bs t)
structure LnR (L : List UInt8) (w wr : World) (k a : Nat) (v : Value) : Prop where
  own : wr.ownsRow w.heap.size 9 1 v (lnF (L.take k)).1.length ((lnF (L.take k)).1.map strV)
  cur : (lnF (L.take k)).2 = (L.take k).drop a
  bel : Below w.heap.size w wr
theorem LnR.no {L : List UInt8} {w wr : World} {k a : Nat} {v : Value} (h : LnR L w wr k a v) (hk : k < L.length) (ha : a ≤ k) (h10 : L[k].toNat ≠ 10) : LnR L w wr (k + 1) a v := by
  have e : L.take (k + 1) = L.take k ++ [L[k]] := take_snoc hk
  refine ⟨?_, ?_, h.bel⟩
  · rw [e, lnF_no h10]; exact h.own
  · rw [e, lnF_no h10, List.drop_append_of_le_length (by simp; omega), ← h.cur]
end Go.Proofs.YtafecnlaodgmkaaGreatDoor
namespace Go.Proofs.YtafecnlaodgmkaaGreatDoor
set_option linter.unusedVariables false
set_option linter.unusedSimpArgs false
open Go.ChangeShapes Go.WideShapes Go.ChangeAt Go.RowKit
def Rd (w : World) (A : Option Addr) (xs : List Value) : Prop := ∀ j u, xs[j]? = some u → ∃ b o, A = some ⟨b, o, none⟩ ∧ b < w.heap.size ∧ w.cell? ⟨b, o + j, none⟩ = some u
theorem Rd.below {w w' : World} {A : Option Addr} {xs : List Value} {B : Nat} (h : Rd w A xs) (hb : Below B w w') (hB : w.heap.size ≤ B) : Rd w' A xs := fun j u hu => by
  obtain ⟨b, o, h1, h2, h3⟩ := h j u hu
  exact ⟨b, o, h1, Nat.lt_of_lt_of_le h2 hb.size, (hb.cell (p := ⟨b, o + j, none⟩) (by show b < B; omega)).trans h3⟩
theorem Rd.own {w : World} {base : Nat} {e : TypeId} {size : Nat} {A : Option Addr} {n m c : Nat} {xs : List Value} (h : w.ownsRow base e size (.slice A m c) n xs) : Rd w A xs := fun j u hu => by
  obtain ⟨A', c', g, hv, hl, hA, _⟩ := own_form h
  have hn : 0 < n := by
    have h1 := h.1
    rcases Nat.eq_zero_or_pos n with h0 | h0
    · subst h0
      rw [Nat.zero_mul] at h1
      rw [List.length_eq_zero_iff] at h1
      subst h1
      simp at hu
    · exact h0
  obtain ⟨h1, h2, h3⟩ := hA hn
  obtain ⟨rfl, rfl, rfl⟩ : A = A' ∧ m = n ∧ c = c' := by simpa using hv
  exact ⟨g, 0, h1, h3, by rw [Nat.zero_add]; exact hl j u hu⟩
theorem Rd.at_ {w : World} {A : Option Addr} {xs : List Value} (h : Rd w A xs) {b o : Nat} (hA : A = some ⟨b, o, none⟩) {j : Nat} {u : Value} (hu : xs[j]? = some u) : w.cell? ⟨b, o + j, none⟩ = some u := by
  obtain ⟨b', o', h1, h2, h3⟩ := h j u hu
  rw [hA] at h1
  obtain ⟨rfl, rfl⟩ : b = b' ∧ o = o' := by simpa using h1
  exact h3
end Go.Proofs.YtafecnlaodgmkaaGreatDoor
