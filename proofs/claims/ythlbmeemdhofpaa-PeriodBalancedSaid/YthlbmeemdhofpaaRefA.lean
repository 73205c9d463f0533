/- Contracts of the plain answers of layer 1: rows of bits, their sum, and what stands on them. -/
import Derived.Test.YthlbmeemdhofpaaRows
import Derived.Test.YthlbmeemdhofpaaLotP
import Derived.WalkKit
import Derived.ProofKit
import Derived.OpenShut
import Derived.Handy
import Derived.Outline
import Derived.Lib.Hide
import Derived.Laws.Rows
import Derived.Deep.WholeRow
namespace Go.Proofs.Ythlbmeemdhofpaa
set_option linter.unusedVariables false
open Go.ChangeShapes Go.WideShapes Go.ChangeAt Go.RowKit

theorem bcell {W w1 : World} (hb : Below W.heap.size W w1) : (∀ b o, b < W.heap.size → w1.cell? ⟨b, o, none⟩ = W.cell? ⟨b, o, none⟩) ∧ (∀ b o, b < W.heap.size → w1.frozen? ⟨b, o, none⟩ = W.frozen? ⟨b, o, none⟩) :=
  ⟨fun b o h => hb.cell (p := ⟨b, o, none⟩) h, fun b o h => hb.frozen (p := ⟨b, o, none⟩) h⟩

theorem zvBits (w : World) : (zeroValue 74).run Try.prog w = .ok (.agg (bv fun _ => false)) w := by kernel_rfl
theorem infoBits : (Try.prog.info? 74).map (·.size) = some 128 := by kernel_rfl

theorem World.setRow_past (w : World) (o : Obj) (n : Nat) (c : Array Value) (hn : n < w.heap.size) : (w.alloc o).setRow n c = (w.setRow n c).alloc o := by
  simp only [World.setRow, World.alloc]
  congr 1
  apply Array.ext_getElem?
  intro i
  by_cases h : n = i
  · subst h; simp [Array.getElem?_push, Array.getElem?_modify, show ¬ n = w.heap.size by omega]
  · simp [Array.getElem?_push, Array.getElem?_modify, h]
theorem setRow_mid (w : World) (A C : Obj) (c c' : Array Value) (t : TypeId) : (((w.alloc A).alloc (.cells c t)).alloc C).setRow (w.heap.size + 1) c' = ((w.alloc A).alloc (.cells c' t)).alloc C := by
  rw [World.setRow_past _ _ _ _ (by simp)]
  have := World.setRow_alloc_new (w.alloc A) c c' t
  rw [World.size_alloc] at this
  rw [this]
theorem setRow_last (w : World) (A : Obj) (c c' : Array Value) (t : TypeId) : ((w.alloc A).alloc (.cells c t)).setRow (w.heap.size + 1) c' = (w.alloc A).alloc (.cells c' t) := by
  have := World.setRow_alloc_new (w.alloc A) c c' t
  rw [World.size_alloc] at this
  rw [this]
theorem setRow_third (w : World) (A B D : Obj) (c c' : Array Value) (t : TypeId) : ((((w.alloc A).alloc B).alloc (.cells c t)).alloc D).setRow (w.heap.size + 1 + 1) c' = (((w.alloc A).alloc B).alloc (.cells c' t)).alloc D := by
  have := setRow_mid (w.alloc A) B D c c' t
  rw [World.size_alloc] at this
  rw [this]
theorem below2 (w : World) (o1 o2 : Obj) : Below w.heap.size w ((w.alloc o1).alloc o2) :=
  ((Below.refl _ _).alloc (Nat.le_refl _) o1).alloc (by simp) o2
theorem below4 (w : World) (o1 o2 o3 o4 : Obj) : Below w.heap.size w ((((w.alloc o1).alloc o2).alloc o3).alloc o4) :=
  ((((Below.refl _ _).alloc (Nat.le_refl _) o1).alloc (by simp) o2).alloc (by simp; omega) o3).alloc (by simp; omega) o4
theorem below3 (w : World) (o1 o2 o3 : Obj) : Below w.heap.size w (((w.alloc o1).alloc o2).alloc o3) :=
  (((Below.refl _ _).alloc (Nat.le_refl _) o1).alloc (by simp) o2).alloc (by simp; omega) o3
theorem bv_one (f : Nat → Bool) : (bv f).all (·.oneCell') = true := by
  rw [Array.all_eq_true]
  intro i hi
  have := bv_get f i (by rw [bv_size] at hi; exact hi)
  rw [Array.getElem?_eq_getElem hi] at this
  simp at this
  rw [this]; rfl
theorem infoBv (f : Nat → Bool) : (Try.prog.info? 74).map (·.size) = some (bv f).size := by rw [infoBits, bv_size]

/-- The bits of a number while they are laid: after i rounds. -/
def laid (h l i : Nat) : Nat → Bool := fun k => if k < 64 then decide (k < i) && l.testBit k else decide (k - 64 < i) && h.testBit (k - 64)
theorem laid_zero (h l : Nat) : laid h l 0 = fun _ => false := by funext k; simp [laid]
theorem laid_succ (h l i : Nat) (hi : i < 64) : upd (upd (laid h l i) i (l.testBit i)) (64 + i) (h.testBit i) = laid h l (i + 1) := by
  funext k
  simp only [upd, laid]
  by_cases h1 : k = 64 + i
  · subst h1; simp; omega
  · by_cases h2 : k = i
    · subst h2; simp [hi]
    · rw [if_neg h1, if_neg h2]
      split
      · rw [show decide (k < i) = decide (k < i + 1) by rw [decide_eq_decide]; omega]
      · rw [show decide (k - 64 < i) = decide (k - 64 < i + 1) by rw [decide_eq_decide]; omega]
theorem laid_end (h l : Nat) (hl : U l) : bv (laid h l 64) = bv (num h l).testBit := by
  apply bv_congr
  intro k hk
  unfold U at *
  have e : num h l = 2 ^ 64 * h + l := by unfold num; omega
  rw [e]
  unfold laid
  by_cases h1 : k < 64
  · simp [h1, Nat.testBit_two_pow_mul_add h (show l < 2 ^ 64 by omega)]
  · simp [h1, Nat.testBit_two_pow_mul_add h (show l < 2 ^ 64 by omega)]
    intro h2; omega

set_option maxHeartbeats 400000 in
set_option maxRecDepth 100000 in
theorem bits_any (h l : Nat) (hh : U h) (hl : U l) (w : World) : Calls Try.prog 53 #[.agg #[.int .u64 h, .int .u64 l]] w fun e w' => e = .returned (.agg (bv (num h l).testBit)) ∧ Below w.heap.size w w' := by
  have hz := zvBits
  have hs := bv_set
  have HE := Lib.hid (laid_end h l hl)
  have H0 := Lib.hid (laid_zero h l)
  go_enter Try.func53, Try.ntmps53
  refine wp_shut ?_
  go_wp2
  clear hz
  go_loopw [4] (fun s wr => ∃ i : Nat, i ≤ 64 ∧ s = .int .i64 i ∧ wr = ((w.alloc (Obj.cells #[Value.int IntKind.u64 ↑h, Value.int IntKind.u64 ↑l] 60)).alloc (Obj.cells (bv fun x => false) 74)).alloc (Obj.cells (bv (laid h l i)) 74)) (fun s _ => 64 - (intOf s).toNat)
  case atStart => exact ⟨0, by omega, rfl, by rw [H0.out]⟩
  case round =>
    obtain ⟨i, hi, rfl, rfl⟩ := hrel
    by_cases hlt : i < 64
    · have HS := Lib.hid (laid_succ h l i hlt)
      generalize laid h l i = f at *
      have g1 := bv_get f i (by omega)
      have g2 := fun b => bv_get (upd f i b) (64 + i) (by omega)
      have t1 := bit_test l i hl
      have t2 := bit_test h i hh
      go_wp2
      go_roundw
      case rel => exact ⟨i + 1, by omega, by go_num, by rw [HS.out]⟩
      case measure => simp [intOf]; omega
    · obtain rfl : i = 64 := by omega
      rw [HE.out]
      obtain ⟨f, HF⟩ : ∃ f, Hid ((num h l).testBit = f) := ⟨_, rfl⟩
      rw [HF.out]
      have hg1 : (((w.alloc (Obj.cells #[Value.int IntKind.u64 ↑h, Value.int IntKind.u64 ↑l] 60)).alloc (Obj.cells (bv fun x => false) 74)).alloc (Obj.cells (bv f) 74)).heap[w.heap.size + 1 + 1]? = some (.cells (bv f) 74) := by
        simpa using heap_alloc_new ((w.alloc (Obj.cells #[Value.int IntKind.u64 ↑h, Value.int IntKind.u64 ↑l] 60)).alloc (Obj.cells (bv fun x => false) 74)) (Obj.cells (bv f) 74)
      have hg2 : (((w.alloc (Obj.cells #[Value.int IntKind.u64 ↑h, Value.int IntKind.u64 ↑l] 60)).alloc (Obj.cells (bv fun x => false) 74)).alloc (Obj.cells (bv f) 74)).heap[w.heap.size + 1]? = some (.cells (bv fun x => false) 74) := by
        simpa using heap_alloc2_old (w.alloc (Obj.cells #[Value.int IntKind.u64 ↑h, Value.int IntKind.u64 ↑l] 60)) (Obj.cells (bv fun x => false) 74) (Obj.cells (bv f) 74)
      go_wp2_with (first | (refine wpList_load_row (by rfl) 74 (.tmp 3) (by rfl) (w.heap.size + 1 + 1) (by rfl) 74 (bv f) (0, 0) _ hg1 Try.underlying74 (by rfl) (infoBv f) ?_) | (refine wpList_store_row (by rfl) 74 (.tmp 2) (.tmp 28) (by rfl) (w.heap.size + 1) (bv f) (by rfl) (by rfl) 74 (bv fun _ => false) hg2 (infoBv f) (by rw [bv_size, bv_size]) (bv_one f) ?_; rw [setRow_mid]; clear hg1 hg2 hs))
      exact shut_ret (results_cell_row rfl _ _ (w.heap.size + 1) 74 (bv f) (0, 0) _ rfl (by simpa using heap_alloc2_old (w.alloc _) (Obj.cells (bv f) 74) (Obj.cells (bv f) 74)) Try.underlying74 rfl (infoBv f)) rfl ⟨by rw [← HF.out], below3 _ _ _ _⟩

/-- The bits turned while they are turned in place. -/
def turnd (f : Nat → Bool) (i : Nat) : Nat → Bool := fun k => if k < i then !f k else f k
theorem turnd_zero (f : Nat → Bool) : turnd f 0 = f := by funext k; simp [turnd]
theorem turnd_at (f : Nat → Bool) (i : Nat) : turnd f i i = f i := by simp [turnd]
theorem turnd_succ (f : Nat → Bool) (i : Nat) : upd (turnd f i) i (!f i) = turnd f (i + 1) := by
  funext k
  simp only [upd, turnd]
  by_cases h2 : k = i
  · subst h2; simp
  · rw [if_neg h2]
    by_cases h3 : k < i
    · rw [if_pos h3, if_pos (by omega)]
    · rw [if_neg h3, if_neg (by omega)]
theorem turnd_end (f : Nat → Bool) : bv (turnd f 128) = bv fun k => !f k := bv_congr fun k hk => by simp [turnd, hk]

set_option maxHeartbeats 400000 in
set_option maxRecDepth 100000 in
theorem turned_any (f : Nat → Bool) (w : World) : Calls Try.prog 54 #[.agg (bv f)] w fun e w' => e = .returned (.agg (bv fun k => !f k)) ∧ Below w.heap.size w w' := by
  have hz := zvBits
  have hs := bv_set
  have HE := Lib.hid (turnd_end f)
  have H0 := Lib.hid (turnd_zero f)
  go_enter Try.func54, Try.ntmps54
  refine wp_shut ?_
  go_wp2
  clear hz
  go_loopw [3] (fun s wr => ∃ i : Nat, i ≤ 128 ∧ s = .int .i64 i ∧ wr = ((w.alloc (Obj.cells (bv (turnd f i)) 74)).alloc (Obj.cells (bv fun x => false) 74))) (fun s _ => 128 - (intOf s).toNat)
  case atStart => exact ⟨0, by omega, rfl, by rw [H0.out]⟩
  case round =>
    obtain ⟨i, hi, rfl, rfl⟩ := hrel
    by_cases hlt : i < 128
    · have HS := Lib.hid (turnd_succ f i)
      have ga := turnd_at f i
      have g1 := bv_get (turnd f i) i (by omega)
      rw [ga] at g1
      clear ga
      generalize turnd f i = t at *
      go_wp2
      go_roundw
      case rel => exact ⟨i + 1, by omega, by go_num, by rw [HS.out]⟩
      case measure => simp [intOf]; omega
    · obtain rfl : i = 128 := by omega
      rw [HE.out]
      obtain ⟨g, HF⟩ : ∃ g, Hid ((fun k => !f k) = g) := ⟨_, rfl⟩
      rw [HF.out]
      have hg1 : ((w.alloc (Obj.cells (bv g) 74)).alloc (Obj.cells (bv fun x => false) 74)).heap[w.heap.size]? = some (.cells (bv g) 74) := by
        simpa using heap_alloc2_old w (Obj.cells (bv g) 74) (Obj.cells (bv fun x => false) 74)
      have hg2 : ((w.alloc (Obj.cells (bv g) 74)).alloc (Obj.cells (bv fun x => false) 74)).heap[w.heap.size + 1]? = some (.cells (bv fun x => false) 74) := by
        simpa using heap_alloc_new (w.alloc (Obj.cells (bv g) 74)) (Obj.cells (bv fun x => false) 74)
      go_wp2_with (first | (refine wpList_load_row (by rfl) 74 (.tmp 1) (by rfl) w.heap.size (by rfl) 74 (bv g) (0, 0) _ hg1 Try.underlying74 (by rfl) (infoBv g) ?_) | (refine wpList_store_row (by rfl) 74 (.tmp 2) (.tmp 14) (by rfl) (w.heap.size + 1) (bv g) (by rfl) (by rfl) 74 (bv fun _ => false) hg2 (infoBv g) (by rw [bv_size, bv_size]) (bv_one g) ?_; rw [setRow_last]; clear hg1 hg2 hs))
      exact shut_ret (results_cell_row rfl _ _ (w.heap.size + 1) 74 (bv g) (0, 0) _ rfl (by simpa using heap_alloc_new (w.alloc (Obj.cells (bv g) 74)) (Obj.cells (bv g) 74)) Try.underlying74 rfl (infoBv g)) rfl ⟨by rw [← HF.out], below2 _ _ _⟩

theorem results_cell_row2 {P : Program} {fn : Func} {p q : Tmp} {ty : TypeId} (h : fn.results = #[.cell p ty, .tmp q]) (tmps : Array Value) (w : World) (g : Nat) (t : TypeId) (cs : Array Value) (fr : Nat × Nat) (d : TypeDesc)
    (hp : tmps.getD p undef = .pointer (some ⟨g, 0, none⟩)) (hg : w.heap[g]? = some (.cells cs t fr))
    (hu : P.underlying ty = some d) (hd : (match d with | .struct _ | .array _ _ => true | _ => false) = true) (hi : (P.info? ty).map (·.size) = some cs.size) :
    (results fn tmps).run P w = .ok (.tuple #[.agg cs, tmps.getD q undef]) w := by
  have hp' : tmps[p]?.getD undef = .pointer (some ⟨g, 0, none⟩) := by simpa using hp
  simp [results, h, hp', asAddr, run_loadVar_row w g t ty cs fr d hg hu hd hi]
end Go.Proofs.Ythlbmeemdhofpaa
