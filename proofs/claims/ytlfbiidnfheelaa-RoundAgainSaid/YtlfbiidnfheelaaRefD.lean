/- Contracts of the plain answers of layer 1: sum, difference, order, ints. -/
import Derived.Test.YtlfbiidnfheelaaRefA
import Derived.Test.YtlfbiidnfheelaaRefB
import Derived.Test.YtlfbiidnfheelaaRefC
import Derived.WalkKit
import Derived.ProofKit
import Derived.OpenShut
import Derived.Handy
import Derived.Outline
import Derived.Lib.Hide
import Derived.Deep.RegionHeld3
import Derived.Deep.WholeRow
import Derived.Deep.DeepCutAuto
import Derived.Test.YtlfbiidnfheelaaLotP
namespace Go.Proofs.Ytlfbiidnfheelaa
set_option linter.unusedVariables false
open Go.ChangeShapes Go.WideShapes Go.ChangeAt Go.RowKit

def big (n : Nat) : Bool := decide (340282366920938463463374607431768211456 ≤ n)
theorem sm_add (A B : Nat) (hA : A < 340282366920938463463374607431768211456) (hB : B < 340282366920938463463374607431768211456) :
    hi (val (sm A.testBit B.testBit false) 128) = hi (A + B) ∧ lo (val (sm A.testBit B.testBit false) 128) = lo (A + B) ∧ cr A.testBit B.testBit false 128 = big (A + B) := by
  have h := sum_val A.testBit B.testBit false 128
  rw [val_testBit, val_testBit] at h
  have hs := val_lt (sm A.testBit B.testBit false) 128
  generalize val (sm A.testBit B.testBit false) 128 = s at *
  generalize cr A.testBit B.testBit false 128 = c at *
  unfold hi lo big
  cases c <;> simp at h <;> simp <;> omega

theorem there_new (W : World) (c : Nat → Bool) : (W.alloc (.cells (bv c) 89)).there W.heap.size 0 128 := fun j hj => by
  rw [Nat.zero_add, World.cell?_alloc_at _ _ _ _ rfl, World.frozen?_alloc_at _ _ _ _ rfl, bv_get c j hj]
  exact ⟨rfl, rfl⟩
theorem there_below {V w1 : World} (hb : Below V.heap.size V w1) : ∀ k, k < V.heap.size → V.there k 0 128 → w1.there k 0 128 := fun k hk h j hj => by
  obtain ⟨hc, hf⟩ := bcell hb
  rw [hc _ _ hk, hf _ _ hk]; exact h j hj
theorem there_keep {V w1 : World} {k : Nat} (hb : Below V.heap.size V w1) (h : V.there k 0 128) : w1.there k 0 128 := by
  have h0 := (h 0 (by omega)).1
  have hk : k < V.heap.size := by
    rcases Nat.lt_or_ge k V.heap.size with h1 | h1
    · exact h1
    · simp [World.cell?, Array.getElem?_eq_none h1] at h0
  exact there_below hb k hk h
theorem there_alloc {W w1 : World} {c : Nat → Bool} (hb : Below (W.alloc (.cells (bv c) 89)).heap.size (W.alloc (.cells (bv c) 89)) w1) : w1.there W.heap.size 0 128 := there_keep hb (there_new W c)
theorem there_allocd {W w1 : World} {c : Nat → Bool} (hb : Below (W.alloc (.cells (bv c) 89)).drew.heap.size (W.alloc (.cells (bv c) 89)).drew w1) : w1.there W.heap.size 0 128 := there_keep hb (by simpa using there_new W c)
theorem lt_below {V w1 : World} (hb : Below V.heap.size V w1) : ∀ k, k < V.heap.size → k < w1.heap.size := fun k hk => Nat.lt_of_lt_of_le hk hb.size
theorem keepS {W0 W w1 : World} (h : Below W0.heap.size W0 W) (hb : Below W.heap.size W w1) : Below W0.heap.size W0 w1 := h.trans (hb.mono h.size)
theorem keepA {W0 W : World} (h : Below W0.heap.size W0 W) (o : Obj) : Below W0.heap.size W0 (W.alloc o) := h.alloc h.size o
theorem cellS {W0 W w1 : World} {b o : Nat} {v : Value} (h : Below W0.heap.size W0 W) (hb : Below W.heap.size W w1) (hlt : b < W0.heap.size) (hc : W.cell? ⟨b, o, none⟩ = some v) : w1.cell? ⟨b, o, none⟩ = some v := by
  rw [hb.cell (p := ⟨b, o, none⟩) (Nat.lt_of_lt_of_le hlt h.size)]; exact hc
theorem cellA {W0 W : World} {b o : Nat} {v : Value} (h : Below W0.heap.size W0 W) (x : Obj) (hlt : b < W0.heap.size) (hc : W.cell? ⟨b, o, none⟩ = some v) : (W.alloc x).cell? ⟨b, o, none⟩ = some v :=
  cellS h ((Below.refl _ _).alloc (Nat.le_refl _) x) hlt hc

theorem keepAd {W0 W : World} (h : Below W0.heap.size W0 W) (o : Obj) : Below W0.heap.size W0 (W.alloc o).drew := (keepA h o).drew
theorem cellAd {W0 W : World} {b o : Nat} {v : Value} (h : Below W0.heap.size W0 W) (x : Obj) (hlt : b < W0.heap.size) (hc : W.cell? ⟨b, o, none⟩ = some v) : (W.alloc x).drew.cell? ⟨b, o, none⟩ = some v := by
  rw [World.cell?_drew]; exact cellA h x hlt hc
theorem heap_setCells (b : Nat) : ∀ (vs : List Value) (o : Nat) (w : World) (i : Nat), i ≠ b → (w.setCells b o vs).heap[i]? = w.heap[i]? := by
  intro vs
  induction vs with
  | nil => intro o w i _; rfl
  | cons v vs ih => intro o w i hi; simp only [World.setCells]; rw [ih _ _ _ hi]; exact Below.heap_setCell _ _ _ _ hi
theorem below_setCells (b : Nat) : ∀ (vs : List Value) (o : Nat) (w : World), Below b w (w.setCells b o vs) := by
  intro vs
  induction vs with
  | nil => intro o w; exact Below.refl _ _
  | cons v vs ih => intro o w; simp only [World.setCells]; exact ((Below.refl b w).setCell (by simp) _).trans (ih _ _)
theorem keepR {W0 W : World} {k : Nat} (h : Below W0.heap.size W0 W) (hk : W0.heap.size ≤ k) (c : List Value) : Below W0.heap.size W0 (W.setCells k 0 c) :=
  h.trans ((below_setCells k c 0 W).mono hk)
theorem cellR {W0 W : World} {k b o : Nat} {v : Value} (hk : W0.heap.size ≤ k) (c : List Value) (hlt : b < W0.heap.size) (hc : W.cell? ⟨b, o, none⟩ = some v) : (W.setCells k 0 c).cell? ⟨b, o, none⟩ = some v := by
  rw [← hc]
  have h1 := heap_setCells k c 0 W b (by omega)
  unfold World.cell?
  simp only [h1]
set_option maxHeartbeats 1000000 in
set_option maxRecDepth 100000 in
theorem refAdd_any (h1 l1 h2 l2 : Nat) (u1 : U h1) (v1 : U l1) (u2 : U h2) (v2 : U l2) (w : World) :
    Calls Try.prog 55 #[.agg #[.int .u64 h1, .int .u64 l1], .agg #[.int .u64 h2, .int .u64 l2]] w fun e w' => e = .returned (.tuple #[.agg #[.int .u64 (hi (num h1 l1 + num h2 l2)), .int .u64 (lo (num h1 l1 + num h2 l2))], .bool (big (num h1 l1 + num h2 l2))]) ∧ Below w.heap.size w w' := by
  have hsz := bv_size
  have htn := there_new
  have htd : ∀ (W : World) (c : Nat → Bool), (W.alloc (.cells (bv c) 89)).drew.there W.heap.size 0 128 := fun W c => by simpa using there_new W c
  have hsd : ∀ (W : World) (o : Obj), W.heap.size < (W.alloc o).drew.heap.size := fun W o => by simp
  have hsa : ∀ (W : World) (o : Obj), W.heap.size < (W.alloc o).heap.size := fun W o => by simp
  have hon : ∀ v ∈ (bv (sm (num h1 l1).testBit (num h2 l2).testBit false)).toList, v.oneCell' = true := fun v hv => (Array.all_eq_true_iff_forall_mem.1 (bv_one _)) v (by simpa using hv)
  have hlen : ∀ f, (bv f).toList.length = 128 := fun f => by simp [bv_size]
  have hib := infoBits
  have hz := zvBits
  go_enter Try.func55, Try.ntmps55
  refine wp_shut ?_
  go_upto_region 1 with fail
  obtain ⟨W0, hW0⟩ : ∃ W0, W0 = (((w.alloc (Obj.cells #[Value.int IntKind.u64 ↑h1, Value.int IntKind.u64 ↑l1] 24)).alloc (Obj.cells #[Value.int IntKind.u64 ↑h2, Value.int IntKind.u64 ↑l2] 24)).alloc (Obj.cells #[Value.int IntKind.u64 0, Value.int IntKind.u64 0] 24)) := ⟨_, rfl⟩
  have c1 : W0.cell? ⟨w.heap.size, 0, none⟩ = some (.int .u64 h1) := by rw [hW0]; simp [go_sem]
  have c2 : W0.cell? ⟨w.heap.size, 1, none⟩ = some (.int .u64 l1) := by rw [hW0]; simp [go_sem]
  have c3 : W0.cell? ⟨w.heap.size + 1, 0, none⟩ = some (.int .u64 h2) := by rw [hW0]; simp [go_sem]
  have c4 : W0.cell? ⟨w.heap.size + 1, 1, none⟩ = some (.int .u64 l2) := by rw [hW0]; simp [go_sem]
  have hR : W0.heap[w.heap.size + 1 + 1]? = some (.cells #[.int .u64 0, .int .u64 0] 24) := by rw [hW0]; simpa using heap_alloc_new ((w.alloc _).alloc _) (Obj.cells #[Value.int IntKind.u64 0, Value.int IntKind.u64 0] 24)
  have hs0 : w.heap.size + 2 < W0.heap.size := by rw [hW0]; simp
  have hB0 : Below w.heap.size w W0 := by rw [hW0]; exact below3 _ _ _ _
  rw [← hW0]
  clear hW0
  go_cut [6, 7] (fun s6 s7 wx => ∃ g : Nat, s6 = .pointer (some ⟨g, 0, none⟩) ∧ s7 = .bool (cr (num h1 l1).testBit (num h2 l2).testBit false 128) ∧ wx.rangeAt g 0 (bv (sm (num h1 l1).testBit (num h2 l2).testBit false)).toList ∧ Below W0.heap.size W0 wx)
  case first =>
    go_region_held3 (fun w' => Below W0.heap.size W0 w' ∧ w'.cell? ⟨w.heap.size, 0, none⟩ = some (.int .u64 h1) ∧ w'.cell? ⟨w.heap.size, 1, none⟩ = some (.int .u64 l1) ∧ w'.cell? ⟨w.heap.size + 1, 0, none⟩ = some (.int .u64 h2) ∧ w'.cell? ⟨w.heap.size + 1, 1, none⟩ = some (.int .u64 l2))
      (first
        | ((try go_split_ands); refine ⟨(Below.refl _ _).drew, ?_, ?_, ?_, ?_⟩ <;> assumption)
        | ((try go_split_ands); refine ⟨keepS (W0 := W0) ?_ hb1, cellS (W0 := W0) ?_ hb1 ?_ ?_, cellS (W0 := W0) ?_ hb1 ?_ ?_, cellS (W0 := W0) ?_ hb1 ?_ ?_, cellS (W0 := W0) ?_ hb1 ?_ ?_⟩ <;> first | assumption | omega)
        | ((try go_split_ands); refine ⟨keepA (W0 := W0) ?_ _, cellA (W0 := W0) ?_ _ ?_ ?_, cellA (W0 := W0) ?_ _ ?_ ?_, cellA (W0 := W0) ?_ _ ?_ ?_, cellA (W0 := W0) ?_ _ ?_ ?_⟩ <;> first | assumption | omega)
        | ((try go_split_ands); refine ⟨keepAd (W0 := W0) ?_ _, cellAd (W0 := W0) ?_ _ ?_ ?_, cellAd (W0 := W0) ?_ _ ?_ ?_, cellAd (W0 := W0) ?_ _ ?_ ?_, cellAd (W0 := W0) ?_ _ ?_ ?_⟩ <;> first | assumption | omega | exact Below.refl _ _)
        | ((try go_split_ands); refine ⟨keepR (W0 := W0) ?_ ?_ _, cellR (W0 := W0) ?_ _ ?_ ?_, cellR (W0 := W0) ?_ _ ?_ ?_, cellR (W0 := W0) ?_ _ ?_ ?_, cellR (W0 := W0) ?_ _ ?_ ?_⟩ <;> first | assumption | omega | exact Nat.le_refl _))
      (first | (go_at_call 62; refine (bits_any _ _ (by assumption) (by assumption) _).mono ?_; rintro e w1 ⟨rfl, hb1⟩; (try have hk := there_keep hb1 hk); (try have hk := there_alloc hb1); (try have hk := there_allocd hb1); (try go_split_ands); have hge : W0.heap.size ≤ w1.heap.size := by first | (refine (keepS (W0 := W0) ?_ hb1).size; assumption) | exact (hb1.size : W0.heap.size ≤ w1.heap.size)) | (go_at_call 61; refine (sum_any _ _ _ _).mono ?_; rintro e w1 ⟨rfl, hb1⟩; (try have hk := there_keep hb1 hk); (try have hk := there_alloc hb1); (try have hk := there_allocd hb1); (try go_split_ands); have hge : W0.heap.size ≤ w1.heap.size := by first | (refine (keepS (W0 := W0) ?_ hb1).size; assumption) | exact (hb1.size : W0.heap.size ≤ w1.heap.size)))
    all_goals (try go_split_ands)
    all_goals (go_wp2_with fail; go_meet; refine ⟨_, rfl, rfl, World.rangeAt_setCells_same _ _ _ _ ?_, ?_⟩)
    all_goals first | assumption | (rw [hlen]; assumption) | (rw [hlen]; exact there_new _ _)
  case rest =>
    obtain ⟨g, rfl, rfl, hr, hb⟩ := hcut
    clear c1 c2 c3 c4 htn htd hsd hsa
    have h4 : wc.heap[w.heap.size + 1 + 1]? = some (.cells #[.int .u64 0, .int .u64 0] 24) := by rw [hb.block _ (by omega)]; exact hR
    go_wp2_with (refine wpList_load_mid (by rfl) 89 (.tmp 6) (by rfl) g 0 (by rfl) (bv (sm (num h1 l1).testBit (num h2 l2).testBit false)).toList _ hr Try.underlying89 (by rfl) (by rw [hib, hlen]) ?_)
    refine (wide_any _ _).mono ?_
    rintro e w2 ⟨rfl, hb2⟩
    have h4' : w2.heap[w.heap.size + 1 + 1]? = some (.cells #[.int .u64 0, .int .u64 0] 24) := by
      rw [hb2.block _ (by have := hb.size; omega)]; exact h4
    have hcell : ∀ o, w2.cell? ⟨w.heap.size + 1 + 1, o, none⟩ = #[Value.int .u64 0, .int .u64 0][o]? := fun o => cell_of_row _ _ _ _ _ _ h4'
    have k0 : w2.cell? ⟨w.heap.size + 1 + 1, 0, none⟩ = some (.int .u64 0) := hcell 0
    have k1 : w2.cell? ⟨w.heap.size + 1 + 1, 1, none⟩ = some (.int .u64 0) := hcell 1
    have kf : ∀ o, w2.frozen? ⟨w.heap.size + 1 + 1, o, none⟩ = false := fun o => by simp [World.frozen?, h4']
    have kf0 := kf 0
    have kf1 := kf 1
    have HB := Lib.hid (keepS hb hb2)
    obtain ⟨e1, e2, e3⟩ := sm_add _ _ (num_lt u1 v1) (num_lt u2 v2)
    have E1 := Lib.hid e1; have E2 := Lib.hid e2; have E3 := Lib.hid e3
    clear e1 e2 e3 hcell kf h4 h4' hb hb2 hr hz hsz hib hlen hR
    go_wp2
    refine shut_ret (v := .tuple #[.agg #[.int .u64 (hi (num h1 l1 + num h2 l2)), .int .u64 (lo (num h1 l1 + num h2 l2))], .bool (big (num h1 l1 + num h2 l2))]) (by simp [results, Try.results55, go_sem, k0, k1, E1.out, E2.out, E3.out]) rfl ⟨rfl, ?_⟩
    exact ((hB0.trans (HB.out.mono (by omega))).setCell (by show w.heap.size ≤ w.heap.size + 1 + 1; omega) _).setCell (by show w.heap.size ≤ w.heap.size + 1 + 1; omega) _
end Go.Proofs.Ytlfbiidnfheelaa
