/- Contracts of the plain answers of layer 1: difference. -/
import Derived.Test.YthlbmeemdhofpaaRefD
import Derived.WalkKit
import Derived.ProofKit
import Derived.OpenShut
import Derived.Handy
import Derived.Outline
import Derived.Lib.Hide
import Derived.Deep.RegionHeld3
import Derived.Deep.WholeRow
import Derived.Deep.DeepCutAuto
import Derived.Test.YthlbmeemdhofpaaLotP
namespace Go.Proofs.Ythlbmeemdhofpaa
set_option linter.unusedVariables false
open Go.ChangeShapes Go.WideShapes Go.ChangeAt Go.RowKit

theorem sm_sub (A B : Nat) (hA : A < 340282366920938463463374607431768211456) (hB : B < 340282366920938463463374607431768211456) :
    hi (val (sm A.testBit (fun k => !B.testBit k) true) 128) = hi (A + 340282366920938463463374607431768211456 - B) ∧ lo (val (sm A.testBit (fun k => !B.testBit k) true) 128) = lo (A + 340282366920938463463374607431768211456 - B) ∧ cr A.testBit (fun k => !B.testBit k) true 128 = !decide (A < B) := by
  have h := sum_val A.testBit (fun k => !B.testBit k) true 128
  have hn := val_not B.testBit 128
  rw [val_testBit] at h hn
  have hs := val_lt (sm A.testBit (fun k => !B.testBit k) true) 128
  generalize val (sm A.testBit (fun k => !B.testBit k) true) 128 = s at *
  generalize cr A.testBit (fun k => !B.testBit k) true 128 = c at *
  generalize val (fun k => !B.testBit k) 128 = t at *
  unfold hi lo
  cases c <;> simp at h <;> simp <;> omega

set_option maxHeartbeats 1000000 in
set_option maxRecDepth 100000 in
theorem refSub_any (h1 l1 h2 l2 : Nat) (u1 : U h1) (v1 : U l1) (u2 : U h2) (v2 : U l2) (w : World) :
    Calls Try.prog 52 #[.agg #[.int .u64 h1, .int .u64 l1], .agg #[.int .u64 h2, .int .u64 l2]] w fun e w' => e = .returned (.tuple #[.agg #[.int .u64 (hi (num h1 l1 + 340282366920938463463374607431768211456 - num h2 l2)), .int .u64 (lo (num h1 l1 + 340282366920938463463374607431768211456 - num h2 l2))], .bool (decide (num h1 l1 < num h2 l2))]) ∧ Below w.heap.size w w' := by
  have hsz := bv_size
  have htn := there_new
  have htd : ∀ (W : World) (c : Nat → Bool), (W.alloc (.cells (bv c) 74)).drew.there W.heap.size 0 128 := fun W c => by simpa using there_new W c
  have hsd : ∀ (W : World) (o : Obj), W.heap.size < (W.alloc o).drew.heap.size := fun W o => by simp
  have hsa : ∀ (W : World) (o : Obj), W.heap.size < (W.alloc o).heap.size := fun W o => by simp
  have hon : ∀ v ∈ (bv (sm (num h1 l1).testBit (fun k => !(num h2 l2).testBit k) true)).toList, v.oneCell' = true := fun v hv => (Array.all_eq_true_iff_forall_mem.1 (bv_one _)) v (by simpa using hv)
  have hlen : ∀ f, (bv f).toList.length = 128 := fun f => by simp [bv_size]
  have hib := infoBits
  have hz := zvBits
  go_enter Try.func52, Try.ntmps52
  refine wp_shut ?_
  go_upto_region 1 with fail
  obtain ⟨W0, hW0⟩ : ∃ W0, W0 = (((w.alloc (Obj.cells #[Value.int IntKind.u64 ↑h1, Value.int IntKind.u64 ↑l1] 60)).alloc (Obj.cells #[Value.int IntKind.u64 ↑h2, Value.int IntKind.u64 ↑l2] 60)).alloc (Obj.cells #[Value.int IntKind.u64 0, Value.int IntKind.u64 0] 60)) := ⟨_, rfl⟩
  have c1 : W0.cell? ⟨w.heap.size, 0, none⟩ = some (.int .u64 h1) := by rw [hW0]; simp [go_sem]
  have c2 : W0.cell? ⟨w.heap.size, 1, none⟩ = some (.int .u64 l1) := by rw [hW0]; simp [go_sem]
  have c3 : W0.cell? ⟨w.heap.size + 1, 0, none⟩ = some (.int .u64 h2) := by rw [hW0]; simp [go_sem]
  have c4 : W0.cell? ⟨w.heap.size + 1, 1, none⟩ = some (.int .u64 l2) := by rw [hW0]; simp [go_sem]
  have hR : W0.heap[w.heap.size + 1 + 1]? = some (.cells #[.int .u64 0, .int .u64 0] 60) := by rw [hW0]; simpa using heap_alloc_new ((w.alloc _).alloc _) (Obj.cells #[Value.int IntKind.u64 0, Value.int IntKind.u64 0] 60)
  have hs0 : w.heap.size + 2 < W0.heap.size := by rw [hW0]; simp
  have hB0 : Below w.heap.size w W0 := by rw [hW0]; exact below3 _ _ _ _
  rw [← hW0]
  clear hW0
  go_cut [6, 7] (fun s6 s7 wx => ∃ g : Nat, s6 = .pointer (some ⟨g, 0, none⟩) ∧ s7 = .bool (cr (num h1 l1).testBit (fun k => !(num h2 l2).testBit k) true 128) ∧ wx.rangeAt g 0 (bv (sm (num h1 l1).testBit (fun k => !(num h2 l2).testBit k) true)).toList ∧ Below W0.heap.size W0 wx)
  case first =>
    go_region_held3 (fun w' => Below W0.heap.size W0 w' ∧ w'.cell? ⟨w.heap.size, 0, none⟩ = some (.int .u64 h1) ∧ w'.cell? ⟨w.heap.size, 1, none⟩ = some (.int .u64 l1) ∧ w'.cell? ⟨w.heap.size + 1, 0, none⟩ = some (.int .u64 h2) ∧ w'.cell? ⟨w.heap.size + 1, 1, none⟩ = some (.int .u64 l2))
      (first
        | ((try go_split_ands); refine ⟨(Below.refl _ _).drew, ?_, ?_, ?_, ?_⟩ <;> assumption)
        | ((try go_split_ands); refine ⟨keepS (W0 := W0) ?_ hb1, cellS (W0 := W0) ?_ hb1 ?_ ?_, cellS (W0 := W0) ?_ hb1 ?_ ?_, cellS (W0 := W0) ?_ hb1 ?_ ?_, cellS (W0 := W0) ?_ hb1 ?_ ?_⟩ <;> first | assumption | omega)
        | ((try go_split_ands); refine ⟨keepA (W0 := W0) ?_ _, cellA (W0 := W0) ?_ _ ?_ ?_, cellA (W0 := W0) ?_ _ ?_ ?_, cellA (W0 := W0) ?_ _ ?_ ?_, cellA (W0 := W0) ?_ _ ?_ ?_⟩ <;> first | assumption | omega)
        | ((try go_split_ands); refine ⟨keepAd (W0 := W0) ?_ _, cellAd (W0 := W0) ?_ _ ?_ ?_, cellAd (W0 := W0) ?_ _ ?_ ?_, cellAd (W0 := W0) ?_ _ ?_ ?_, cellAd (W0 := W0) ?_ _ ?_ ?_⟩ <;> first | assumption | omega | exact Below.refl _ _)
        | ((try go_split_ands); refine ⟨keepR (W0 := W0) ?_ ?_ _, cellR (W0 := W0) ?_ _ ?_ ?_, cellR (W0 := W0) ?_ _ ?_ ?_, cellR (W0 := W0) ?_ _ ?_ ?_, cellR (W0 := W0) ?_ _ ?_ ?_⟩ <;> first | assumption | omega | exact Nat.le_refl _))
      (first | (go_at_call 53; refine (bits_any _ _ (by assumption) (by assumption) _).mono ?_; rintro e w1 ⟨rfl, hb1⟩; (try have hk := there_keep hb1 hk); (try have hk := there_alloc hb1); (try have hk := there_allocd hb1); (try go_split_ands); have hge : W0.heap.size ≤ w1.heap.size := by first | (refine (keepS (W0 := W0) ?_ hb1).size; assumption) | exact (hb1.size : W0.heap.size ≤ w1.heap.size)) | (go_at_call 54; refine (turned_any _ _).mono ?_; rintro e w1 ⟨rfl, hb1⟩; (try have hk := there_keep hb1 hk); (try have hk := there_alloc hb1); (try have hk := there_allocd hb1); (try go_split_ands); have hge : W0.heap.size ≤ w1.heap.size := by first | (refine (keepS (W0 := W0) ?_ hb1).size; assumption) | exact (hb1.size : W0.heap.size ≤ w1.heap.size)) | (go_at_call 50; refine (sum_any _ _ _ _).mono ?_; rintro e w1 ⟨rfl, hb1⟩; (try have hk := there_keep hb1 hk); (try have hk := there_alloc hb1); (try have hk := there_allocd hb1); (try go_split_ands); have hge : W0.heap.size ≤ w1.heap.size := by first | (refine (keepS (W0 := W0) ?_ hb1).size; assumption) | exact (hb1.size : W0.heap.size ≤ w1.heap.size)))
    all_goals (try go_split_ands)
    all_goals (go_wp2_with fail; go_meet; refine ⟨_, rfl, rfl, World.rangeAt_setCells_same _ _ _ _ ?_, ?_⟩)
    all_goals first | assumption | (rw [hlen]; assumption) | (rw [hlen]; exact there_new _ _)
  case rest =>
    obtain ⟨g, rfl, rfl, hr, hb⟩ := hcut
    clear c1 c2 c3 c4 htn htd hsd hsa
    have h4 : wc.heap[w.heap.size + 1 + 1]? = some (.cells #[.int .u64 0, .int .u64 0] 60) := by rw [hb.block _ (by omega)]; exact hR
    go_wp2_with (refine wpList_load_mid (by rfl) 74 (.tmp 6) (by rfl) g 0 (by rfl) (bv (sm (num h1 l1).testBit (fun k => !(num h2 l2).testBit k) true)).toList _ hr Try.underlying74 (by rfl) (by rw [hib, hlen]) ?_)
    refine (wide_any _ _).mono ?_
    rintro e w2 ⟨rfl, hb2⟩
    have h4' : w2.heap[w.heap.size + 1 + 1]? = some (.cells #[.int .u64 0, .int .u64 0] 60) := by
      rw [hb2.block _ (by have := hb.size; omega)]; exact h4
    have hcell : ∀ o, w2.cell? ⟨w.heap.size + 1 + 1, o, none⟩ = #[Value.int .u64 0, .int .u64 0][o]? := fun o => cell_of_row _ _ _ _ _ _ h4'
    have k0 : w2.cell? ⟨w.heap.size + 1 + 1, 0, none⟩ = some (.int .u64 0) := hcell 0
    have k1 : w2.cell? ⟨w.heap.size + 1 + 1, 1, none⟩ = some (.int .u64 0) := hcell 1
    have kf : ∀ o, w2.frozen? ⟨w.heap.size + 1 + 1, o, none⟩ = false := fun o => by simp [World.frozen?, h4']
    have kf0 := kf 0
    have kf1 := kf 1
    have HB := Lib.hid (keepS hb hb2)
    obtain ⟨e1, e2, e3⟩ := sm_sub _ _ (num_lt u1 v1) (num_lt u2 v2)
    have E1 := Lib.hid e1; have E2 := Lib.hid e2; have E3 := Lib.hid e3
    clear e1 e2 e3 hcell kf h4 h4' hb hb2 hr hz hsz hib hlen hR
    go_wp2
    refine shut_ret (v := .tuple #[.agg #[.int .u64 (hi (num h1 l1 + 340282366920938463463374607431768211456 - num h2 l2)), .int .u64 (lo (num h1 l1 + 340282366920938463463374607431768211456 - num h2 l2))], .bool (decide (num h1 l1 < num h2 l2))]) (by simp [results, Try.results52, go_sem, k0, k1, E1.out, E2.out, E3.out]) rfl ⟨rfl, ?_⟩
    exact ((hB0.trans (HB.out.mono (by omega))).setCell (by show w.heap.size ≤ w.heap.size + 1 + 1; omega) _).setCell (by show w.heap.size ≤ w.heap.size + 1 + 1; omega) _
end Go.Proofs.Ythlbmeemdhofpaa
