/- Contracts of package wide: one digit more; whether a text is plain digits. -/
import Derived.Test.YtlpbkdihjpceoaaPkgC
import Derived.Test.YtlpbkdihjpceoaaTextA
import Derived.WalkKit
import Derived.ProofKit
import Derived.OpenShut
import Derived.Handy
import Derived.Outline
import Derived.Lib.Hide
import Derived.Deep.RegionHeld3
import Derived.Deep.DeepCutAuto
import Derived.WalkSpells
import Derived.WalkLawsBesides
namespace Go.Proofs.Ytlpbkdihjpceoaa
set_option linter.unusedVariables false
open Go.ChangeShapes Go.WideShapes Go.ChangeAt Go.RowKit

theorem row_call {V w1 : World} {k : Nat} {o : Obj} (hb : Below V.heap.size V w1) (h : V.heap[k]? = some o) : w1.heap[k]? = some o := by rw [hb.block _ (lt_of_heap h)]; exact h
theorem row_new {W w1 : World} {o : Obj} (hb : Below (W.alloc o).heap.size (W.alloc o) w1) : w1.heap[W.heap.size]? = some o := row_call hb (heap_alloc_new W o)
theorem row_newd {W w1 : World} {o : Obj} (hb : Below (W.alloc o).drew.heap.size (W.alloc o).drew w1) : w1.heap[W.heap.size]? = some o := row_call hb (heap_alloc_new W o)
theorem row_cellA {w : World} {k : Nat} {cs : Array Value} {T : TypeId} (h : w.heap[k]? = some (.cells cs T (0, 0))) : ∀ i, w.cell? ⟨k, i, none⟩ = cs[i]? := fun i => cell_of_row _ _ _ _ _ _ h
theorem row_frozA {w : World} {k : Nat} {cs : Array Value} {T : TypeId} (h : w.heap[k]? = some (.cells cs T (0, 0))) : ∀ i, w.frozen? ⟨k, i, none⟩ = false := fun i => by simp [World.frozen?, h]
theorem keep2 {W0 W : World} {k : Nat} (h : Below W0.heap.size W0 W) (hk : W0.heap.size ≤ k) (a b : Value) : Below W0.heap.size W0 ((W.setCell ⟨k, 0, none⟩ a).setCell ⟨k, 1, none⟩ b) :=
  (h.setCell (by exact hk) _).setCell (by exact hk) _
theorem cell2 {W0 W : World} {k b o : Nat} {v : Value} (hk : W0.heap.size ≤ k) (p q : Value) (hlt : b < W0.heap.size) (hc : W.cell? ⟨b, o, none⟩ = some v) : ((W.setCell ⟨k, 0, none⟩ p).setCell ⟨k, 1, none⟩ q).cell? ⟨b, o, none⟩ = some v := by
  rw [← hc]
  have h1 : ((W.setCell ⟨k, 0, none⟩ p).setCell ⟨k, 1, none⟩ q).heap[b]? = W.heap[b]? := by
    rw [Below.heap_setCell _ _ _ _ (by show b ≠ k; omega), Below.heap_setCell _ _ _ _ (by show b ≠ k; omega)]
  unfold World.cell?
  simp only [h1]

theorem keepZ {W0 W : World} (h : ∃ o, Below W0.heap.size W0 (W.alloc o)) (hg : W0.heap.size ≤ W.heap.size) (o' : Obj) : Below W0.heap.size W0 (W.alloc o') :=
  let ⟨_, h⟩ := h
  ⟨h.os, h.tape, h.output, by simp; omega, fun k hk => by
    have := h.block k hk
    rw [heap_alloc_old _ _ (by omega)] at this
    rw [heap_alloc_old _ _ (by omega)]; exact this⟩
theorem cellZ {W0 W : World} {b j : Nat} {v : Value} (hg : W0.heap.size ≤ W.heap.size) (o' : Obj) (hlt : b < W0.heap.size) (hc : ∃ o, (W.alloc o).cell? ⟨b, j, none⟩ = some v) : (W.alloc o').cell? ⟨b, j, none⟩ = some v := by
  obtain ⟨o, hc⟩ := hc
  have h1 : b < W.heap.size := by omega
  rw [World.cell?_alloc_past _ _ _ h1] at hc
  rw [World.cell?_alloc_past _ _ _ h1]; exact hc
theorem grow_math (h l d : Nat) (u : U h) (v : U l) (hd : d < 10) :
    let A := num (lo (h * 10)) 0 + num (hi (l * 10)) (lo (l * 10))
    let B := num (hi A) (lo A) + num 0 d
    hi B = hi (num h l * 10 + d) ∧ lo B = lo (num h l * 10 + d) ∧ (decide (hi (h * 10) = 0) && (!big A && !big B)) = decide (num h l * 10 + d < 340282366920938463463374607431768211456) := by
  intro A B
  have hl10 : l * 10 < 340282366920938463463374607431768211456 := by unfold U at v; omega
  have eA : A = lo (h * 10) * 18446744073709551616 + l * 10 := by
    show num (lo (h * 10)) 0 + num (hi (l * 10)) (lo (l * 10)) = _
    rw [num_hl_of hl10]; unfold num; omega
  have eB : B = A % 340282366920938463463374607431768211456 + d := by
    show num (hi A) (lo A) + num 0 d = _
    rw [num_hl, num_zero]
  have eN : num h l * 10 + d = h * 10 * 18446744073709551616 + l * 10 + d := by unfold num; omega
  have eh : h * 10 = hi (h * 10) * 18446744073709551616 + lo (h * 10) := by unfold hi lo; unfold U at u; omega
  have b1 : lo (h * 10) < 18446744073709551616 := lo_U _
  have b2 : hi (h * 10) < 18446744073709551616 := hi_U _
  rw [eN]
  unfold U at *
  generalize hi (h * 10) = a at *
  generalize lo (h * 10) = b at *
  generalize h * 10 = t at *
  subst eh
  clear eN hl10
  clear_value A B
  subst eA
  subst eB
  unfold big
  refine ⟨?_, ?_, ?_⟩
  · unfold hi; omega
  · unfold lo; omega
  · rw [Bool.eq_iff_iff]
    simp only [Bool.and_eq_true, Bool.not_eq_true', decide_eq_true_eq, decide_eq_false_iff_not]
    omega

set_option maxHeartbeats 1000000 in
set_option maxRecDepth 100000 in
theorem grow_any (h l d : Nat) (u : U h) (v : U l) (hd : d < 10) (w : World) :
    Calls Try.prog 61 #[.agg #[.int .u64 h, .int .u64 l], .int .u64 d] w fun e w' => e = .returned (.tuple #[.agg #[.int .u64 (hi (num h l * 10 + d)), .int .u64 (lo (num h l * 10 + d))], .bool (decide (num h l * 10 + d < 340282366920938463463374607431768211456))]) ∧ Below w.heap.size w w' := by
  have u10 : U 10 := by unfold U; omega
  have u0 : U 0 := by unfold U; omega
  have ud : U d := by unfold U; omega
  obtain ⟨m1, m2, m3⟩ := grow_math h l d u v hd
  have HM1 := Lib.hid (mul_any h 10 u u10)
  have HM2 := Lib.hid (mul_any l 10 v u10)
  have HA1 := Lib.hid (add_any (lo (h * 10)) 0 (hi (l * 10)) (lo (l * 10)) (lo_U _) u0 (hi_U _) (lo_U _))
  generalize num (lo (h * 10)) 0 + num (hi (l * 10)) (lo (l * 10)) = A at *
  have HA2 := Lib.hid (add_any (hi A) (lo A) 0 d (hi_U _) (lo_U _) u0 ud)
  generalize num (hi A) (lo A) + num 0 d = B at *
  have E1 := Lib.hid m1
  have E2 := Lib.hid m2
  have E3 := Lib.hid m3
  clear m1 m2 m3 u10 u0 ud u v hd
  generalize h * 10 = a at *
  generalize l * 10 = b at *
  go_enter Try.func61, Try.ntmps61
  go_wp2_with fail
  refine (HM1.out _).mono ?_
  rintro e w1 ⟨rfl, hb1⟩
  have r0 : w1.heap[w.heap.size]? = some (.cells #[.int .u64 h, .int .u64 l] 24 (0, 0)) := row_call hb1 (by simpa using heap_alloc2_old w _ _)
  have r1 : w1.heap[w.heap.size + 1]? = some (.cells #[.int .u64 0, .int .u64 0] 24 (0, 0)) := row_call hb1 (by simpa using heap_alloc_new (w.alloc _) _)
  obtain ⟨W0, hW0⟩ : ∃ W0, W0 = w1.alloc (Obj.cells #[Value.int IntKind.u64 ↑(hi a), Value.int IntKind.u64 ↑(lo a)] 24) := ⟨_, rfl⟩
  have q0 : W0.heap[w.heap.size]? = some (.cells #[.int .u64 h, .int .u64 l] 24 (0, 0)) := by rw [hW0]; exact row_alloc r0 _
  have q1 : W0.heap[w.heap.size + 1]? = some (.cells #[.int .u64 0, .int .u64 0] 24 (0, 0)) := by rw [hW0]; exact row_alloc r1 _
  have q2 : W0.heap[w1.heap.size]? = some (.cells #[.int .u64 (hi a), .int .u64 (lo a)] 24 (0, 0)) := by rw [hW0]; exact heap_alloc_new _ _
  have hs1 := lt_of_heap q0
  have hs2 := lt_of_heap q1
  have hs3 := lt_of_heap q2
  have HB0 : Hid (Below w.heap.size w W0) := by rw [hW0]; exact ((below2 w _ _).trans (hb1.mono (by simp; omega))).alloc (Nat.le_of_lt (lt_of_heap r0)) _
  have Q1 := Lib.hid q1
  have Q2 := Lib.hid q2
  have c1 : W0.cell? ⟨w1.heap.size, 1, none⟩ = some (.int .u64 (lo a)) := cell_of_row _ _ _ _ _ _ q2
  have c2 : W0.cell? ⟨w.heap.size, 1, none⟩ = some (.int .u64 l) := cell_of_row _ _ _ _ _ _ q0
  have HW0 := Lib.hid hW0
  clear r0 r1 q0 q1 q2 hb1 hW0
  go_simp
  go_upto_region 2 with fail
  rw [← HW0.out]
  go_cut [7, 8] (fun s7 s8 wx => ∃ g : Nat, s7 = .pointer (some ⟨g, 0, none⟩) ∧ s8 = .bool (big A) ∧ wx.heap[g]? = some (.cells #[.int .u64 (hi A), .int .u64 (lo A)] 24 (0, 0)) ∧ Below W0.heap.size W0 wx)
  case first =>
    go_region_held3 (fun w' => Below W0.heap.size W0 w' ∧ w'.cell? ⟨w1.heap.size, 1, none⟩ = some (.int .u64 (lo a)) ∧ w'.cell? ⟨w.heap.size, 1, none⟩ = some (.int .u64 l))
    (first
      | ((try go_split_ands); refine ⟨(Below.refl _ _).drew, ?_, ?_⟩ <;> first | assumption | (rw [World.cell?_drew]; assumption))
      | ((try go_split_ands); refine ⟨keepS (W0 := W0) ?_ hb1, cellS (W0 := W0) ?_ hb1 ?_ ?_, cellS (W0 := W0) ?_ hb1 ?_ ?_⟩ <;> first | assumption | omega)
      | ((try go_split_ands); refine ⟨keepA (W0 := W0) ?_ _, cellA (W0 := W0) ?_ _ ?_ ?_, cellA (W0 := W0) ?_ _ ?_ ?_⟩ <;> first | assumption | omega)
      | ((try go_split_ands); refine ⟨keepAd (W0 := W0) ?_ _, cellAd (W0 := W0) ?_ _ ?_ ?_, cellAd (W0 := W0) ?_ _ ?_ ?_⟩ <;> first | assumption | omega | exact Below.refl _ _)
      | ((try go_split_ands); refine ⟨keep2 (W0 := W0) ?_ ?_ _ _, cell2 (W0 := W0) ?_ _ _ ?_ ?_, cell2 (W0 := W0) ?_ _ _ ?_ ?_⟩ <;> first | assumption | omega | exact Nat.le_refl _)
      | ((try go_split_ands); refine ⟨keepZ (W0 := W0) ?_ ?_ _, cellZ (W0 := W0) ?_ _ ?_ ?_, cellZ (W0 := W0) ?_ _ ?_ ?_⟩ <;> first | assumption | omega | exact Nat.le_refl _ | exact ⟨_, by assumption⟩))
    (first | (go_at_call 43; refine (HM2.out _).mono ?_; rintro e w1 ⟨rfl, hb1⟩; (try go_split_ands); have hge : W0.heap.size ≤ w1.heap.size := (by first | (refine (keepS (W0 := W0) ?_ hb1).size; assumption) | exact (hb1.size : W0.heap.size ≤ w1.heap.size)); (try have hrow := row_call hb1 hrow); (try have hrow := row_new hb1); (try have hrow := row_newd hb1); have hl1 := lt_below hb1; obtain ⟨hc1, hf1⟩ := bcell hb1; (try (have hrc := row_cellA hrow; clear hc1 hf1)); (try have hrf := row_frozA hrow)) | (go_at_call 48; refine (HA1.out _).mono ?_; rintro e w1 ⟨rfl, hb1⟩; (try go_split_ands); have hge : W0.heap.size ≤ w1.heap.size := (by first | (refine (keepS (W0 := W0) ?_ hb1).size; assumption) | exact (hb1.size : W0.heap.size ≤ w1.heap.size)); (try have hrow := row_call hb1 hrow); (try have hrow := row_new hb1); (try have hrow := row_newd hb1); have hl1 := lt_below hb1; obtain ⟨hc1, hf1⟩ := bcell hb1; (try (have hrc := row_cellA hrow; clear hc1 hf1)); (try have hrf := row_frozA hrow)))
    all_goals (try go_split_ands)
    all_goals (go_wp2_with fail; go_meet; refine ⟨_, rfl, rfl, ?_, ?_⟩)
    all_goals first | assumption | exact heap_alloc_new _ _ | exact row_set (by assumption) _ _
  case rest =>
    obtain ⟨g, rfl, rfl, hg, hB⟩ := hcut
    have k0 : wc.cell? ⟨g, 0, none⟩ = some (.int .u64 (hi A)) := cell_of_row _ _ _ _ _ _ hg
    have k1 : wc.cell? ⟨g, 1, none⟩ = some (.int .u64 (lo A)) := cell_of_row _ _ _ _ _ _ hg
    have r1 : wc.heap[w.heap.size + 1]? = some (.cells #[.int .u64 0, .int .u64 0] 24 (0, 0)) := by rw [hB.block _ hs2]; exact Q1.out
    have r2 : wc.heap[w1.heap.size]? = some (.cells #[.int .u64 (hi a), .int .u64 (lo a)] 24 (0, 0)) := by rw [hB.block _ hs3]; exact Q2.out
    have HBc := Lib.hid (HB0.out.trans (hB.mono (by omega)))
    have R1 := Lib.hid r1
    have R2 := Lib.hid r2
    clear hg hB r1 r2 c1 c2 hs1 hs2 hs3
    go_wp2_with fail
    refine (HA2.out _).mono ?_
    rintro e w2 ⟨rfl, hb2⟩
    have x1 := row_call hb2 R1.out
    have x2 := row_call hb2 R2.out
    have j0 : w2.cell? ⟨w.heap.size + 1, 0, none⟩ = some (.int .u64 0) := cell_of_row _ _ _ _ _ _ x1
    have j1 : w2.cell? ⟨w.heap.size + 1, 1, none⟩ = some (.int .u64 0) := cell_of_row _ _ _ _ _ _ x1
    have f0 : w2.frozen? ⟨w.heap.size + 1, 0, none⟩ = false := by simp [World.frozen?, x1]
    have f1 : w2.frozen? ⟨w.heap.size + 1, 1, none⟩ = false := by simp [World.frozen?, x1]
    have j2 : w2.cell? ⟨w1.heap.size, 0, none⟩ = some (.int .u64 (hi a)) := cell_of_row _ _ _ _ _ _ x2
    have hl1 := lt_of_heap x1
    have hl2 := lt_of_heap x2
    have hBw : Below w.heap.size w w2 := HBc.out.trans (hb2.mono HBc.out.size)
    have hsw := hBw.size
    have HBw := Lib.hid hBw
    clear hb2 x1 x2 k0 k1 hBw
    go_simp
    cases hbA : big A <;> cases hbB : big B <;> rw [hbA, hbB] at E3 <;> (clear hbA hbB) <;> (by_cases ha : hi a = 0)
    all_goals
      first
      | (have hz : ((hi a : Int) == 0) = true := (by rw [beq_iff_eq]; omega); have hd : decide (hi a = 0) = true := decide_eq_true ha)
      | (have hz : ((hi a : Int) == 0) = false := (by rw [beq_eq_false_iff_ne]; omega); have hd : decide (hi a = 0) = false := decide_eq_false ha)
      have E4 : Hid (decide (num h l * 10 + d < 340282366920938463463374607431768211456) = _) := E3.out.symm
      rw [hd] at E4
      clear ha hd E3
      go_wp2
      refine bodyPost_ret (v := .tuple #[.agg #[.int .u64 (hi B), .int .u64 (lo B)], .bool _]) (by simp [results, Try.results61, go_sem, j0, j1, hl1]; rfl) rfl ⟨by rw [E1.out, E2.out, E4.out]; try rfl, ?_⟩
      have hBw := HBw.out
      go_grown
end Go.Proofs.Ytlpbkdihjpceoaa
