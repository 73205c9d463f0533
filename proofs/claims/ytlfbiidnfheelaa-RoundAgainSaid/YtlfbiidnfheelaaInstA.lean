/- Contracts of package instant: seconds and nanoseconds as a number. -/
import Derived.Test.YtlfbiidnfheelaaLotQ
import Derived.Outline
import Derived.Deep.Cut
import Derived.Deep.RegionHeld3
import Derived.OwnWalk
import Derived.Test.YtlfbiidnfheelaaLotP
namespace Go.Proofs.Ytlfbiidnfheelaa
set_option linter.unusedVariables false
set_option linter.unusedSimpArgs false
open Go.ChangeShapes Go.WideShapes Go.ChangeAt Go.RowKit

/-- seconds and nanoseconds, as nanoseconds. -/
def nanos (s n : Int) : Int := s * 1000000000 + n
theorem mix_hi (Q c b : Int) (h : 0 ≤ b) (h2 : b < 18446744073709551616) : (Q * 340282366920938463463374607431768211456 + c * 18446744073709551616 + b) % 340282366920938463463374607431768211456 = (c % 18446744073709551616) * 18446744073709551616 + b := by omega
theorem mix_parts (N : Int) (c b : Int) (h : 0 ≤ b) (h2 : b < 18446744073709551616) (e : N % 340282366920938463463374607431768211456 = (c % 18446744073709551616) * 18446744073709551616 + b) : (zh N : Int) = c % 18446744073709551616 ∧ (zl N : Int) = b := by
  have h3 := Int.emod_nonneg c (show (18446744073709551616 : Int) ≠ 0 by decide)
  have h4 := Int.emod_lt_of_pos c (show (0 : Int) < 18446744073709551616 by decide)
  generalize c % 18446744073709551616 = d at *
  unfold zh zl hi lo zw
  rw [e]
  clear e
  constructor <;> omega
theorem total_parts (s : Int) : ∃ k : Nat, IntKind.u64.wrap ((zh s : Int) * 1000000000) = (k : Int) ∧ IntKind.u64.wrap ((zh ((zl s * 1000000000 : Nat) : Int) : Int) + (k : Int)) = (zh (s * 1000000000) : Int) ∧ zl ((zl s * 1000000000 : Nat) : Int) = zl (s * 1000000000) := by
  refine ⟨(zh s * 1000000000) % 18446744073709551616, ?_, ?_, ?_⟩
  · rw [IntKind.wrap_u64]; omega
  all_goals
    have u := zl_U s
    unfold U at u
    have e1 : ((zl s * 1000000000 : Nat) : Int) = (zl s : Int) * 1000000000 := by omega
    obtain ⟨Q, e2⟩ : ∃ Q : Int, s = Q * 340282366920938463463374607431768211456 + (zh s : Int) * 18446744073709551616 + (zl s : Int) := by
      have h := num_z s
      unfold num zw at h
      exact ⟨s / 340282366920938463463374607431768211456, by omega⟩
    obtain ⟨b1, b0, e3, h1, h2, h5, h6⟩ : ∃ b1 b0 : Int, (zl s : Int) * 1000000000 = b1 * 18446744073709551616 + b0 ∧ 0 ≤ b0 ∧ b0 < 18446744073709551616 ∧ 0 ≤ b1 ∧ b1 < 1000000000 := ⟨(zl s : Int) * 1000000000 / 18446744073709551616, (zl s : Int) * 1000000000 % 18446744073709551616, by omega, by omega, by omega, by omega, by omega⟩
    have e4 : s * 1000000000 = (Q * 1000000000) * 340282366920938463463374607431768211456 + ((zh s : Int) * 1000000000 + b1) * 18446744073709551616 + b0 := by
      rw [Int.add_mul, Int.mul_assoc (zh s : Int)]
      have e5 : s * 1000000000 = (Q * 340282366920938463463374607431768211456 + (zh s : Int) * 18446744073709551616 + (zl s : Int)) * 1000000000 := by rw [← e2]
      rw [e5, Int.add_mul, Int.add_mul, e3]
      clear e1 e2 e3 e5
      omega
    have m1 := mix_hi (Q * 1000000000) ((zh s : Int) * 1000000000 + b1) b0 h1 h2
    rw [← e4] at m1
    obtain ⟨p1, p2⟩ := mix_parts _ _ _ h1 h2 m1
    have m2 := mix_hi 0 b1 b0 h1 h2
    rw [Int.zero_mul, Int.zero_add, ← e3, ← e1] at m2
    obtain ⟨q1, q2⟩ := mix_parts _ _ _ h1 h2 m2
    first
    | (rw [IntKind.wrap_u64, q1, p1]; clear m1 m2 e4 p1 p2 q1 q2 e1 e3 e2; omega)
    | (have := p2.trans q2.symm; omega)
set_option maxHeartbeats 1600000 in
set_option maxRecDepth 100000 in
theorem total_any (s n : Int) (bs : in64 s) (bn : in64 n) (w : World) :
    Calls Try.prog 50 #[.int .i64 s, .int .i64 n] w fun e w' => e = .returned (.agg #[.int .u64 (zh (nanos s n)), .int .u64 (zl (nanos s n))]) ∧ Below w.heap.size w w' := by
  have H1 := Lib.hid (zOf_any s bs)
  have X2 := zMul_any (zl s) 1000000000 (zl_U s) (by unfold U; omega)
  obtain ⟨k, f1, f2, f3⟩ := total_parts s
  rw [f3] at X2
  rw [show ((1000000000 : Nat) : Int) = 1000000000 from rfl] at X2
  have H2 := Lib.hid X2
  have H3 := Lib.hid (zOf_any n bn)
  have H4 := Lib.hid (zAdd_any (s * 1000000000) n)
  rw [show s * 1000000000 + n = nanos s n from rfl] at H4
  clear X2 f3 bs bn
  generalize nanos s n = T at *
  generalize cb (s * 1000000000) n = c at *
  generalize s * 1000000000 = M at *
  generalize zh (((zl s * 1000000000 : Nat)) : Int) = P at *
  go_enter Try.func50, Try.ntmps50
  refine wp_shut ?_
  go_wp2_with fail
  
  refine (H1.out _).mono ?_
  rintro e V1 ⟨rfl, hb1⟩
  have B1 := Lib.hid (((Below.refl w.heap.size w).alloc (Nat.le_refl _) _).trans (hb1.mono (by first | assumption | (simp <;> omega) | (simp; done))))
  have Z1 := Lib.hid (row_call hb1 (heap_alloc_new _ _))
  clear hb1
  have Z1_0 : V1.cell? ⟨w.heap.size, 0, none⟩ = some (.int .u64 0) := cell_of_row _ _ _ _ _ _ Z1.out
  have Z1_1 : V1.cell? ⟨w.heap.size, 1, none⟩ = some (.int .u64 0) := cell_of_row _ _ _ _ _ _ Z1.out
  have Z1_f0 : V1.frozen? ⟨w.heap.size, 0, none⟩ = false := by simp [World.frozen?, Z1.out]
  have Z1_f1 : V1.frozen? ⟨w.heap.size, 1, none⟩ = false := by simp [World.frozen?, Z1.out]
  have zZ1 := lt_of_heap Z1.out
  go_simp
  go_wp2_with fail
  refine (H2.out _).mono ?_
  rintro e V2 ⟨rfl, hb2⟩
  clear Z1_0 Z1_1 Z1_f0 Z1_f1 zZ1
  have nZ1S1 := Lib.hid (lt_of_heap Z1.out)
  have B2 := Lib.hid (((B1.out).alloc (B1.out.size) _).trans (hb2.mono (by have := B1.out.size; first | assumption | (simp <;> omega) | (simp; done))))
  replace Z1 := Lib.hid (row_call hb2 (row_alloc Z1.out _))
  have S1 := Lib.hid (row_call hb2 (heap_alloc_new _ _))
  clear hb2
  have Z1_0 : V2.cell? ⟨w.heap.size, 0, none⟩ = some (.int .u64 0) := cell_of_row _ _ _ _ _ _ Z1.out
  have Z1_1 : V2.cell? ⟨w.heap.size, 1, none⟩ = some (.int .u64 0) := cell_of_row _ _ _ _ _ _ Z1.out
  have Z1_f0 : V2.frozen? ⟨w.heap.size, 0, none⟩ = false := by simp [World.frozen?, Z1.out]
  have Z1_f1 : V2.frozen? ⟨w.heap.size, 1, none⟩ = false := by simp [World.frozen?, Z1.out]
  have S1_0 : V2.cell? ⟨V1.heap.size, 0, none⟩ = some (.int .u64 (zh s)) := cell_of_row _ _ _ _ _ _ S1.out
  have S1_1 : V2.cell? ⟨V1.heap.size, 1, none⟩ = some (.int .u64 (zl s)) := cell_of_row _ _ _ _ _ _ S1.out
  have zZ1 := lt_of_heap Z1.out
  have zS1 := lt_of_heap S1.out
  go_simp
  go_wp2_with fail
  have nZ1P1 := Lib.hid (lt_of_heap Z1.out)
  have nlZ1P1 : ¬ (w.heap.size = V2.heap.size) := Nat.ne_of_lt (lt_of_heap Z1.out)
  have nrZ1P1 : ¬ (V2.heap.size = w.heap.size) := Ne.symm (Nat.ne_of_lt (lt_of_heap Z1.out))
  have nS1P1 := Lib.hid (lt_of_heap S1.out)
  clear Z1_0 Z1_1 Z1_f0 Z1_f1 zZ1 S1_0 S1_1 zS1
  obtain ⟨W0, hW0⟩ : ∃ W0, W0 = (V2.alloc (Obj.cells #[Value.int .u64 (zh M), Value.int .u64 (zl M)] 24)) := ⟨_, rfl⟩
  replace Z1 := Lib.hid (row_by hW0 (row_alloc Z1.out _))
  replace S1 := Lib.hid (row_by hW0 (row_alloc S1.out _))
  have P1 := Lib.hid (row_at (k' := V2.heap.size) (by simp) (row_by hW0 (heap_alloc_new _ _)))
  have HB0 := Lib.hid (below_by hW0 ((B2.out).alloc (by have := B2.out.size; simp <;> omega) _))
  have HW0 := Lib.hid hW0
  clear hW0
  have Z1_0 : W0.cell? ⟨w.heap.size, 0, none⟩ = some (.int .u64 0) := cell_of_row _ _ _ _ _ _ Z1.out
  have Z1_1 : W0.cell? ⟨w.heap.size, 1, none⟩ = some (.int .u64 0) := cell_of_row _ _ _ _ _ _ Z1.out
  have Z1_f0 : W0.frozen? ⟨w.heap.size, 0, none⟩ = false := (by simp [World.frozen?, Z1.out])
  have Z1_f1 : W0.frozen? ⟨w.heap.size, 1, none⟩ = false := (by simp [World.frozen?, Z1.out])
  have zZ1 := lt_of_heap Z1.out
  have S1_0 : W0.cell? ⟨V1.heap.size, 0, none⟩ = some (.int .u64 (zh s)) := cell_of_row _ _ _ _ _ _ S1.out
  have S1_1 : W0.cell? ⟨V1.heap.size, 1, none⟩ = some (.int .u64 (zl s)) := cell_of_row _ _ _ _ _ _ S1.out
  have zS1 := lt_of_heap S1.out
  have P1_0 : W0.cell? ⟨V2.heap.size, 0, none⟩ = some (.int .u64 (zh M)) := cell_of_row _ _ _ _ _ _ P1.out
  have P1_1 : W0.cell? ⟨V2.heap.size, 1, none⟩ = some (.int .u64 (zl M)) := cell_of_row _ _ _ _ _ _ P1.out
  have P1_f0 : W0.frozen? ⟨V2.heap.size, 0, none⟩ = false := (by simp [World.frozen?, P1.out])
  have P1_f1 : W0.frozen? ⟨V2.heap.size, 1, none⟩ = false := (by simp [World.frozen?, P1.out])
  have zP1 := lt_of_heap P1.out
  try rw [← HW0.out]
  go_cut [7, 8] (fun s7 s8 wx => ∃ gQ1 : Nat, s7 = .pointer (some ⟨gQ1, 0, none⟩) ∧ s8 = .bool c ∧ wx.heap[gQ1]? = some (.cells #[.int .u64 (zh T), .int .u64 (zl T)] 24 (0, 0)) ∧ Below W0.heap.size W0 wx)
  case first =>
    go_region_held3 (fun w' => Below W0.heap.size W0 w' ∧ w'.cell? ⟨V2.heap.size, 0, none⟩ = some (.int .u64 (zh M)) ∧ w'.cell? ⟨V2.heap.size, 1, none⟩ = some (.int .u64 (zl M)))
    (first
      | ((try go_split_ands); refine ⟨(Below.refl _ _).drew, ?_, ?_⟩ <;> first | assumption | (rw [World.cell?_drew]; assumption))
      | ((try go_split_ands); refine ⟨keepS (W0 := W0) ?_ hb1, cellS (W0 := W0) ?_ hb1 ?_ ?_, cellS (W0 := W0) ?_ hb1 ?_ ?_⟩ <;> first | assumption | omega)
      | ((try go_split_ands); refine ⟨keepA (W0 := W0) ?_ _, cellA (W0 := W0) ?_ _ ?_ ?_, cellA (W0 := W0) ?_ _ ?_ ?_⟩ <;> first | assumption | omega)
      | ((try go_split_ands); refine ⟨keepAd (W0 := W0) ?_ _, cellAd (W0 := W0) ?_ _ ?_ ?_, cellAd (W0 := W0) ?_ _ ?_ ?_⟩ <;> first | assumption | omega | exact Below.refl _ _)
      | ((try go_split_ands); refine ⟨keep2 (W0 := W0) ?_ ?_ _ _, cell2 (W0 := W0) ?_ _ _ ?_ ?_, cell2 (W0 := W0) ?_ _ _ ?_ ?_⟩ <;> first | assumption | omega | exact Nat.le_refl _)
      | ((try go_split_ands); refine ⟨keepZ (W0 := W0) ?_ ?_ _, cellZ (W0 := W0) ?_ _ ?_ ?_, cellZ (W0 := W0) ?_ _ ?_ ?_⟩ <;> first | assumption | omega | exact Nat.le_refl _ | exact ⟨_, by assumption⟩))
    (first | (go_at_call 19; (with_reducible refine (H3.out _).mono ?_); rintro e w1 ⟨rfl, hb1⟩; (try go_split_ands); have hge : W0.heap.size ≤ w1.heap.size := (by first | (refine (keepS (W0 := W0) ?_ hb1).size; assumption) | exact (hb1.size : W0.heap.size ≤ w1.heap.size)); (try have hrow := row_call hb1 hrow); (try have hrow := row_new hb1); (try have hrow := row_newd hb1); have hl1 := lt_below hb1; obtain ⟨hc1, hf1⟩ := bcell hb1; (try (have hrc := row_cellA hrow; clear hc1 hf1)); (try have hrf := row_frozA hrow)) | (go_at_call 47; (with_reducible refine (H4.out _).mono ?_); rintro e w1 ⟨rfl, hb1⟩; (try go_split_ands); have hge : W0.heap.size ≤ w1.heap.size := (by first | (refine (keepS (W0 := W0) ?_ hb1).size; assumption) | exact (hb1.size : W0.heap.size ≤ w1.heap.size)); (try have hrow := row_call hb1 hrow); (try have hrow := row_new hb1); (try have hrow := row_newd hb1); have hl1 := lt_below hb1; obtain ⟨hc1, hf1⟩ := bcell hb1; (try (have hrc := row_cellA hrow; clear hc1 hf1)); (try have hrf := row_frozA hrow)))
    all_goals (try go_split_ands)
    all_goals (go_wp2_with fail; go_meet; refine ⟨_, rfl, rfl, ?_, ?_⟩)
    all_goals first | assumption | exact heap_alloc_new _ _ | exact row_set (by assumption) _ _
  case rest =>
    obtain ⟨gQ1, rfl, rfl, hQ1, hB⟩ := hcut
    obtain ⟨V3, rfl⟩ : ∃ V, V = wc := ⟨_, rfl⟩
    have Q1 := Lib.hid hQ1
    clear hQ1
    clear Z1_0 Z1_1 Z1_f0 Z1_f1 zZ1 S1_0 S1_1 zS1 P1_0 P1_1 P1_f0 P1_f1 zP1
    replace Z1 := Lib.hid (row_call hB Z1.out)
    replace S1 := Lib.hid (row_call hB S1.out)
    replace P1 := Lib.hid (row_call hB P1.out)
    have B3 := Lib.hid (HB0.out.trans (hB.mono HB0.out.size))
    clear hB
    have Z1_0 : V3.cell? ⟨w.heap.size, 0, none⟩ = some (.int .u64 0) := cell_of_row _ _ _ _ _ _ Z1.out
    have Z1_1 : V3.cell? ⟨w.heap.size, 1, none⟩ = some (.int .u64 0) := cell_of_row _ _ _ _ _ _ Z1.out
    have Z1_f0 : V3.frozen? ⟨w.heap.size, 0, none⟩ = false := (by simp [World.frozen?, Z1.out])
    have Z1_f1 : V3.frozen? ⟨w.heap.size, 1, none⟩ = false := (by simp [World.frozen?, Z1.out])
    have zZ1 := lt_of_heap Z1.out
    have S1_0 : V3.cell? ⟨V1.heap.size, 0, none⟩ = some (.int .u64 (zh s)) := cell_of_row _ _ _ _ _ _ S1.out
    have S1_1 : V3.cell? ⟨V1.heap.size, 1, none⟩ = some (.int .u64 (zl s)) := cell_of_row _ _ _ _ _ _ S1.out
    have zS1 := lt_of_heap S1.out
    have P1_0 : V3.cell? ⟨V2.heap.size, 0, none⟩ = some (.int .u64 (zh M)) := cell_of_row _ _ _ _ _ _ P1.out
    have P1_1 : V3.cell? ⟨V2.heap.size, 1, none⟩ = some (.int .u64 (zl M)) := cell_of_row _ _ _ _ _ _ P1.out
    have P1_f0 : V3.frozen? ⟨V2.heap.size, 0, none⟩ = false := (by simp [World.frozen?, P1.out])
    have P1_f1 : V3.frozen? ⟨V2.heap.size, 1, none⟩ = false := (by simp [World.frozen?, P1.out])
    have zP1 := lt_of_heap P1.out
    have Q1_0 : V3.cell? ⟨gQ1, 0, none⟩ = some (.int .u64 (zh T)) := cell_of_row _ _ _ _ _ _ Q1.out
    have Q1_1 : V3.cell? ⟨gQ1, 1, none⟩ = some (.int .u64 (zl T)) := cell_of_row _ _ _ _ _ _ Q1.out
    have zQ1 := lt_of_heap Q1.out
    go_wp2
    refine shut_ret (v := .agg #[.int .u64 (zh T), .int .u64 (zl T)]) (by simp [results, Try.results50, go_sem, zZ1, Z1_0, Z1_1]) rfl ⟨rfl, ?_⟩
    exact keep2 B3.out (Nat.le_refl _) _ _
end Go.Proofs.Ytlfbiidnfheelaa
