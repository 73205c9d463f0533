/- Contracts of package dur: quotients; of the plain answers of layer 4: numbers, sums. -/
import Derived.Test.YtlfbiidnfheelaaDurD
namespace Go.Proofs.Ytlfbiidnfheelaa
set_option linter.unusedVariables false
set_option linter.unusedSimpArgs false
open Go.ChangeShapes Go.WideShapes Go.ChangeAt Go.RowKit

/-- the error ahead of a quotient. -/
@[irreducible] def dvF (d m n : Int) : Int := if n = 0 then 5 else ckD d m
theorem dvF_zero {d m n : Int} (h : n = 0) : dvF d m n = 5 := by unfold dvF; exact if_pos h
theorem dvF_not {d m n : Int} (h : n ≠ 0) : dvF d m n = ckD d m := by unfold dvF; exact if_neg h
theorem fq_pos {x n : Int} (h : 0 < n) : fq x n = x / n.natAbs := by unfold fq; rw [if_pos h, show (n.natAbs : Int) = n by omega]
theorem fq_neg {x n : Int} (h : n < 0) : fq x n = (-x) / n.natAbs := by unfold fq; rw [if_neg (by omega), show (n.natAbs : Int) = -n by omega]
theorem quot_in {x : Int} (d : Nat) (b : in128 x) (h : in128 (-x)) : in128 (x / d) := by
  have h1 := Int.natAbs_ediv_le_natAbs x d
  unfold in128 at *; omega
theorem quot_in2 {x : Int} (d : Nat) (h : -1099511627776000000000 ≤ x ∧ x ≤ 1099511627776000000000) : in128 (x / d) := quot_in d (by unfold in128; omega) (by unfold in128; omega)
set_option maxHeartbeats 1600000 in
set_option maxRecDepth 100000 in
theorem rdOf_any (x : Int) (b : in128 x) (w : World) :
    Calls Try.prog 41 #[.agg #[.int .u64 (zh x), .int .u64 (zl x)]] w fun e w' => e = .returned (.tuple #[.agg #[.int .i64 (duS x), .int .i64 (duN x)], .int .i64 (duE x)]) ∧ Below w.heap.size w w' := by
  have X1 := rParts_any x b
  have X2 := rCheckDur_any (x / 1000000000) (x % 1000000000)
  rw [dd_ck] at X2
  by_cases hq : in64 (x / 1000000000)
  · rw [iV_of hq, iE_of hq, show ((0 : Int) == 0) = true from rfl] at X1
    have H1 := Lib.hid X1
    by_cases ht : -1099511627776000000000 ≤ x ∧ x ≤ 1099511627776000000000
    · obtain ⟨u1, u2, u3⟩ := dd_yes ht
      rw [u1, u2, u3]
      rw [u3] at X2
      have H2 := Lib.hid X2
      clear X1 X2 u1 u2 u3 ht hq b
      generalize x / 1000000000 = Q at *
      generalize x % 1000000000 = R at *
      go_enter Try.func41, Try.ntmps41
      refine wp_shut ?_
      go_wp2_with fail
      
      refine (H1.out _).mono ?_
      rintro e V1 ⟨rfl, hb1⟩
      have B1 := Lib.hid ((((Below.refl w.heap.size w).alloc (Nat.le_refl _) _).alloc (by simp <;> omega) _).trans (hb1.mono (by first | assumption | (simp <;> omega) | (simp; done))))
      have A1 := Lib.hid (row_call hb1 (row_alloc (heap_alloc_new _ _) _))
      have Z1 := Lib.hid (row_at (k' := w.heap.size + 1) (by simp) (row_call hb1 (heap_alloc_new _ _)))
      clear hb1
      have A1_0 : V1.cell? ⟨w.heap.size, 0, none⟩ = some (.int .u64 (zh x)) := cell_of_row _ _ _ _ _ _ A1.out
      have A1_1 : V1.cell? ⟨w.heap.size, 1, none⟩ = some (.int .u64 (zl x)) := cell_of_row _ _ _ _ _ _ A1.out
      have Z1_0 : V1.cell? ⟨w.heap.size + 1, 0, none⟩ = some (.int .i64 0) := cell_of_row _ _ _ _ _ _ Z1.out
      have Z1_1 : V1.cell? ⟨w.heap.size + 1, 1, none⟩ = some (.int .i64 0) := cell_of_row _ _ _ _ _ _ Z1.out
      have Z1_f0 : V1.frozen? ⟨w.heap.size + 1, 0, none⟩ = false := by simp [World.frozen?, Z1.out]
      have Z1_f1 : V1.frozen? ⟨w.heap.size + 1, 1, none⟩ = false := by simp [World.frozen?, Z1.out]
      have zA1 := lt_of_heap A1.out
      have zZ1 := lt_of_heap Z1.out
      go_simp
      go_wp2_with fail
      refine (H2.out _).mono ?_
      rintro e V2 ⟨rfl, hb2⟩
      clear A1_0 A1_1 zA1 Z1_0 Z1_1 Z1_f0 Z1_f1 zZ1
      have nA1I1 := Lib.hid (lt_of_heap A1.out)
      have nZ1I1 := Lib.hid (lt_of_heap Z1.out)
      have B2 := Lib.hid (((B1.out).alloc (B1.out.size) _).trans (hb2.mono (by have := B1.out.size; first | assumption | (simp <;> omega) | (simp; done))))
      replace A1 := Lib.hid (row_call hb2 (row_alloc A1.out _))
      replace Z1 := Lib.hid (row_call hb2 (row_alloc Z1.out _))
      have I1 := Lib.hid (row_call hb2 (heap_alloc_new _ _))
      clear hb2
      have A1_0 : V2.cell? ⟨w.heap.size, 0, none⟩ = some (.int .u64 (zh x)) := cell_of_row _ _ _ _ _ _ A1.out
      have A1_1 : V2.cell? ⟨w.heap.size, 1, none⟩ = some (.int .u64 (zl x)) := cell_of_row _ _ _ _ _ _ A1.out
      have Z1_0 : V2.cell? ⟨w.heap.size + 1, 0, none⟩ = some (.int .i64 0) := cell_of_row _ _ _ _ _ _ Z1.out
      have Z1_1 : V2.cell? ⟨w.heap.size + 1, 1, none⟩ = some (.int .i64 0) := cell_of_row _ _ _ _ _ _ Z1.out
      have Z1_f0 : V2.frozen? ⟨w.heap.size + 1, 0, none⟩ = false := by simp [World.frozen?, Z1.out]
      have Z1_f1 : V2.frozen? ⟨w.heap.size + 1, 1, none⟩ = false := by simp [World.frozen?, Z1.out]
      have I1_0 : V2.cell? ⟨V1.heap.size, 0, none⟩ = some (.int .i64 Q) := cell_of_row _ _ _ _ _ _ I1.out
      have I1_1 : V2.cell? ⟨V1.heap.size, 1, none⟩ = some (.int .i64 R) := cell_of_row _ _ _ _ _ _ I1.out
      have zA1 := lt_of_heap A1.out
      have zZ1 := lt_of_heap Z1.out
      have zI1 := lt_of_heap I1.out
      go_simp
      go_wp2
      refine shut_ret (v := .tuple #[.agg #[.int .i64 Q, .int .i64 R], .int .i64 0]) (by simp [results, Try.results41, go_sem, zZ1, Z1_0, Z1_1]) rfl ⟨rfl, ?_⟩
      exact keep2 B2.out (by omega) _ _
    · obtain ⟨u1, u2, u3⟩ := dd_no ht
      rw [u1, u2, u3]
      rw [u3] at X2
      have H2 := Lib.hid X2
      clear X1 X2 u1 u2 u3 ht hq b
      generalize x / 1000000000 = Q at *
      generalize x % 1000000000 = R at *
      go_enter Try.func41, Try.ntmps41
      refine wp_shut ?_
      go_wp2_with fail
      
      refine (H1.out _).mono ?_
      rintro e V1 ⟨rfl, hb1⟩
      have B1 := Lib.hid ((((Below.refl w.heap.size w).alloc (Nat.le_refl _) _).alloc (by simp <;> omega) _).trans (hb1.mono (by first | assumption | (simp <;> omega) | (simp; done))))
      have A1 := Lib.hid (row_call hb1 (row_alloc (heap_alloc_new _ _) _))
      have Z1 := Lib.hid (row_at (k' := w.heap.size + 1) (by simp) (row_call hb1 (heap_alloc_new _ _)))
      clear hb1
      have A1_0 : V1.cell? ⟨w.heap.size, 0, none⟩ = some (.int .u64 (zh x)) := cell_of_row _ _ _ _ _ _ A1.out
      have A1_1 : V1.cell? ⟨w.heap.size, 1, none⟩ = some (.int .u64 (zl x)) := cell_of_row _ _ _ _ _ _ A1.out
      have Z1_0 : V1.cell? ⟨w.heap.size + 1, 0, none⟩ = some (.int .i64 0) := cell_of_row _ _ _ _ _ _ Z1.out
      have Z1_1 : V1.cell? ⟨w.heap.size + 1, 1, none⟩ = some (.int .i64 0) := cell_of_row _ _ _ _ _ _ Z1.out
      have Z1_f0 : V1.frozen? ⟨w.heap.size + 1, 0, none⟩ = false := by simp [World.frozen?, Z1.out]
      have Z1_f1 : V1.frozen? ⟨w.heap.size + 1, 1, none⟩ = false := by simp [World.frozen?, Z1.out]
      have zA1 := lt_of_heap A1.out
      have zZ1 := lt_of_heap Z1.out
      go_simp
      go_wp2_with fail
      refine (H2.out _).mono ?_
      rintro e V2 ⟨rfl, hb2⟩
      clear A1_0 A1_1 zA1 Z1_0 Z1_1 Z1_f0 Z1_f1 zZ1
      have nA1I1 := Lib.hid (lt_of_heap A1.out)
      have nZ1I1 := Lib.hid (lt_of_heap Z1.out)
      have B2 := Lib.hid (((B1.out).alloc (B1.out.size) _).trans (hb2.mono (by have := B1.out.size; first | assumption | (simp <;> omega) | (simp; done))))
      replace A1 := Lib.hid (row_call hb2 (row_alloc A1.out _))
      replace Z1 := Lib.hid (row_call hb2 (row_alloc Z1.out _))
      have I1 := Lib.hid (row_call hb2 (heap_alloc_new _ _))
      clear hb2
      have A1_0 : V2.cell? ⟨w.heap.size, 0, none⟩ = some (.int .u64 (zh x)) := cell_of_row _ _ _ _ _ _ A1.out
      have A1_1 : V2.cell? ⟨w.heap.size, 1, none⟩ = some (.int .u64 (zl x)) := cell_of_row _ _ _ _ _ _ A1.out
      have Z1_0 : V2.cell? ⟨w.heap.size + 1, 0, none⟩ = some (.int .i64 0) := cell_of_row _ _ _ _ _ _ Z1.out
      have Z1_1 : V2.cell? ⟨w.heap.size + 1, 1, none⟩ = some (.int .i64 0) := cell_of_row _ _ _ _ _ _ Z1.out
      have Z1_f0 : V2.frozen? ⟨w.heap.size + 1, 0, none⟩ = false := by simp [World.frozen?, Z1.out]
      have Z1_f1 : V2.frozen? ⟨w.heap.size + 1, 1, none⟩ = false := by simp [World.frozen?, Z1.out]
      have I1_0 : V2.cell? ⟨V1.heap.size, 0, none⟩ = some (.int .i64 Q) := cell_of_row _ _ _ _ _ _ I1.out
      have I1_1 : V2.cell? ⟨V1.heap.size, 1, none⟩ = some (.int .i64 R) := cell_of_row _ _ _ _ _ _ I1.out
      have zA1 := lt_of_heap A1.out
      have zZ1 := lt_of_heap Z1.out
      have zI1 := lt_of_heap I1.out
      go_simp
      go_wp2
      refine shut_ret (v := .tuple #[.agg #[.int .i64 0, .int .i64 0], .int .i64 8]) (by simp [results, Try.results41, go_sem, zZ1, Z1_0, Z1_1]) rfl ⟨rfl, ?_⟩
      exact keep2 B2.out (by omega) _ _
  · rw [iV_not hq, iE_not hq, show ((8 : Int) == 0) = false from rfl] at X1
    obtain ⟨u1, u2, u3⟩ := dd_no (duE_far hq)
    rw [u1, u2, u3]
    have H1 := Lib.hid X1
    clear X1 X2 u1 u2 u3 hq b
    generalize x % 1000000000 = R at *
    go_enter Try.func41, Try.ntmps41
    refine wp_shut ?_
    go_wp2_with fail
    
    refine (H1.out _).mono ?_
    rintro e V1 ⟨rfl, hb1⟩
    have B1 := Lib.hid ((((Below.refl w.heap.size w).alloc (Nat.le_refl _) _).alloc (by simp <;> omega) _).trans (hb1.mono (by first | assumption | (simp <;> omega) | (simp; done))))
    have A1 := Lib.hid (row_call hb1 (row_alloc (heap_alloc_new _ _) _))
    have Z1 := Lib.hid (row_at (k' := w.heap.size + 1) (by simp) (row_call hb1 (heap_alloc_new _ _)))
    clear hb1
    have A1_0 : V1.cell? ⟨w.heap.size, 0, none⟩ = some (.int .u64 (zh x)) := cell_of_row _ _ _ _ _ _ A1.out
    have A1_1 : V1.cell? ⟨w.heap.size, 1, none⟩ = some (.int .u64 (zl x)) := cell_of_row _ _ _ _ _ _ A1.out
    have Z1_0 : V1.cell? ⟨w.heap.size + 1, 0, none⟩ = some (.int .i64 0) := cell_of_row _ _ _ _ _ _ Z1.out
    have Z1_1 : V1.cell? ⟨w.heap.size + 1, 1, none⟩ = some (.int .i64 0) := cell_of_row _ _ _ _ _ _ Z1.out
    have Z1_f0 : V1.frozen? ⟨w.heap.size + 1, 0, none⟩ = false := by simp [World.frozen?, Z1.out]
    have Z1_f1 : V1.frozen? ⟨w.heap.size + 1, 1, none⟩ = false := by simp [World.frozen?, Z1.out]
    have zA1 := lt_of_heap A1.out
    have zZ1 := lt_of_heap Z1.out
    go_simp
    go_wp2
    refine shut_ret (v := .tuple #[.agg #[.int .i64 0, .int .i64 0], .int .i64 8]) (by simp [results, Try.results41, go_sem, zZ1, Z1_0, Z1_1]) rfl ⟨rfl, ?_⟩
    exact (keep2 B1.out (by omega) _ _).alloc (by have := B1.out.size; simp; omega) _
end Go.Proofs.Ytlfbiidnfheelaa
