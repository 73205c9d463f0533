/- Contracts of the plain answers of layer 4: products, quotients, the negative. -/
import Derived.Test.YtjgpjphffjjhdaaDurE
namespace Go.Proofs.Ytjgpjphffjjhdaa
set_option linter.unusedVariables false
set_option linter.unusedSimpArgs false
open Go.ChangeShapes Go.WideShapes Go.ChangeAt Go.RowKit

theorem hl_shift (k : Nat) (u : U k) : zh ((k : Int) * 18446744073709551616) = k ∧ zl ((k : Int) * 18446744073709551616) = 0 := by
  unfold U at u
  unfold zh zl hi lo zw
  omega
theorem mulD_math (A N : Nat) (hA : A ≤ 1099511627776000000000) (hN : N ≤ 9223372036854775808) :
    (A * N < 170141183460469231731687303715884105728 → cb ((zl A * N : Nat) : Int) ((zl ((zh A * N : Nat) : Int) : Int) * 18446744073709551616) = false ∧ zh ((zh A * N : Nat) : Int) = 0 ∧ ((zl A * N : Nat) : Int) + (zl ((zh A * N : Nat) : Int) : Int) * 18446744073709551616 = ((A * N : Nat) : Int)) ∧
    (¬ A * N < 170141183460469231731687303715884105728 → cb ((zl A * N : Nat) : Int) ((zl ((zh A * N : Nat) : Int) : Int) * 18446744073709551616) = false → zh ((zh A * N : Nat) : Int) = 0 → neg (zh (((zl A * N : Nat) : Int) + (zl ((zh A * N : Nat) : Int) : Int) * 18446744073709551616)) = true) := by
  have e1 : A = zh A * 18446744073709551616 + zl A := by unfold zh zl hi lo zw; omega
  have b1 : zh A ≤ 59 := by unfold zh hi zw; omega
  have b0 : zl A < 18446744073709551616 := by unfold zl lo zw; omega
  generalize zh (A : Int) = a1 at *
  generalize zl (A : Int) = a0 at *
  have e2 : A * N = a1 * N * 18446744073709551616 + a0 * N := by rw [e1, Nat.add_mul, Nat.mul_right_comm]
  have h1 : a1 * N ≤ 59 * 9223372036854775808 := Nat.mul_le_mul b1 hN
  have h0 : a0 * N ≤ 18446744073709551615 * 9223372036854775808 := Nat.mul_le_mul (by omega) hN
  generalize A * N = P at *
  generalize a1 * N = h at *
  generalize a0 * N = l at *
  clear e1 b1 b0 hA hN
  unfold cb big neg
  refine ⟨fun g => ⟨decide_eq_false ?_, ?_, ?_⟩, fun g k1 k2 => decide_eq_true ?_⟩
  · unfold zl lo zw; omega
  · unfold zh hi zw; omega
  · unfold zl lo zw; omega
  · have k3 := of_decide_eq_false k1
    clear k1
    have h3 : h < 18446744073709551616 := by unfold zh hi zw at k2; omega
    have z1 : zl (h : Int) = h := by unfold zl lo zw; omega
    rw [z1] at k3 ⊢
    have z2 : zw (l : Int) = l := by unfold zw; omega
    have z3 : zw ((h : Int) * 18446744073709551616) = h * 18446744073709551616 := by unfold zw; omega
    rw [z2, z3] at k3
    have e3 : (l : Int) + (h : Int) * 18446744073709551616 = (P : Int) := by omega
    rw [e3]
    clear z1 z2 z3 e3 k2 h3 h1 h0
    unfold zh hi zw
    omega
theorem big_nanos {P n : Int} (h : ¬ P.natAbs * n.natAbs < 170141183460469231731687303715884105728) : ¬ (-1099511627776000000000 ≤ n * P ∧ n * P ≤ 1099511627776000000000) := by
  have h2 : (n * P).natAbs = n.natAbs * P.natAbs := Int.natAbs_mul n P
  rw [Nat.mul_comm] at h
  omega
set_option maxHeartbeats 3200000 in
set_option maxRecDepth 100000 in
theorem rdMul_true_over (d m n P M L G X Y S N E : Int) (k g : Nat)
    (H1 : Hid (∀ w, Calls Try.prog 11 #[.agg #[.int .i64 d, .int .i64 m]] w fun e w' => e = .returned (.int .i64 0) ∧ Below w.heap.size w w'))
    (H2 : Hid (∀ w, Calls Try.prog 36 #[.agg #[.int .i64 d, .int .i64 m]] w fun e w' => e = .returned (.agg #[.int .u64 (zh P), .int .u64 (zl P)]) ∧ Below w.heap.size w w'))
    (H3 : Hid (∀ w, Calls Try.prog 42 #[.agg #[.int .u64 (zh P), .int .u64 (zl P)]] w fun e w' => e = .returned (.bool true) ∧ Below w.heap.size w w'))
    (H4 : Hid (∀ w, Calls Try.prog 38 #[.agg #[.int .u64 (zh P), .int .u64 (zl P)]] w fun e w' => e = .returned (.agg #[.int .u64 (zh M), .int .u64 (zl M)]) ∧ Below w.heap.size w w'))
    (H5 : Hid (∀ w, Calls Try.prog 44 #[.int .i64 n] w fun e w' => e = .returned (.int .u64 k) ∧ Below w.heap.size w w'))
    (H6 : Hid (∀ w, Calls Try.prog 43 #[.int .u64 (zl M), .int .u64 k] w fun e w' => e = .returned (.agg #[.int .u64 (zh L), .int .u64 (zl L)]) ∧ Below w.heap.size w w'))
    (H7 : Hid (∀ w, Calls Try.prog 43 #[.int .u64 (zh M), .int .u64 k] w fun e w' => e = .returned (.agg #[.int .u64 g, .int .u64 (zl G)]) ∧ Below w.heap.size w w'))
    (H8 : Hid (∀ w, Calls Try.prog 35 #[.agg #[.int .u64 (zh L), .int .u64 (zl L)], .agg #[.int .u64 (zl G), .int .u64 0]] w fun e w' => e = .returned (.tuple #[.agg #[.int .u64 (zh X), .int .u64 (zl X)], .bool true]) ∧ Below w.heap.size w w'))
    (w : World) :
    Calls Try.prog 22 #[.agg #[.int .i64 d, .int .i64 m], .int .i64 n] w fun e w' => e = .returned (.tuple #[.agg #[.int .i64 0, .int .i64 0], .int .i64 8]) ∧ Below w.heap.size w w' := by
  go_enter Try.func22, Try.ntmps22
  refine wp_shut ?_
  go_wp2_with fail
  
  refine (H1.out _).mono ?_
  rintro e V1 ⟨rfl, hb1⟩
  have B1 := Lib.hid ((((Below.refl w.heap.size w).alloc (Nat.le_refl _) _).alloc (by simp <;> omega) _).trans (hb1.mono (by first | assumption | (simp <;> omega) | (simp; done))))
  have A1 := Lib.hid (row_call hb1 (row_alloc (heap_alloc_new _ _) _))
  have Z1 := Lib.hid (row_at (k' := w.heap.size + 1) (by simp) (row_call hb1 (heap_alloc_new _ _)))
  clear hb1
  have A1_0 : V1.cell? ⟨w.heap.size, 0, none⟩ = some (.int .i64 d) := cell_of_row _ _ _ _ _ _ A1.out
  have A1_1 : V1.cell? ⟨w.heap.size, 1, none⟩ = some (.int .i64 m) := cell_of_row _ _ _ _ _ _ A1.out
  have Z1_0 : V1.cell? ⟨w.heap.size + 1, 0, none⟩ = some (.int .i64 0) := cell_of_row _ _ _ _ _ _ Z1.out
  have Z1_1 : V1.cell? ⟨w.heap.size + 1, 1, none⟩ = some (.int .i64 0) := cell_of_row _ _ _ _ _ _ Z1.out
  have Z1_f0 : V1.frozen? ⟨w.heap.size + 1, 0, none⟩ = false := by simp [World.frozen?, Z1.out]
  have Z1_f1 : V1.frozen? ⟨w.heap.size + 1, 1, none⟩ = false := by simp [World.frozen?, Z1.out]
  have zA1 := lt_of_heap A1.out
  have zZ1 := lt_of_heap Z1.out
  go_simp
  go_wp2_with fail
  refine (H2.out _).mono ?_
  rintro e V2 ⟨rfl, hb2⟩
  clear A1_0 A1_1 zA1 Z1_0 Z1_1 Z1_f0 Z1_f1 zZ1
  have B2 : Hid (Below w.heap.size w V2) := by first | exact Lib.hid ((B1.out).trans (hb2.mono (by have := B1.out.size; first | assumption | (simp <;> omega) | (simp; done)))) | exact Lib.hid (((B1.out).alloc (B1.out.size) _).trans (hb2.mono (by have := B1.out.size; first | assumption | (simp <;> omega) | (simp; done)))) | exact Lib.hid ((((B1.out).alloc (B1.out.size) _).alloc (by have := B1.out.size; simp <;> omega) _).trans (hb2.mono (by have := B1.out.size; first | assumption | (simp <;> omega) | (simp; done)))) | exact Lib.hid (((((B1.out).alloc (B1.out.size) _).alloc (by have := B1.out.size; simp <;> omega) _).alloc (by have := B1.out.size; simp <;> omega) _).trans (hb2.mono (by have := B1.out.size; first | assumption | (simp <;> omega) | (simp; done))))
  first | replace A1 := Lib.hid (row_call hb2 A1.out) | replace A1 := Lib.hid (row_call hb2 (row_alloc A1.out _)) | replace A1 := Lib.hid (row_call hb2 (row_alloc (row_alloc A1.out _) _)) | replace A1 := Lib.hid (row_call hb2 (row_alloc (row_alloc (row_alloc A1.out _) _) _))
  first | replace Z1 := Lib.hid (row_call hb2 Z1.out) | replace Z1 := Lib.hid (row_call hb2 (row_alloc Z1.out _)) | replace Z1 := Lib.hid (row_call hb2 (row_alloc (row_alloc Z1.out _) _)) | replace Z1 := Lib.hid (row_call hb2 (row_alloc (row_alloc (row_alloc Z1.out _) _) _))
  clear hb2
  have A1_0 : V2.cell? ⟨w.heap.size, 0, none⟩ = some (.int .i64 d) := cell_of_row _ _ _ _ _ _ A1.out
  have A1_1 : V2.cell? ⟨w.heap.size, 1, none⟩ = some (.int .i64 m) := cell_of_row _ _ _ _ _ _ A1.out
  have Z1_0 : V2.cell? ⟨w.heap.size + 1, 0, none⟩ = some (.int .i64 0) := cell_of_row _ _ _ _ _ _ Z1.out
  have Z1_1 : V2.cell? ⟨w.heap.size + 1, 1, none⟩ = some (.int .i64 0) := cell_of_row _ _ _ _ _ _ Z1.out
  have Z1_f0 : V2.frozen? ⟨w.heap.size + 1, 0, none⟩ = false := by simp [World.frozen?, Z1.out]
  have Z1_f1 : V2.frozen? ⟨w.heap.size + 1, 1, none⟩ = false := by simp [World.frozen?, Z1.out]
  have zA1 := lt_of_heap A1.out
  have zZ1 := lt_of_heap Z1.out
  go_simp
  go_wp2_with fail
  refine (H3.out _).mono ?_
  rintro e V3 ⟨rfl, hb3⟩
  clear A1_0 A1_1 zA1 Z1_0 Z1_1 Z1_f0 Z1_f1 zZ1
  have nA1N1 := Lib.hid (lt_of_heap A1.out)
  have nZ1N1 := Lib.hid (lt_of_heap Z1.out)
  have nlZ1N1 : ¬ (w.heap.size + 1 = V2.heap.size) := Nat.ne_of_lt (lt_of_heap Z1.out)
  have nrZ1N1 : ¬ (V2.heap.size = w.heap.size + 1) := Ne.symm (Nat.ne_of_lt (lt_of_heap Z1.out))
  have B3 := Lib.hid (((B2.out).alloc (B2.out.size) _).trans (hb3.mono (by have := B2.out.size; first | assumption | (simp <;> omega) | (simp; done))))
  replace A1 := Lib.hid (row_call hb3 (row_alloc A1.out _))
  replace Z1 := Lib.hid (row_call hb3 (row_alloc Z1.out _))
  have N1 := Lib.hid (row_call hb3 (heap_alloc_new _ _))
  clear hb3
  have A1_0 : V3.cell? ⟨w.heap.size, 0, none⟩ = some (.int .i64 d) := cell_of_row _ _ _ _ _ _ A1.out
  have A1_1 : V3.cell? ⟨w.heap.size, 1, none⟩ = some (.int .i64 m) := cell_of_row _ _ _ _ _ _ A1.out
  have Z1_0 : V3.cell? ⟨w.heap.size + 1, 0, none⟩ = some (.int .i64 0) := cell_of_row _ _ _ _ _ _ Z1.out
  have Z1_1 : V3.cell? ⟨w.heap.size + 1, 1, none⟩ = some (.int .i64 0) := cell_of_row _ _ _ _ _ _ Z1.out
  have Z1_f0 : V3.frozen? ⟨w.heap.size + 1, 0, none⟩ = false := by simp [World.frozen?, Z1.out]
  have Z1_f1 : V3.frozen? ⟨w.heap.size + 1, 1, none⟩ = false := by simp [World.frozen?, Z1.out]
  have N1_0 : V3.cell? ⟨V2.heap.size, 0, none⟩ = some (.int .u64 (zh P)) := cell_of_row _ _ _ _ _ _ N1.out
  have N1_1 : V3.cell? ⟨V2.heap.size, 1, none⟩ = some (.int .u64 (zl P)) := cell_of_row _ _ _ _ _ _ N1.out
  have N1_f0 : V3.frozen? ⟨V2.heap.size, 0, none⟩ = false := by simp [World.frozen?, N1.out]
  have N1_f1 : V3.frozen? ⟨V2.heap.size, 1, none⟩ = false := by simp [World.frozen?, N1.out]
  have zA1 := lt_of_heap A1.out
  have zZ1 := lt_of_heap Z1.out
  have zN1 := lt_of_heap N1.out
  go_simp
  go_wp2_with fail
  refine (H3.out _).mono ?_
  rintro e V4 ⟨rfl, hb4⟩
  clear A1_0 A1_1 zA1 Z1_0 Z1_1 Z1_f0 Z1_f1 zZ1 N1_0 N1_1 N1_f0 N1_f1 zN1
  have B4 : Hid (Below w.heap.size w V4) := by first | exact Lib.hid ((B3.out).trans (hb4.mono (by have := B3.out.size; first | assumption | (simp <;> omega) | (simp; done)))) | exact Lib.hid (((B3.out).alloc (B3.out.size) _).trans (hb4.mono (by have := B3.out.size; first | assumption | (simp <;> omega) | (simp; done)))) | exact Lib.hid ((((B3.out).alloc (B3.out.size) _).alloc (by have := B3.out.size; simp <;> omega) _).trans (hb4.mono (by have := B3.out.size; first | assumption | (simp <;> omega) | (simp; done)))) | exact Lib.hid (((((B3.out).alloc (B3.out.size) _).alloc (by have := B3.out.size; simp <;> omega) _).alloc (by have := B3.out.size; simp <;> omega) _).trans (hb4.mono (by have := B3.out.size; first | assumption | (simp <;> omega) | (simp; done))))
  first | replace A1 := Lib.hid (row_call hb4 A1.out) | replace A1 := Lib.hid (row_call hb4 (row_alloc A1.out _)) | replace A1 := Lib.hid (row_call hb4 (row_alloc (row_alloc A1.out _) _)) | replace A1 := Lib.hid (row_call hb4 (row_alloc (row_alloc (row_alloc A1.out _) _) _))
  first | replace Z1 := Lib.hid (row_call hb4 Z1.out) | replace Z1 := Lib.hid (row_call hb4 (row_alloc Z1.out _)) | replace Z1 := Lib.hid (row_call hb4 (row_alloc (row_alloc Z1.out _) _)) | replace Z1 := Lib.hid (row_call hb4 (row_alloc (row_alloc (row_alloc Z1.out _) _) _))
  first | replace N1 := Lib.hid (row_call hb4 N1.out) | replace N1 := Lib.hid (row_call hb4 (row_alloc N1.out _)) | replace N1 := Lib.hid (row_call hb4 (row_alloc (row_alloc N1.out _) _)) | replace N1 := Lib.hid (row_call hb4 (row_alloc (row_alloc (row_alloc N1.out _) _) _))
  clear hb4
  have A1_0 : V4.cell? ⟨w.heap.size, 0, none⟩ = some (.int .i64 d) := cell_of_row _ _ _ _ _ _ A1.out
  have A1_1 : V4.cell? ⟨w.heap.size, 1, none⟩ = some (.int .i64 m) := cell_of_row _ _ _ _ _ _ A1.out
  have Z1_0 : V4.cell? ⟨w.heap.size + 1, 0, none⟩ = some (.int .i64 0) := cell_of_row _ _ _ _ _ _ Z1.out
  have Z1_1 : V4.cell? ⟨w.heap.size + 1, 1, none⟩ = some (.int .i64 0) := cell_of_row _ _ _ _ _ _ Z1.out
  have Z1_f0 : V4.frozen? ⟨w.heap.size + 1, 0, none⟩ = false := by simp [World.frozen?, Z1.out]
  have Z1_f1 : V4.frozen? ⟨w.heap.size + 1, 1, none⟩ = false := by simp [World.frozen?, Z1.out]
  have N1_0 : V4.cell? ⟨V2.heap.size, 0, none⟩ = some (.int .u64 (zh P)) := cell_of_row _ _ _ _ _ _ N1.out
  have N1_1 : V4.cell? ⟨V2.heap.size, 1, none⟩ = some (.int .u64 (zl P)) := cell_of_row _ _ _ _ _ _ N1.out
  have N1_f0 : V4.frozen? ⟨V2.heap.size, 0, none⟩ = false := by simp [World.frozen?, N1.out]
  have N1_f1 : V4.frozen? ⟨V2.heap.size, 1, none⟩ = false := by simp [World.frozen?, N1.out]
  have zA1 := lt_of_heap A1.out
  have zZ1 := lt_of_heap Z1.out
  have zN1 := lt_of_heap N1.out
  go_simp
  go_wp2_with fail
  refine (H4.out _).mono ?_
  rintro e V5 ⟨rfl, hb5⟩
  clear A1_0 A1_1 zA1 Z1_0 Z1_1 Z1_f0 Z1_f1 zZ1 N1_0 N1_1 N1_f0 N1_f1 zN1
  have B5 : Hid (Below w.heap.size w V5) := by first | exact Lib.hid ((B4.out).trans (hb5.mono (by have := B4.out.size; first | assumption | (simp <;> omega) | (simp; done)))) | exact Lib.hid (((B4.out).alloc (B4.out.size) _).trans (hb5.mono (by have := B4.out.size; first | assumption | (simp <;> omega) | (simp; done)))) | exact Lib.hid ((((B4.out).alloc (B4.out.size) _).alloc (by have := B4.out.size; simp <;> omega) _).trans (hb5.mono (by have := B4.out.size; first | assumption | (simp <;> omega) | (simp; done)))) | exact Lib.hid (((((B4.out).alloc (B4.out.size) _).alloc (by have := B4.out.size; simp <;> omega) _).alloc (by have := B4.out.size; simp <;> omega) _).trans (hb5.mono (by have := B4.out.size; first | assumption | (simp <;> omega) | (simp; done))))
  first | replace A1 := Lib.hid (row_call hb5 A1.out) | replace A1 := Lib.hid (row_call hb5 (row_alloc A1.out _)) | replace A1 := Lib.hid (row_call hb5 (row_alloc (row_alloc A1.out _) _)) | replace A1 := Lib.hid (row_call hb5 (row_alloc (row_alloc (row_alloc A1.out _) _) _))
  first | replace Z1 := Lib.hid (row_call hb5 Z1.out) | replace Z1 := Lib.hid (row_call hb5 (row_alloc Z1.out _)) | replace Z1 := Lib.hid (row_call hb5 (row_alloc (row_alloc Z1.out _) _)) | replace Z1 := Lib.hid (row_call hb5 (row_alloc (row_alloc (row_alloc Z1.out _) _) _))
  first | replace N1 := Lib.hid (row_call hb5 N1.out) | replace N1 := Lib.hid (row_call hb5 (row_alloc N1.out _)) | replace N1 := Lib.hid (row_call hb5 (row_alloc (row_alloc N1.out _) _)) | replace N1 := Lib.hid (row_call hb5 (row_alloc (row_alloc (row_alloc N1.out _) _) _))
  clear hb5
  have A1_0 : V5.cell? ⟨w.heap.size, 0, none⟩ = some (.int .i64 d) := cell_of_row _ _ _ _ _ _ A1.out
  have A1_1 : V5.cell? ⟨w.heap.size, 1, none⟩ = some (.int .i64 m) := cell_of_row _ _ _ _ _ _ A1.out
  have Z1_0 : V5.cell? ⟨w.heap.size + 1, 0, none⟩ = some (.int .i64 0) := cell_of_row _ _ _ _ _ _ Z1.out
  have Z1_1 : V5.cell? ⟨w.heap.size + 1, 1, none⟩ = some (.int .i64 0) := cell_of_row _ _ _ _ _ _ Z1.out
  have Z1_f0 : V5.frozen? ⟨w.heap.size + 1, 0, none⟩ = false := by simp [World.frozen?, Z1.out]
  have Z1_f1 : V5.frozen? ⟨w.heap.size + 1, 1, none⟩ = false := by simp [World.frozen?, Z1.out]
  have N1_0 : V5.cell? ⟨V2.heap.size, 0, none⟩ = some (.int .u64 (zh P)) := cell_of_row _ _ _ _ _ _ N1.out
  have N1_1 : V5.cell? ⟨V2.heap.size, 1, none⟩ = some (.int .u64 (zl P)) := cell_of_row _ _ _ _ _ _ N1.out
  have N1_f0 : V5.frozen? ⟨V2.heap.size, 0, none⟩ = false := by simp [World.frozen?, N1.out]
  have N1_f1 : V5.frozen? ⟨V2.heap.size, 1, none⟩ = false := by simp [World.frozen?, N1.out]
  have zA1 := lt_of_heap A1.out
  have zZ1 := lt_of_heap Z1.out
  have zN1 := lt_of_heap N1.out
  go_simp
  go_wp2_with fail
  clear A1_0 A1_1 zA1 Z1_0 Z1_1 Z1_f0 Z1_f1 zZ1 N1_0 N1_1 N1_f0 N1_f1 zN1
  obtain ⟨W0, hW0⟩ : ∃ W0, W0 = ((V5.setCell ⟨V2.heap.size, 0, none⟩ (Value.int .u64 (zh M))).setCell ⟨V2.heap.size, 1, none⟩ (Value.int .u64 (zl M))) := ⟨_, rfl⟩
  replace A1 := Lib.hid (row_by hW0 (row_other (by have := nA1N1.out; omega) A1.out _ _))
  replace Z1 := Lib.hid (row_by hW0 (row_other (by have := nZ1N1.out; omega) Z1.out _ _))
  replace N1 := Lib.hid (row_by hW0 (row_set N1.out _ _))
  have HB0 := Lib.hid (below_by hW0 (keep2 (B5.out) (by have := B2.out.size; omega) _ _))
  have HW0 := Lib.hid hW0
  clear hW0
  have A1_0 : W0.cell? ⟨w.heap.size, 0, none⟩ = some (.int .i64 d) := cell_of_row _ _ _ _ _ _ A1.out
  have A1_1 : W0.cell? ⟨w.heap.size, 1, none⟩ = some (.int .i64 m) := cell_of_row _ _ _ _ _ _ A1.out
  have zA1 := lt_of_heap A1.out
  have Z1_0 : W0.cell? ⟨w.heap.size + 1, 0, none⟩ = some (.int .i64 0) := cell_of_row _ _ _ _ _ _ Z1.out
  have Z1_1 : W0.cell? ⟨w.heap.size + 1, 1, none⟩ = some (.int .i64 0) := cell_of_row _ _ _ _ _ _ Z1.out
  have Z1_f0 : W0.frozen? ⟨w.heap.size + 1, 0, none⟩ = false := (by simp [World.frozen?, Z1.out])
  have Z1_f1 : W0.frozen? ⟨w.heap.size + 1, 1, none⟩ = false := (by simp [World.frozen?, Z1.out])
  have zZ1 := lt_of_heap Z1.out
  have N1_0 : W0.cell? ⟨V2.heap.size, 0, none⟩ = some (.int .u64 (zh M)) := cell_of_row _ _ _ _ _ _ N1.out
  have N1_1 : W0.cell? ⟨V2.heap.size, 1, none⟩ = some (.int .u64 (zl M)) := cell_of_row _ _ _ _ _ _ N1.out
  have N1_f0 : W0.frozen? ⟨V2.heap.size, 0, none⟩ = false := (by simp [World.frozen?, N1.out])
  have N1_f1 : W0.frozen? ⟨V2.heap.size, 1, none⟩ = false := (by simp [World.frozen?, N1.out])
  have zN1 := lt_of_heap N1.out
  try rw [← HW0.out]
  go_cut [9] (fun s9 wx => ∃ gL1 : Nat, s9 = .pointer (some ⟨gL1, 0, none⟩) ∧ wx.heap[gL1]? = some (.cells #[.int .u64 (zh L), .int .u64 (zl L)] 46 (0, 0)) ∧ Below W0.heap.size W0 wx)
  case first =>
    go_region_held3 (fun w' => Below W0.heap.size W0 w' ∧ w'.cell? ⟨V2.heap.size, 0, none⟩ = some (.int .u64 (zh M)) ∧ w'.cell? ⟨V2.heap.size, 1, none⟩ = some (.int .u64 (zl M)))
    (first
      | ((try go_split_ands); refine ⟨(Below.refl _ _).drew, ?_, ?_⟩ <;> first | assumption | (rw [World.cell?_drew]; assumption))
      | ((try go_split_ands); refine ⟨keepS (W0 := W0) ?_ hb1, cellS (W0 := W0) ?_ hb1 ?_ ?_, cellS (W0 := W0) ?_ hb1 ?_ ?_⟩ <;> first | assumption | omega)
      | ((try go_split_ands); refine ⟨keepA (W0 := W0) ?_ _, cellA (W0 := W0) ?_ _ ?_ ?_, cellA (W0 := W0) ?_ _ ?_ ?_⟩ <;> first | assumption | omega)
      | ((try go_split_ands); refine ⟨keepAd (W0 := W0) ?_ _, cellAd (W0 := W0) ?_ _ ?_ ?_, cellAd (W0 := W0) ?_ _ ?_ ?_⟩ <;> first | assumption | omega | exact Below.refl _ _)
      | ((try go_split_ands); refine ⟨keep2 (W0 := W0) ?_ ?_ _ _, cell2 (W0 := W0) ?_ _ _ ?_ ?_, cell2 (W0 := W0) ?_ _ _ ?_ ?_⟩ <;> first | assumption | omega | exact Nat.le_refl _)
      | ((try go_split_ands); refine ⟨keepZ (W0 := W0) ?_ ?_ _, cellZ (W0 := W0) ?_ _ ?_ ?_, cellZ (W0 := W0) ?_ _ ?_ ?_⟩ <;> first | assumption | omega | exact Nat.le_refl _ | exact ⟨_, by assumption⟩))
    (first | (go_at_call 44; (with_reducible refine (H5.out _).mono ?_); rintro e w1 ⟨rfl, hb1⟩; (try go_split_ands); have hge : W0.heap.size ≤ w1.heap.size := (by first | (refine (keepS (W0 := W0) ?_ hb1).size; assumption) | exact (hb1.size : W0.heap.size ≤ w1.heap.size)); (try have hrow := row_call hb1 hrow); (try have hrow := row_new hb1); (try have hrow := row_newd hb1); have hl1 := lt_below hb1; obtain ⟨hc1, hf1⟩ := bcell hb1; (try (have hrc := row_cellA hrow; clear hc1 hf1)); (try have hrf := row_frozA hrow)) | (go_at_call 43; (with_reducible refine (H6.out _).mono ?_); rintro e w1 ⟨rfl, hb1⟩; (try go_split_ands); have hge : W0.heap.size ≤ w1.heap.size := (by first | (refine (keepS (W0 := W0) ?_ hb1).size; assumption) | exact (hb1.size : W0.heap.size ≤ w1.heap.size)); (try have hrow := row_call hb1 hrow); (try have hrow := row_new hb1); (try have hrow := row_newd hb1); have hl1 := lt_below hb1; obtain ⟨hc1, hf1⟩ := bcell hb1; (try (have hrc := row_cellA hrow; clear hc1 hf1)); (try have hrf := row_frozA hrow)))
    all_goals (try go_split_ands)
    all_goals (go_wp2_with fail; go_meet; refine ⟨_, rfl, ?_, ?_⟩)
    all_goals first | assumption | exact heap_alloc_new _ _ | exact row_set (by assumption) _ _
  case rest =>
    obtain ⟨gL1, rfl, hL1, hB⟩ := hcut
    obtain ⟨V6, rfl⟩ : ∃ V, V = wc := ⟨_, rfl⟩
    have L1 := Lib.hid hL1
    clear hL1
    clear A1_0 A1_1 zA1 Z1_0 Z1_1 Z1_f0 Z1_f1 zZ1 N1_0 N1_1 N1_f0 N1_f1 zN1
    replace A1 := Lib.hid (row_call hB A1.out)
    replace Z1 := Lib.hid (row_call hB Z1.out)
    replace N1 := Lib.hid (row_call hB N1.out)
    have B6 := Lib.hid (HB0.out.trans (hB.mono HB0.out.size))
    clear hB
    have A1_0 : V6.cell? ⟨w.heap.size, 0, none⟩ = some (.int .i64 d) := cell_of_row _ _ _ _ _ _ A1.out
    have A1_1 : V6.cell? ⟨w.heap.size, 1, none⟩ = some (.int .i64 m) := cell_of_row _ _ _ _ _ _ A1.out
    have zA1 := lt_of_heap A1.out
    have Z1_0 : V6.cell? ⟨w.heap.size + 1, 0, none⟩ = some (.int .i64 0) := cell_of_row _ _ _ _ _ _ Z1.out
    have Z1_1 : V6.cell? ⟨w.heap.size + 1, 1, none⟩ = some (.int .i64 0) := cell_of_row _ _ _ _ _ _ Z1.out
    have Z1_f0 : V6.frozen? ⟨w.heap.size + 1, 0, none⟩ = false := (by simp [World.frozen?, Z1.out])
    have Z1_f1 : V6.frozen? ⟨w.heap.size + 1, 1, none⟩ = false := (by simp [World.frozen?, Z1.out])
    have zZ1 := lt_of_heap Z1.out
    have N1_0 : V6.cell? ⟨V2.heap.size, 0, none⟩ = some (.int .u64 (zh M)) := cell_of_row _ _ _ _ _ _ N1.out
    have N1_1 : V6.cell? ⟨V2.heap.size, 1, none⟩ = some (.int .u64 (zl M)) := cell_of_row _ _ _ _ _ _ N1.out
    have N1_f0 : V6.frozen? ⟨V2.heap.size, 0, none⟩ = false := (by simp [World.frozen?, N1.out])
    have N1_f1 : V6.frozen? ⟨V2.heap.size, 1, none⟩ = false := (by simp [World.frozen?, N1.out])
    have zN1 := lt_of_heap N1.out
    have L1_0 : V6.cell? ⟨gL1, 0, none⟩ = some (.int .u64 (zh L)) := cell_of_row _ _ _ _ _ _ L1.out
    have L1_1 : V6.cell? ⟨gL1, 1, none⟩ = some (.int .u64 (zl L)) := cell_of_row _ _ _ _ _ _ L1.out
    have zL1 := lt_of_heap L1.out
    go_wp2_with fail
    clear A1_0 A1_1 zA1 Z1_0 Z1_1 Z1_f0 Z1_f1 zZ1 N1_0 N1_1 N1_f0 N1_f1 zN1 L1_0 L1_1 zL1
    obtain ⟨W0, hW0⟩ : ∃ W0, W0 = V6 := ⟨_, rfl⟩
    replace A1 := Lib.hid (row_by hW0 A1.out)
    replace Z1 := Lib.hid (row_by hW0 Z1.out)
    replace N1 := Lib.hid (row_by hW0 N1.out)
    replace L1 := Lib.hid (row_by hW0 L1.out)
    have HB0 := Lib.hid (below_by hW0 (B6.out))
    have HW0 := Lib.hid hW0
    clear hW0
    have A1_0 : W0.cell? ⟨w.heap.size, 0, none⟩ = some (.int .i64 d) := cell_of_row _ _ _ _ _ _ A1.out
    have A1_1 : W0.cell? ⟨w.heap.size, 1, none⟩ = some (.int .i64 m) := cell_of_row _ _ _ _ _ _ A1.out
    have zA1 := lt_of_heap A1.out
    have Z1_0 : W0.cell? ⟨w.heap.size + 1, 0, none⟩ = some (.int .i64 0) := cell_of_row _ _ _ _ _ _ Z1.out
    have Z1_1 : W0.cell? ⟨w.heap.size + 1, 1, none⟩ = some (.int .i64 0) := cell_of_row _ _ _ _ _ _ Z1.out
    have Z1_f0 : W0.frozen? ⟨w.heap.size + 1, 0, none⟩ = false := (by simp [World.frozen?, Z1.out])
    have Z1_f1 : W0.frozen? ⟨w.heap.size + 1, 1, none⟩ = false := (by simp [World.frozen?, Z1.out])
    have zZ1 := lt_of_heap Z1.out
    have N1_0 : W0.cell? ⟨V2.heap.size, 0, none⟩ = some (.int .u64 (zh M)) := cell_of_row _ _ _ _ _ _ N1.out
    have N1_1 : W0.cell? ⟨V2.heap.size, 1, none⟩ = some (.int .u64 (zl M)) := cell_of_row _ _ _ _ _ _ N1.out
    have N1_f0 : W0.frozen? ⟨V2.heap.size, 0, none⟩ = false := (by simp [World.frozen?, N1.out])
    have N1_f1 : W0.frozen? ⟨V2.heap.size, 1, none⟩ = false := (by simp [World.frozen?, N1.out])
    have zN1 := lt_of_heap N1.out
    have L1_0 : W0.cell? ⟨gL1, 0, none⟩ = some (.int .u64 (zh L)) := cell_of_row _ _ _ _ _ _ L1.out
    have L1_1 : W0.cell? ⟨gL1, 1, none⟩ = some (.int .u64 (zl L)) := cell_of_row _ _ _ _ _ _ L1.out
    have zL1 := lt_of_heap L1.out
    try rw [← HW0.out]
    go_cut [10] (fun s10 wx => ∃ gK1 : Nat, s10 = .pointer (some ⟨gK1, 0, none⟩) ∧ wx.heap[gK1]? = some (.cells #[.int .u64 g, .int .u64 (zl G)] 46 (0, 0)) ∧ Below W0.heap.size W0 wx)
    case first =>
      go_region_held3 (fun w' => Below W0.heap.size W0 w' ∧ w'.cell? ⟨V2.heap.size, 0, none⟩ = some (.int .u64 (zh M)) ∧ w'.cell? ⟨V2.heap.size, 1, none⟩ = some (.int .u64 (zl M)))
    (first
      | ((try go_split_ands); refine ⟨(Below.refl _ _).drew, ?_, ?_⟩ <;> first | assumption | (rw [World.cell?_drew]; assumption))
      | ((try go_split_ands); refine ⟨keepS (W0 := W0) ?_ hb1, cellS (W0 := W0) ?_ hb1 ?_ ?_, cellS (W0 := W0) ?_ hb1 ?_ ?_⟩ <;> first | assumption | omega)
      | ((try go_split_ands); refine ⟨keepA (W0 := W0) ?_ _, cellA (W0 := W0) ?_ _ ?_ ?_, cellA (W0 := W0) ?_ _ ?_ ?_⟩ <;> first | assumption | omega)
      | ((try go_split_ands); refine ⟨keepAd (W0 := W0) ?_ _, cellAd (W0 := W0) ?_ _ ?_ ?_, cellAd (W0 := W0) ?_ _ ?_ ?_⟩ <;> first | assumption | omega | exact Below.refl _ _)
      | ((try go_split_ands); refine ⟨keep2 (W0 := W0) ?_ ?_ _ _, cell2 (W0 := W0) ?_ _ _ ?_ ?_, cell2 (W0 := W0) ?_ _ _ ?_ ?_⟩ <;> first | assumption | omega | exact Nat.le_refl _)
      | ((try go_split_ands); refine ⟨keepZ (W0 := W0) ?_ ?_ _, cellZ (W0 := W0) ?_ _ ?_ ?_, cellZ (W0 := W0) ?_ _ ?_ ?_⟩ <;> first | assumption | omega | exact Nat.le_refl _ | exact ⟨_, by assumption⟩))
    (first | (go_at_call 44; (with_reducible refine (H5.out _).mono ?_); rintro e w1 ⟨rfl, hb1⟩; (try go_split_ands); have hge : W0.heap.size ≤ w1.heap.size := (by first | (refine (keepS (W0 := W0) ?_ hb1).size; assumption) | exact (hb1.size : W0.heap.size ≤ w1.heap.size)); (try have hrow := row_call hb1 hrow); (try have hrow := row_new hb1); (try have hrow := row_newd hb1); have hl1 := lt_below hb1; obtain ⟨hc1, hf1⟩ := bcell hb1; (try (have hrc := row_cellA hrow; clear hc1 hf1)); (try have hrf := row_frozA hrow)) | (go_at_call 43; (with_reducible refine (H7.out _).mono ?_); rintro e w1 ⟨rfl, hb1⟩; (try go_split_ands); have hge : W0.heap.size ≤ w1.heap.size := (by first | (refine (keepS (W0 := W0) ?_ hb1).size; assumption) | exact (hb1.size : W0.heap.size ≤ w1.heap.size)); (try have hrow := row_call hb1 hrow); (try have hrow := row_new hb1); (try have hrow := row_newd hb1); have hl1 := lt_below hb1; obtain ⟨hc1, hf1⟩ := bcell hb1; (try (have hrc := row_cellA hrow; clear hc1 hf1)); (try have hrf := row_frozA hrow)))
      all_goals (try go_split_ands)
      all_goals (go_wp2_with fail; go_meet; refine ⟨_, rfl, ?_, ?_⟩)
      all_goals first | assumption | exact heap_alloc_new _ _ | exact row_set (by assumption) _ _
    case rest =>
      obtain ⟨gK1, rfl, hK1, hB⟩ := hcut
      obtain ⟨V7, rfl⟩ : ∃ V, V = wc := ⟨_, rfl⟩
      have K1 := Lib.hid hK1
      clear hK1
      clear A1_0 A1_1 zA1 Z1_0 Z1_1 Z1_f0 Z1_f1 zZ1 N1_0 N1_1 N1_f0 N1_f1 zN1 L1_0 L1_1 zL1
      replace A1 := Lib.hid (row_call hB A1.out)
      replace Z1 := Lib.hid (row_call hB Z1.out)
      replace N1 := Lib.hid (row_call hB N1.out)
      replace L1 := Lib.hid (row_call hB L1.out)
      have B7 := Lib.hid (HB0.out.trans (hB.mono HB0.out.size))
      clear hB
      have A1_0 : V7.cell? ⟨w.heap.size, 0, none⟩ = some (.int .i64 d) := cell_of_row _ _ _ _ _ _ A1.out
      have A1_1 : V7.cell? ⟨w.heap.size, 1, none⟩ = some (.int .i64 m) := cell_of_row _ _ _ _ _ _ A1.out
      have zA1 := lt_of_heap A1.out
      have Z1_0 : V7.cell? ⟨w.heap.size + 1, 0, none⟩ = some (.int .i64 0) := cell_of_row _ _ _ _ _ _ Z1.out
      have Z1_1 : V7.cell? ⟨w.heap.size + 1, 1, none⟩ = some (.int .i64 0) := cell_of_row _ _ _ _ _ _ Z1.out
      have Z1_f0 : V7.frozen? ⟨w.heap.size + 1, 0, none⟩ = false := (by simp [World.frozen?, Z1.out])
      have Z1_f1 : V7.frozen? ⟨w.heap.size + 1, 1, none⟩ = false := (by simp [World.frozen?, Z1.out])
      have zZ1 := lt_of_heap Z1.out
      have N1_0 : V7.cell? ⟨V2.heap.size, 0, none⟩ = some (.int .u64 (zh M)) := cell_of_row _ _ _ _ _ _ N1.out
      have N1_1 : V7.cell? ⟨V2.heap.size, 1, none⟩ = some (.int .u64 (zl M)) := cell_of_row _ _ _ _ _ _ N1.out
      have N1_f0 : V7.frozen? ⟨V2.heap.size, 0, none⟩ = false := (by simp [World.frozen?, N1.out])
      have N1_f1 : V7.frozen? ⟨V2.heap.size, 1, none⟩ = false := (by simp [World.frozen?, N1.out])
      have zN1 := lt_of_heap N1.out
      have L1_0 : V7.cell? ⟨gL1, 0, none⟩ = some (.int .u64 (zh L)) := cell_of_row _ _ _ _ _ _ L1.out
      have L1_1 : V7.cell? ⟨gL1, 1, none⟩ = some (.int .u64 (zl L)) := cell_of_row _ _ _ _ _ _ L1.out
      have zL1 := lt_of_heap L1.out
      have K1_0 : V7.cell? ⟨gK1, 0, none⟩ = some (.int .u64 g) := cell_of_row _ _ _ _ _ _ K1.out
      have K1_1 : V7.cell? ⟨gK1, 1, none⟩ = some (.int .u64 (zl G)) := cell_of_row _ _ _ _ _ _ K1.out
      have zK1 := lt_of_heap K1.out
      go_wp2_with fail
      refine (H8.out _).mono ?_
      rintro e V8 ⟨rfl, hb8⟩
      clear A1_0 A1_1 zA1 Z1_0 Z1_1 Z1_f0 Z1_f1 zZ1 N1_0 N1_1 N1_f0 N1_f1 zN1 L1_0 L1_1 zL1 K1_0 K1_1 zK1
      have B8 : Hid (Below w.heap.size w V8) := by first | exact Lib.hid ((B7.out).trans (hb8.mono (by have := B7.out.size; first | assumption | (simp <;> omega) | (simp; done)))) | exact Lib.hid (((B7.out).alloc (B7.out.size) _).trans (hb8.mono (by have := B7.out.size; first | assumption | (simp <;> omega) | (simp; done)))) | exact Lib.hid ((((B7.out).alloc (B7.out.size) _).alloc (by have := B7.out.size; simp <;> omega) _).trans (hb8.mono (by have := B7.out.size; first | assumption | (simp <;> omega) | (simp; done)))) | exact Lib.hid (((((B7.out).alloc (B7.out.size) _).alloc (by have := B7.out.size; simp <;> omega) _).alloc (by have := B7.out.size; simp <;> omega) _).trans (hb8.mono (by have := B7.out.size; first | assumption | (simp <;> omega) | (simp; done))))
      first | replace A1 := Lib.hid (row_call hb8 A1.out) | replace A1 := Lib.hid (row_call hb8 (row_alloc A1.out _)) | replace A1 := Lib.hid (row_call hb8 (row_alloc (row_alloc A1.out _) _)) | replace A1 := Lib.hid (row_call hb8 (row_alloc (row_alloc (row_alloc A1.out _) _) _))
      first | replace Z1 := Lib.hid (row_call hb8 Z1.out) | replace Z1 := Lib.hid (row_call hb8 (row_alloc Z1.out _)) | replace Z1 := Lib.hid (row_call hb8 (row_alloc (row_alloc Z1.out _) _)) | replace Z1 := Lib.hid (row_call hb8 (row_alloc (row_alloc (row_alloc Z1.out _) _) _))
      first | replace N1 := Lib.hid (row_call hb8 N1.out) | replace N1 := Lib.hid (row_call hb8 (row_alloc N1.out _)) | replace N1 := Lib.hid (row_call hb8 (row_alloc (row_alloc N1.out _) _)) | replace N1 := Lib.hid (row_call hb8 (row_alloc (row_alloc (row_alloc N1.out _) _) _))
      first | replace L1 := Lib.hid (row_call hb8 L1.out) | replace L1 := Lib.hid (row_call hb8 (row_alloc L1.out _)) | replace L1 := Lib.hid (row_call hb8 (row_alloc (row_alloc L1.out _) _)) | replace L1 := Lib.hid (row_call hb8 (row_alloc (row_alloc (row_alloc L1.out _) _) _))
      first | replace K1 := Lib.hid (row_call hb8 K1.out) | replace K1 := Lib.hid (row_call hb8 (row_alloc K1.out _)) | replace K1 := Lib.hid (row_call hb8 (row_alloc (row_alloc K1.out _) _)) | replace K1 := Lib.hid (row_call hb8 (row_alloc (row_alloc (row_alloc K1.out _) _) _))
      clear hb8
      have A1_0 : V8.cell? ⟨w.heap.size, 0, none⟩ = some (.int .i64 d) := cell_of_row _ _ _ _ _ _ A1.out
      have A1_1 : V8.cell? ⟨w.heap.size, 1, none⟩ = some (.int .i64 m) := cell_of_row _ _ _ _ _ _ A1.out
      have Z1_0 : V8.cell? ⟨w.heap.size + 1, 0, none⟩ = some (.int .i64 0) := cell_of_row _ _ _ _ _ _ Z1.out
      have Z1_1 : V8.cell? ⟨w.heap.size + 1, 1, none⟩ = some (.int .i64 0) := cell_of_row _ _ _ _ _ _ Z1.out
      have Z1_f0 : V8.frozen? ⟨w.heap.size + 1, 0, none⟩ = false := by simp [World.frozen?, Z1.out]
      have Z1_f1 : V8.frozen? ⟨w.heap.size + 1, 1, none⟩ = false := by simp [World.frozen?, Z1.out]
      have N1_0 : V8.cell? ⟨V2.heap.size, 0, none⟩ = some (.int .u64 (zh M)) := cell_of_row _ _ _ _ _ _ N1.out
      have N1_1 : V8.cell? ⟨V2.heap.size, 1, none⟩ = some (.int .u64 (zl M)) := cell_of_row _ _ _ _ _ _ N1.out
      have N1_f0 : V8.frozen? ⟨V2.heap.size, 0, none⟩ = false := by simp [World.frozen?, N1.out]
      have N1_f1 : V8.frozen? ⟨V2.heap.size, 1, none⟩ = false := by simp [World.frozen?, N1.out]
      have L1_0 : V8.cell? ⟨gL1, 0, none⟩ = some (.int .u64 (zh L)) := cell_of_row _ _ _ _ _ _ L1.out
      have L1_1 : V8.cell? ⟨gL1, 1, none⟩ = some (.int .u64 (zl L)) := cell_of_row _ _ _ _ _ _ L1.out
      have K1_0 : V8.cell? ⟨gK1, 0, none⟩ = some (.int .u64 g) := cell_of_row _ _ _ _ _ _ K1.out
      have K1_1 : V8.cell? ⟨gK1, 1, none⟩ = some (.int .u64 (zl G)) := cell_of_row _ _ _ _ _ _ K1.out
      have zA1 := lt_of_heap A1.out
      have zZ1 := lt_of_heap Z1.out
      have zN1 := lt_of_heap N1.out
      have zL1 := lt_of_heap L1.out
      have zK1 := lt_of_heap K1.out
      go_simp
      go_wp2
      refine shut_ret (v := .tuple #[.agg #[.int .i64 0, .int .i64 0], .int .i64 8]) (by simp [results, Try.results22, go_sem, zZ1, Z1_0, Z1_1]) rfl ⟨rfl, ?_⟩
      first | exact keep2 B8.out (by omega) _ _ | exact keep2 (keep2 B8.out (by have := B8.out.size; omega) _ _) (by first | omega | (simp; omega)) _ _ | exact (keep2 B8.out (by omega) _ _).alloc (by have := B8.out.size; simp; omega) _
set_option maxHeartbeats 3200000 in
set_option maxRecDepth 100000 in
theorem rdMul_true_high (d m n P M L G X Y S N E : Int) (k g : Nat)
    (H1 : Hid (∀ w, Calls Try.prog 11 #[.agg #[.int .i64 d, .int .i64 m]] w fun e w' => e = .returned (.int .i64 0) ∧ Below w.heap.size w w'))
    (H2 : Hid (∀ w, Calls Try.prog 36 #[.agg #[.int .i64 d, .int .i64 m]] w fun e w' => e = .returned (.agg #[.int .u64 (zh P), .int .u64 (zl P)]) ∧ Below w.heap.size w w'))
    (H3 : Hid (∀ w, Calls Try.prog 42 #[.agg #[.int .u64 (zh P), .int .u64 (zl P)]] w fun e w' => e = .returned (.bool true) ∧ Below w.heap.size w w'))
    (H4 : Hid (∀ w, Calls Try.prog 38 #[.agg #[.int .u64 (zh P), .int .u64 (zl P)]] w fun e w' => e = .returned (.agg #[.int .u64 (zh M), .int .u64 (zl M)]) ∧ Below w.heap.size w w'))
    (H5 : Hid (∀ w, Calls Try.prog 44 #[.int .i64 n] w fun e w' => e = .returned (.int .u64 k) ∧ Below w.heap.size w w'))
    (H6 : Hid (∀ w, Calls Try.prog 43 #[.int .u64 (zl M), .int .u64 k] w fun e w' => e = .returned (.agg #[.int .u64 (zh L), .int .u64 (zl L)]) ∧ Below w.heap.size w w'))
    (H7 : Hid (∀ w, Calls Try.prog 43 #[.int .u64 (zh M), .int .u64 k] w fun e w' => e = .returned (.agg #[.int .u64 g, .int .u64 (zl G)]) ∧ Below w.heap.size w w'))
    (H8 : Hid (∀ w, Calls Try.prog 35 #[.agg #[.int .u64 (zh L), .int .u64 (zl L)], .agg #[.int .u64 (zl G), .int .u64 0]] w fun e w' => e = .returned (.tuple #[.agg #[.int .u64 (zh X), .int .u64 (zl X)], .bool false]) ∧ Below w.heap.size w w'))
    (hg : g ≠ 0)
    (w : World) :
    Calls Try.prog 22 #[.agg #[.int .i64 d, .int .i64 m], .int .i64 n] w fun e w' => e = .returned (.tuple #[.agg #[.int .i64 0, .int .i64 0], .int .i64 8]) ∧ Below w.heap.size w w' := by
  have g1 : ¬ ((g : Int) = 0) := by omega
  have g2 : ((g : Int) == 0) = false := by rw [beq_eq_false_iff_ne]; exact g1
  clear hg
  go_enter Try.func22, Try.ntmps22
  refine wp_shut ?_
  go_wp2_with fail
  
  refine (H1.out _).mono ?_
  rintro e V1 ⟨rfl, hb1⟩
  have B1 := Lib.hid ((((Below.refl w.heap.size w).alloc (Nat.le_refl _) _).alloc (by simp <;> omega) _).trans (hb1.mono (by first | assumption | (simp <;> omega) | (simp; done))))
  have A1 := Lib.hid (row_call hb1 (row_alloc (heap_alloc_new _ _) _))
  have Z1 := Lib.hid (row_at (k' := w.heap.size + 1) (by simp) (row_call hb1 (heap_alloc_new _ _)))
  clear hb1
  have A1_0 : V1.cell? ⟨w.heap.size, 0, none⟩ = some (.int .i64 d) := cell_of_row _ _ _ _ _ _ A1.out
  have A1_1 : V1.cell? ⟨w.heap.size, 1, none⟩ = some (.int .i64 m) := cell_of_row _ _ _ _ _ _ A1.out
  have Z1_0 : V1.cell? ⟨w.heap.size + 1, 0, none⟩ = some (.int .i64 0) := cell_of_row _ _ _ _ _ _ Z1.out
  have Z1_1 : V1.cell? ⟨w.heap.size + 1, 1, none⟩ = some (.int .i64 0) := cell_of_row _ _ _ _ _ _ Z1.out
  have Z1_f0 : V1.frozen? ⟨w.heap.size + 1, 0, none⟩ = false := by simp [World.frozen?, Z1.out]
  have Z1_f1 : V1.frozen? ⟨w.heap.size + 1, 1, none⟩ = false := by simp [World.frozen?, Z1.out]
  have zA1 := lt_of_heap A1.out
  have zZ1 := lt_of_heap Z1.out
  go_simp
  go_wp2_with fail
  refine (H2.out _).mono ?_
  rintro e V2 ⟨rfl, hb2⟩
  clear A1_0 A1_1 zA1 Z1_0 Z1_1 Z1_f0 Z1_f1 zZ1
  have B2 : Hid (Below w.heap.size w V2) := by first | exact Lib.hid ((B1.out).trans (hb2.mono (by have := B1.out.size; first | assumption | (simp <;> omega) | (simp; done)))) | exact Lib.hid (((B1.out).alloc (B1.out.size) _).trans (hb2.mono (by have := B1.out.size; first | assumption | (simp <;> omega) | (simp; done)))) | exact Lib.hid ((((B1.out).alloc (B1.out.size) _).alloc (by have := B1.out.size; simp <;> omega) _).trans (hb2.mono (by have := B1.out.size; first | assumption | (simp <;> omega) | (simp; done)))) | exact Lib.hid (((((B1.out).alloc (B1.out.size) _).alloc (by have := B1.out.size; simp <;> omega) _).alloc (by have := B1.out.size; simp <;> omega) _).trans (hb2.mono (by have := B1.out.size; first | assumption | (simp <;> omega) | (simp; done))))
  first | replace A1 := Lib.hid (row_call hb2 A1.out) | replace A1 := Lib.hid (row_call hb2 (row_alloc A1.out _)) | replace A1 := Lib.hid (row_call hb2 (row_alloc (row_alloc A1.out _) _)) | replace A1 := Lib.hid (row_call hb2 (row_alloc (row_alloc (row_alloc A1.out _) _) _))
  first | replace Z1 := Lib.hid (row_call hb2 Z1.out) | replace Z1 := Lib.hid (row_call hb2 (row_alloc Z1.out _)) | replace Z1 := Lib.hid (row_call hb2 (row_alloc (row_alloc Z1.out _) _)) | replace Z1 := Lib.hid (row_call hb2 (row_alloc (row_alloc (row_alloc Z1.out _) _) _))
  clear hb2
  have A1_0 : V2.cell? ⟨w.heap.size, 0, none⟩ = some (.int .i64 d) := cell_of_row _ _ _ _ _ _ A1.out
  have A1_1 : V2.cell? ⟨w.heap.size, 1, none⟩ = some (.int .i64 m) := cell_of_row _ _ _ _ _ _ A1.out
  have Z1_0 : V2.cell? ⟨w.heap.size + 1, 0, none⟩ = some (.int .i64 0) := cell_of_row _ _ _ _ _ _ Z1.out
  have Z1_1 : V2.cell? ⟨w.heap.size + 1, 1, none⟩ = some (.int .i64 0) := cell_of_row _ _ _ _ _ _ Z1.out
  have Z1_f0 : V2.frozen? ⟨w.heap.size + 1, 0, none⟩ = false := by simp [World.frozen?, Z1.out]
  have Z1_f1 : V2.frozen? ⟨w.heap.size + 1, 1, none⟩ = false := by simp [World.frozen?, Z1.out]
  have zA1 := lt_of_heap A1.out
  have zZ1 := lt_of_heap Z1.out
  go_simp
  go_wp2_with fail
  refine (H3.out _).mono ?_
  rintro e V3 ⟨rfl, hb3⟩
  clear A1_0 A1_1 zA1 Z1_0 Z1_1 Z1_f0 Z1_f1 zZ1
  have nA1N1 := Lib.hid (lt_of_heap A1.out)
  have nZ1N1 := Lib.hid (lt_of_heap Z1.out)
  have nlZ1N1 : ¬ (w.heap.size + 1 = V2.heap.size) := Nat.ne_of_lt (lt_of_heap Z1.out)
  have nrZ1N1 : ¬ (V2.heap.size = w.heap.size + 1) := Ne.symm (Nat.ne_of_lt (lt_of_heap Z1.out))
  have B3 := Lib.hid (((B2.out).alloc (B2.out.size) _).trans (hb3.mono (by have := B2.out.size; first | assumption | (simp <;> omega) | (simp; done))))
  replace A1 := Lib.hid (row_call hb3 (row_alloc A1.out _))
  replace Z1 := Lib.hid (row_call hb3 (row_alloc Z1.out _))
  have N1 := Lib.hid (row_call hb3 (heap_alloc_new _ _))
  clear hb3
  have A1_0 : V3.cell? ⟨w.heap.size, 0, none⟩ = some (.int .i64 d) := cell_of_row _ _ _ _ _ _ A1.out
  have A1_1 : V3.cell? ⟨w.heap.size, 1, none⟩ = some (.int .i64 m) := cell_of_row _ _ _ _ _ _ A1.out
  have Z1_0 : V3.cell? ⟨w.heap.size + 1, 0, none⟩ = some (.int .i64 0) := cell_of_row _ _ _ _ _ _ Z1.out
  have Z1_1 : V3.cell? ⟨w.heap.size + 1, 1, none⟩ = some (.int .i64 0) := cell_of_row _ _ _ _ _ _ Z1.out
  have Z1_f0 : V3.frozen? ⟨w.heap.size + 1, 0, none⟩ = false := by simp [World.frozen?, Z1.out]
  have Z1_f1 : V3.frozen? ⟨w.heap.size + 1, 1, none⟩ = false := by simp [World.frozen?, Z1.out]
  have N1_0 : V3.cell? ⟨V2.heap.size, 0, none⟩ = some (.int .u64 (zh P)) := cell_of_row _ _ _ _ _ _ N1.out
  have N1_1 : V3.cell? ⟨V2.heap.size, 1, none⟩ = some (.int .u64 (zl P)) := cell_of_row _ _ _ _ _ _ N1.out
  have N1_f0 : V3.frozen? ⟨V2.heap.size, 0, none⟩ = false := by simp [World.frozen?, N1.out]
  have N1_f1 : V3.frozen? ⟨V2.heap.size, 1, none⟩ = false := by simp [World.frozen?, N1.out]
  have zA1 := lt_of_heap A1.out
  have zZ1 := lt_of_heap Z1.out
  have zN1 := lt_of_heap N1.out
  go_simp
  go_wp2_with fail
  refine (H3.out _).mono ?_
  rintro e V4 ⟨rfl, hb4⟩
  clear A1_0 A1_1 zA1 Z1_0 Z1_1 Z1_f0 Z1_f1 zZ1 N1_0 N1_1 N1_f0 N1_f1 zN1
  have B4 : Hid (Below w.heap.size w V4) := by first | exact Lib.hid ((B3.out).trans (hb4.mono (by have := B3.out.size; first | assumption | (simp <;> omega) | (simp; done)))) | exact Lib.hid (((B3.out).alloc (B3.out.size) _).trans (hb4.mono (by have := B3.out.size; first | assumption | (simp <;> omega) | (simp; done)))) | exact Lib.hid ((((B3.out).alloc (B3.out.size) _).alloc (by have := B3.out.size; simp <;> omega) _).trans (hb4.mono (by have := B3.out.size; first | assumption | (simp <;> omega) | (simp; done)))) | exact Lib.hid (((((B3.out).alloc (B3.out.size) _).alloc (by have := B3.out.size; simp <;> omega) _).alloc (by have := B3.out.size; simp <;> omega) _).trans (hb4.mono (by have := B3.out.size; first | assumption | (simp <;> omega) | (simp; done))))
  first | replace A1 := Lib.hid (row_call hb4 A1.out) | replace A1 := Lib.hid (row_call hb4 (row_alloc A1.out _)) | replace A1 := Lib.hid (row_call hb4 (row_alloc (row_alloc A1.out _) _)) | replace A1 := Lib.hid (row_call hb4 (row_alloc (row_alloc (row_alloc A1.out _) _) _))
  first | replace Z1 := Lib.hid (row_call hb4 Z1.out) | replace Z1 := Lib.hid (row_call hb4 (row_alloc Z1.out _)) | replace Z1 := Lib.hid (row_call hb4 (row_alloc (row_alloc Z1.out _) _)) | replace Z1 := Lib.hid (row_call hb4 (row_alloc (row_alloc (row_alloc Z1.out _) _) _))
  first | replace N1 := Lib.hid (row_call hb4 N1.out) | replace N1 := Lib.hid (row_call hb4 (row_alloc N1.out _)) | replace N1 := Lib.hid (row_call hb4 (row_alloc (row_alloc N1.out _) _)) | replace N1 := Lib.hid (row_call hb4 (row_alloc (row_alloc (row_alloc N1.out _) _) _))
  clear hb4
  have A1_0 : V4.cell? ⟨w.heap.size, 0, none⟩ = some (.int .i64 d) := cell_of_row _ _ _ _ _ _ A1.out
  have A1_1 : V4.cell? ⟨w.heap.size, 1, none⟩ = some (.int .i64 m) := cell_of_row _ _ _ _ _ _ A1.out
  have Z1_0 : V4.cell? ⟨w.heap.size + 1, 0, none⟩ = some (.int .i64 0) := cell_of_row _ _ _ _ _ _ Z1.out
  have Z1_1 : V4.cell? ⟨w.heap.size + 1, 1, none⟩ = some (.int .i64 0) := cell_of_row _ _ _ _ _ _ Z1.out
  have Z1_f0 : V4.frozen? ⟨w.heap.size + 1, 0, none⟩ = false := by simp [World.frozen?, Z1.out]
  have Z1_f1 : V4.frozen? ⟨w.heap.size + 1, 1, none⟩ = false := by simp [World.frozen?, Z1.out]
  have N1_0 : V4.cell? ⟨V2.heap.size, 0, none⟩ = some (.int .u64 (zh P)) := cell_of_row _ _ _ _ _ _ N1.out
  have N1_1 : V4.cell? ⟨V2.heap.size, 1, none⟩ = some (.int .u64 (zl P)) := cell_of_row _ _ _ _ _ _ N1.out
  have N1_f0 : V4.frozen? ⟨V2.heap.size, 0, none⟩ = false := by simp [World.frozen?, N1.out]
  have N1_f1 : V4.frozen? ⟨V2.heap.size, 1, none⟩ = false := by simp [World.frozen?, N1.out]
  have zA1 := lt_of_heap A1.out
  have zZ1 := lt_of_heap Z1.out
  have zN1 := lt_of_heap N1.out
  go_simp
  go_wp2_with fail
  refine (H4.out _).mono ?_
  rintro e V5 ⟨rfl, hb5⟩
  clear A1_0 A1_1 zA1 Z1_0 Z1_1 Z1_f0 Z1_f1 zZ1 N1_0 N1_1 N1_f0 N1_f1 zN1
  have B5 : Hid (Below w.heap.size w V5) := by first | exact Lib.hid ((B4.out).trans (hb5.mono (by have := B4.out.size; first | assumption | (simp <;> omega) | (simp; done)))) | exact Lib.hid (((B4.out).alloc (B4.out.size) _).trans (hb5.mono (by have := B4.out.size; first | assumption | (simp <;> omega) | (simp; done)))) | exact Lib.hid ((((B4.out).alloc (B4.out.size) _).alloc (by have := B4.out.size; simp <;> omega) _).trans (hb5.mono (by have := B4.out.size; first | assumption | (simp <;> omega) | (simp; done)))) | exact Lib.hid (((((B4.out).alloc (B4.out.size) _).alloc (by have := B4.out.size; simp <;> omega) _).alloc (by have := B4.out.size; simp <;> omega) _).trans (hb5.mono (by have := B4.out.size; first | assumption | (simp <;> omega) | (simp; done))))
  first | replace A1 := Lib.hid (row_call hb5 A1.out) | replace A1 := Lib.hid (row_call hb5 (row_alloc A1.out _)) | replace A1 := Lib.hid (row_call hb5 (row_alloc (row_alloc A1.out _) _)) | replace A1 := Lib.hid (row_call hb5 (row_alloc (row_alloc (row_alloc A1.out _) _) _))
  first | replace Z1 := Lib.hid (row_call hb5 Z1.out) | replace Z1 := Lib.hid (row_call hb5 (row_alloc Z1.out _)) | replace Z1 := Lib.hid (row_call hb5 (row_alloc (row_alloc Z1.out _) _)) | replace Z1 := Lib.hid (row_call hb5 (row_alloc (row_alloc (row_alloc Z1.out _) _) _))
  first | replace N1 := Lib.hid (row_call hb5 N1.out) | replace N1 := Lib.hid (row_call hb5 (row_alloc N1.out _)) | replace N1 := Lib.hid (row_call hb5 (row_alloc (row_alloc N1.out _) _)) | replace N1 := Lib.hid (row_call hb5 (row_alloc (row_alloc (row_alloc N1.out _) _) _))
  clear hb5
  have A1_0 : V5.cell? ⟨w.heap.size, 0, none⟩ = some (.int .i64 d) := cell_of_row _ _ _ _ _ _ A1.out
  have A1_1 : V5.cell? ⟨w.heap.size, 1, none⟩ = some (.int .i64 m) := cell_of_row _ _ _ _ _ _ A1.out
  have Z1_0 : V5.cell? ⟨w.heap.size + 1, 0, none⟩ = some (.int .i64 0) := cell_of_row _ _ _ _ _ _ Z1.out
  have Z1_1 : V5.cell? ⟨w.heap.size + 1, 1, none⟩ = some (.int .i64 0) := cell_of_row _ _ _ _ _ _ Z1.out
  have Z1_f0 : V5.frozen? ⟨w.heap.size + 1, 0, none⟩ = false := by simp [World.frozen?, Z1.out]
  have Z1_f1 : V5.frozen? ⟨w.heap.size + 1, 1, none⟩ = false := by simp [World.frozen?, Z1.out]
  have N1_0 : V5.cell? ⟨V2.heap.size, 0, none⟩ = some (.int .u64 (zh P)) := cell_of_row _ _ _ _ _ _ N1.out
  have N1_1 : V5.cell? ⟨V2.heap.size, 1, none⟩ = some (.int .u64 (zl P)) := cell_of_row _ _ _ _ _ _ N1.out
  have N1_f0 : V5.frozen? ⟨V2.heap.size, 0, none⟩ = false := by simp [World.frozen?, N1.out]
  have N1_f1 : V5.frozen? ⟨V2.heap.size, 1, none⟩ = false := by simp [World.frozen?, N1.out]
  have zA1 := lt_of_heap A1.out
  have zZ1 := lt_of_heap Z1.out
  have zN1 := lt_of_heap N1.out
  go_simp
  go_wp2_with fail
  clear A1_0 A1_1 zA1 Z1_0 Z1_1 Z1_f0 Z1_f1 zZ1 N1_0 N1_1 N1_f0 N1_f1 zN1
  obtain ⟨W0, hW0⟩ : ∃ W0, W0 = ((V5.setCell ⟨V2.heap.size, 0, none⟩ (Value.int .u64 (zh M))).setCell ⟨V2.heap.size, 1, none⟩ (Value.int .u64 (zl M))) := ⟨_, rfl⟩
  replace A1 := Lib.hid (row_by hW0 (row_other (by have := nA1N1.out; omega) A1.out _ _))
  replace Z1 := Lib.hid (row_by hW0 (row_other (by have := nZ1N1.out; omega) Z1.out _ _))
  replace N1 := Lib.hid (row_by hW0 (row_set N1.out _ _))
  have HB0 := Lib.hid (below_by hW0 (keep2 (B5.out) (by have := B2.out.size; omega) _ _))
  have HW0 := Lib.hid hW0
  clear hW0
  have A1_0 : W0.cell? ⟨w.heap.size, 0, none⟩ = some (.int .i64 d) := cell_of_row _ _ _ _ _ _ A1.out
  have A1_1 : W0.cell? ⟨w.heap.size, 1, none⟩ = some (.int .i64 m) := cell_of_row _ _ _ _ _ _ A1.out
  have zA1 := lt_of_heap A1.out
  have Z1_0 : W0.cell? ⟨w.heap.size + 1, 0, none⟩ = some (.int .i64 0) := cell_of_row _ _ _ _ _ _ Z1.out
  have Z1_1 : W0.cell? ⟨w.heap.size + 1, 1, none⟩ = some (.int .i64 0) := cell_of_row _ _ _ _ _ _ Z1.out
  have Z1_f0 : W0.frozen? ⟨w.heap.size + 1, 0, none⟩ = false := (by simp [World.frozen?, Z1.out])
  have Z1_f1 : W0.frozen? ⟨w.heap.size + 1, 1, none⟩ = false := (by simp [World.frozen?, Z1.out])
  have zZ1 := lt_of_heap Z1.out
  have N1_0 : W0.cell? ⟨V2.heap.size, 0, none⟩ = some (.int .u64 (zh M)) := cell_of_row _ _ _ _ _ _ N1.out
  have N1_1 : W0.cell? ⟨V2.heap.size, 1, none⟩ = some (.int .u64 (zl M)) := cell_of_row _ _ _ _ _ _ N1.out
  have N1_f0 : W0.frozen? ⟨V2.heap.size, 0, none⟩ = false := (by simp [World.frozen?, N1.out])
  have N1_f1 : W0.frozen? ⟨V2.heap.size, 1, none⟩ = false := (by simp [World.frozen?, N1.out])
  have zN1 := lt_of_heap N1.out
  try rw [← HW0.out]
  go_cut [9] (fun s9 wx => ∃ gL1 : Nat, s9 = .pointer (some ⟨gL1, 0, none⟩) ∧ wx.heap[gL1]? = some (.cells #[.int .u64 (zh L), .int .u64 (zl L)] 46 (0, 0)) ∧ Below W0.heap.size W0 wx)
  case first =>
    go_region_held3 (fun w' => Below W0.heap.size W0 w' ∧ w'.cell? ⟨V2.heap.size, 0, none⟩ = some (.int .u64 (zh M)) ∧ w'.cell? ⟨V2.heap.size, 1, none⟩ = some (.int .u64 (zl M)))
    (first
      | ((try go_split_ands); refine ⟨(Below.refl _ _).drew, ?_, ?_⟩ <;> first | assumption | (rw [World.cell?_drew]; assumption))
      | ((try go_split_ands); refine ⟨keepS (W0 := W0) ?_ hb1, cellS (W0 := W0) ?_ hb1 ?_ ?_, cellS (W0 := W0) ?_ hb1 ?_ ?_⟩ <;> first | assumption | omega)
      | ((try go_split_ands); refine ⟨keepA (W0 := W0) ?_ _, cellA (W0 := W0) ?_ _ ?_ ?_, cellA (W0 := W0) ?_ _ ?_ ?_⟩ <;> first | assumption | omega)
      | ((try go_split_ands); refine ⟨keepAd (W0 := W0) ?_ _, cellAd (W0 := W0) ?_ _ ?_ ?_, cellAd (W0 := W0) ?_ _ ?_ ?_⟩ <;> first | assumption | omega | exact Below.refl _ _)
      | ((try go_split_ands); refine ⟨keep2 (W0 := W0) ?_ ?_ _ _, cell2 (W0 := W0) ?_ _ _ ?_ ?_, cell2 (W0 := W0) ?_ _ _ ?_ ?_⟩ <;> first | assumption | omega | exact Nat.le_refl _)
      | ((try go_split_ands); refine ⟨keepZ (W0 := W0) ?_ ?_ _, cellZ (W0 := W0) ?_ _ ?_ ?_, cellZ (W0 := W0) ?_ _ ?_ ?_⟩ <;> first | assumption | omega | exact Nat.le_refl _ | exact ⟨_, by assumption⟩))
    (first | (go_at_call 44; (with_reducible refine (H5.out _).mono ?_); rintro e w1 ⟨rfl, hb1⟩; (try go_split_ands); have hge : W0.heap.size ≤ w1.heap.size := (by first | (refine (keepS (W0 := W0) ?_ hb1).size; assumption) | exact (hb1.size : W0.heap.size ≤ w1.heap.size)); (try have hrow := row_call hb1 hrow); (try have hrow := row_new hb1); (try have hrow := row_newd hb1); have hl1 := lt_below hb1; obtain ⟨hc1, hf1⟩ := bcell hb1; (try (have hrc := row_cellA hrow; clear hc1 hf1)); (try have hrf := row_frozA hrow)) | (go_at_call 43; (with_reducible refine (H6.out _).mono ?_); rintro e w1 ⟨rfl, hb1⟩; (try go_split_ands); have hge : W0.heap.size ≤ w1.heap.size := (by first | (refine (keepS (W0 := W0) ?_ hb1).size; assumption) | exact (hb1.size : W0.heap.size ≤ w1.heap.size)); (try have hrow := row_call hb1 hrow); (try have hrow := row_new hb1); (try have hrow := row_newd hb1); have hl1 := lt_below hb1; obtain ⟨hc1, hf1⟩ := bcell hb1; (try (have hrc := row_cellA hrow; clear hc1 hf1)); (try have hrf := row_frozA hrow)))
    all_goals (try go_split_ands)
    all_goals (go_wp2_with fail; go_meet; refine ⟨_, rfl, ?_, ?_⟩)
    all_goals first | assumption | exact heap_alloc_new _ _ | exact row_set (by assumption) _ _
  case rest =>
    obtain ⟨gL1, rfl, hL1, hB⟩ := hcut
    obtain ⟨V6, rfl⟩ : ∃ V, V = wc := ⟨_, rfl⟩
    have L1 := Lib.hid hL1
    clear hL1
    clear A1_0 A1_1 zA1 Z1_0 Z1_1 Z1_f0 Z1_f1 zZ1 N1_0 N1_1 N1_f0 N1_f1 zN1
    replace A1 := Lib.hid (row_call hB A1.out)
    replace Z1 := Lib.hid (row_call hB Z1.out)
    replace N1 := Lib.hid (row_call hB N1.out)
    have B6 := Lib.hid (HB0.out.trans (hB.mono HB0.out.size))
    clear hB
    have A1_0 : V6.cell? ⟨w.heap.size, 0, none⟩ = some (.int .i64 d) := cell_of_row _ _ _ _ _ _ A1.out
    have A1_1 : V6.cell? ⟨w.heap.size, 1, none⟩ = some (.int .i64 m) := cell_of_row _ _ _ _ _ _ A1.out
    have zA1 := lt_of_heap A1.out
    have Z1_0 : V6.cell? ⟨w.heap.size + 1, 0, none⟩ = some (.int .i64 0) := cell_of_row _ _ _ _ _ _ Z1.out
    have Z1_1 : V6.cell? ⟨w.heap.size + 1, 1, none⟩ = some (.int .i64 0) := cell_of_row _ _ _ _ _ _ Z1.out
    have Z1_f0 : V6.frozen? ⟨w.heap.size + 1, 0, none⟩ = false := (by simp [World.frozen?, Z1.out])
    have Z1_f1 : V6.frozen? ⟨w.heap.size + 1, 1, none⟩ = false := (by simp [World.frozen?, Z1.out])
    have zZ1 := lt_of_heap Z1.out
    have N1_0 : V6.cell? ⟨V2.heap.size, 0, none⟩ = some (.int .u64 (zh M)) := cell_of_row _ _ _ _ _ _ N1.out
    have N1_1 : V6.cell? ⟨V2.heap.size, 1, none⟩ = some (.int .u64 (zl M)) := cell_of_row _ _ _ _ _ _ N1.out
    have N1_f0 : V6.frozen? ⟨V2.heap.size, 0, none⟩ = false := (by simp [World.frozen?, N1.out])
    have N1_f1 : V6.frozen? ⟨V2.heap.size, 1, none⟩ = false := (by simp [World.frozen?, N1.out])
    have zN1 := lt_of_heap N1.out
    have L1_0 : V6.cell? ⟨gL1, 0, none⟩ = some (.int .u64 (zh L)) := cell_of_row _ _ _ _ _ _ L1.out
    have L1_1 : V6.cell? ⟨gL1, 1, none⟩ = some (.int .u64 (zl L)) := cell_of_row _ _ _ _ _ _ L1.out
    have zL1 := lt_of_heap L1.out
    go_wp2_with fail
    clear A1_0 A1_1 zA1 Z1_0 Z1_1 Z1_f0 Z1_f1 zZ1 N1_0 N1_1 N1_f0 N1_f1 zN1 L1_0 L1_1 zL1
    obtain ⟨W0, hW0⟩ : ∃ W0, W0 = V6 := ⟨_, rfl⟩
    replace A1 := Lib.hid (row_by hW0 A1.out)
    replace Z1 := Lib.hid (row_by hW0 Z1.out)
    replace N1 := Lib.hid (row_by hW0 N1.out)
    replace L1 := Lib.hid (row_by hW0 L1.out)
    have HB0 := Lib.hid (below_by hW0 (B6.out))
    have HW0 := Lib.hid hW0
    clear hW0
    have A1_0 : W0.cell? ⟨w.heap.size, 0, none⟩ = some (.int .i64 d) := cell_of_row _ _ _ _ _ _ A1.out
    have A1_1 : W0.cell? ⟨w.heap.size, 1, none⟩ = some (.int .i64 m) := cell_of_row _ _ _ _ _ _ A1.out
    have zA1 := lt_of_heap A1.out
    have Z1_0 : W0.cell? ⟨w.heap.size + 1, 0, none⟩ = some (.int .i64 0) := cell_of_row _ _ _ _ _ _ Z1.out
    have Z1_1 : W0.cell? ⟨w.heap.size + 1, 1, none⟩ = some (.int .i64 0) := cell_of_row _ _ _ _ _ _ Z1.out
    have Z1_f0 : W0.frozen? ⟨w.heap.size + 1, 0, none⟩ = false := (by simp [World.frozen?, Z1.out])
    have Z1_f1 : W0.frozen? ⟨w.heap.size + 1, 1, none⟩ = false := (by simp [World.frozen?, Z1.out])
    have zZ1 := lt_of_heap Z1.out
    have N1_0 : W0.cell? ⟨V2.heap.size, 0, none⟩ = some (.int .u64 (zh M)) := cell_of_row _ _ _ _ _ _ N1.out
    have N1_1 : W0.cell? ⟨V2.heap.size, 1, none⟩ = some (.int .u64 (zl M)) := cell_of_row _ _ _ _ _ _ N1.out
    have N1_f0 : W0.frozen? ⟨V2.heap.size, 0, none⟩ = false := (by simp [World.frozen?, N1.out])
    have N1_f1 : W0.frozen? ⟨V2.heap.size, 1, none⟩ = false := (by simp [World.frozen?, N1.out])
    have zN1 := lt_of_heap N1.out
    have L1_0 : W0.cell? ⟨gL1, 0, none⟩ = some (.int .u64 (zh L)) := cell_of_row _ _ _ _ _ _ L1.out
    have L1_1 : W0.cell? ⟨gL1, 1, none⟩ = some (.int .u64 (zl L)) := cell_of_row _ _ _ _ _ _ L1.out
    have zL1 := lt_of_heap L1.out
    try rw [← HW0.out]
    go_cut [10] (fun s10 wx => ∃ gK1 : Nat, s10 = .pointer (some ⟨gK1, 0, none⟩) ∧ wx.heap[gK1]? = some (.cells #[.int .u64 g, .int .u64 (zl G)] 46 (0, 0)) ∧ Below W0.heap.size W0 wx)
    case first =>
      go_region_held3 (fun w' => Below W0.heap.size W0 w' ∧ w'.cell? ⟨V2.heap.size, 0, none⟩ = some (.int .u64 (zh M)) ∧ w'.cell? ⟨V2.heap.size, 1, none⟩ = some (.int .u64 (zl M)))
    (first
      | ((try go_split_ands); refine ⟨(Below.refl _ _).drew, ?_, ?_⟩ <;> first | assumption | (rw [World.cell?_drew]; assumption))
      | ((try go_split_ands); refine ⟨keepS (W0 := W0) ?_ hb1, cellS (W0 := W0) ?_ hb1 ?_ ?_, cellS (W0 := W0) ?_ hb1 ?_ ?_⟩ <;> first | assumption | omega)
      | ((try go_split_ands); refine ⟨keepA (W0 := W0) ?_ _, cellA (W0 := W0) ?_ _ ?_ ?_, cellA (W0 := W0) ?_ _ ?_ ?_⟩ <;> first | assumption | omega)
      | ((try go_split_ands); refine ⟨keepAd (W0 := W0) ?_ _, cellAd (W0 := W0) ?_ _ ?_ ?_, cellAd (W0 := W0) ?_ _ ?_ ?_⟩ <;> first | assumption | omega | exact Below.refl _ _)
      | ((try go_split_ands); refine ⟨keep2 (W0 := W0) ?_ ?_ _ _, cell2 (W0 := W0) ?_ _ _ ?_ ?_, cell2 (W0 := W0) ?_ _ _ ?_ ?_⟩ <;> first | assumption | omega | exact Nat.le_refl _)
      | ((try go_split_ands); refine ⟨keepZ (W0 := W0) ?_ ?_ _, cellZ (W0 := W0) ?_ _ ?_ ?_, cellZ (W0 := W0) ?_ _ ?_ ?_⟩ <;> first | assumption | omega | exact Nat.le_refl _ | exact ⟨_, by assumption⟩))
    (first | (go_at_call 44; (with_reducible refine (H5.out _).mono ?_); rintro e w1 ⟨rfl, hb1⟩; (try go_split_ands); have hge : W0.heap.size ≤ w1.heap.size := (by first | (refine (keepS (W0 := W0) ?_ hb1).size; assumption) | exact (hb1.size : W0.heap.size ≤ w1.heap.size)); (try have hrow := row_call hb1 hrow); (try have hrow := row_new hb1); (try have hrow := row_newd hb1); have hl1 := lt_below hb1; obtain ⟨hc1, hf1⟩ := bcell hb1; (try (have hrc := row_cellA hrow; clear hc1 hf1)); (try have hrf := row_frozA hrow)) | (go_at_call 43; (with_reducible refine (H7.out _).mono ?_); rintro e w1 ⟨rfl, hb1⟩; (try go_split_ands); have hge : W0.heap.size ≤ w1.heap.size := (by first | (refine (keepS (W0 := W0) ?_ hb1).size; assumption) | exact (hb1.size : W0.heap.size ≤ w1.heap.size)); (try have hrow := row_call hb1 hrow); (try have hrow := row_new hb1); (try have hrow := row_newd hb1); have hl1 := lt_below hb1; obtain ⟨hc1, hf1⟩ := bcell hb1; (try (have hrc := row_cellA hrow; clear hc1 hf1)); (try have hrf := row_frozA hrow)))
      all_goals (try go_split_ands)
      all_goals (go_wp2_with fail; go_meet; refine ⟨_, rfl, ?_, ?_⟩)
      all_goals first | assumption | exact heap_alloc_new _ _ | exact row_set (by assumption) _ _
    case rest =>
      obtain ⟨gK1, rfl, hK1, hB⟩ := hcut
      obtain ⟨V7, rfl⟩ : ∃ V, V = wc := ⟨_, rfl⟩
      have K1 := Lib.hid hK1
      clear hK1
      clear A1_0 A1_1 zA1 Z1_0 Z1_1 Z1_f0 Z1_f1 zZ1 N1_0 N1_1 N1_f0 N1_f1 zN1 L1_0 L1_1 zL1
      replace A1 := Lib.hid (row_call hB A1.out)
      replace Z1 := Lib.hid (row_call hB Z1.out)
      replace N1 := Lib.hid (row_call hB N1.out)
      replace L1 := Lib.hid (row_call hB L1.out)
      have B7 := Lib.hid (HB0.out.trans (hB.mono HB0.out.size))
      clear hB
      have A1_0 : V7.cell? ⟨w.heap.size, 0, none⟩ = some (.int .i64 d) := cell_of_row _ _ _ _ _ _ A1.out
      have A1_1 : V7.cell? ⟨w.heap.size, 1, none⟩ = some (.int .i64 m) := cell_of_row _ _ _ _ _ _ A1.out
      have zA1 := lt_of_heap A1.out
      have Z1_0 : V7.cell? ⟨w.heap.size + 1, 0, none⟩ = some (.int .i64 0) := cell_of_row _ _ _ _ _ _ Z1.out
      have Z1_1 : V7.cell? ⟨w.heap.size + 1, 1, none⟩ = some (.int .i64 0) := cell_of_row _ _ _ _ _ _ Z1.out
      have Z1_f0 : V7.frozen? ⟨w.heap.size + 1, 0, none⟩ = false := (by simp [World.frozen?, Z1.out])
      have Z1_f1 : V7.frozen? ⟨w.heap.size + 1, 1, none⟩ = false := (by simp [World.frozen?, Z1.out])
      have zZ1 := lt_of_heap Z1.out
      have N1_0 : V7.cell? ⟨V2.heap.size, 0, none⟩ = some (.int .u64 (zh M)) := cell_of_row _ _ _ _ _ _ N1.out
      have N1_1 : V7.cell? ⟨V2.heap.size, 1, none⟩ = some (.int .u64 (zl M)) := cell_of_row _ _ _ _ _ _ N1.out
      have N1_f0 : V7.frozen? ⟨V2.heap.size, 0, none⟩ = false := (by simp [World.frozen?, N1.out])
      have N1_f1 : V7.frozen? ⟨V2.heap.size, 1, none⟩ = false := (by simp [World.frozen?, N1.out])
      have zN1 := lt_of_heap N1.out
      have L1_0 : V7.cell? ⟨gL1, 0, none⟩ = some (.int .u64 (zh L)) := cell_of_row _ _ _ _ _ _ L1.out
      have L1_1 : V7.cell? ⟨gL1, 1, none⟩ = some (.int .u64 (zl L)) := cell_of_row _ _ _ _ _ _ L1.out
      have zL1 := lt_of_heap L1.out
      have K1_0 : V7.cell? ⟨gK1, 0, none⟩ = some (.int .u64 g) := cell_of_row _ _ _ _ _ _ K1.out
      have K1_1 : V7.cell? ⟨gK1, 1, none⟩ = some (.int .u64 (zl G)) := cell_of_row _ _ _ _ _ _ K1.out
      have zK1 := lt_of_heap K1.out
      go_wp2_with fail
      refine (H8.out _).mono ?_
      rintro e V8 ⟨rfl, hb8⟩
      clear A1_0 A1_1 zA1 Z1_0 Z1_1 Z1_f0 Z1_f1 zZ1 N1_0 N1_1 N1_f0 N1_f1 zN1 L1_0 L1_1 zL1 K1_0 K1_1 zK1
      have B8 : Hid (Below w.heap.size w V8) := by first | exact Lib.hid ((B7.out).trans (hb8.mono (by have := B7.out.size; first | assumption | (simp <;> omega) | (simp; done)))) | exact Lib.hid (((B7.out).alloc (B7.out.size) _).trans (hb8.mono (by have := B7.out.size; first | assumption | (simp <;> omega) | (simp; done)))) | exact Lib.hid ((((B7.out).alloc (B7.out.size) _).alloc (by have := B7.out.size; simp <;> omega) _).trans (hb8.mono (by have := B7.out.size; first | assumption | (simp <;> omega) | (simp; done)))) | exact Lib.hid (((((B7.out).alloc (B7.out.size) _).alloc (by have := B7.out.size; simp <;> omega) _).alloc (by have := B7.out.size; simp <;> omega) _).trans (hb8.mono (by have := B7.out.size; first | assumption | (simp <;> omega) | (simp; done))))
      first | replace A1 := Lib.hid (row_call hb8 A1.out) | replace A1 := Lib.hid (row_call hb8 (row_alloc A1.out _)) | replace A1 := Lib.hid (row_call hb8 (row_alloc (row_alloc A1.out _) _)) | replace A1 := Lib.hid (row_call hb8 (row_alloc (row_alloc (row_alloc A1.out _) _) _))
      first | replace Z1 := Lib.hid (row_call hb8 Z1.out) | replace Z1 := Lib.hid (row_call hb8 (row_alloc Z1.out _)) | replace Z1 := Lib.hid (row_call hb8 (row_alloc (row_alloc Z1.out _) _)) | replace Z1 := Lib.hid (row_call hb8 (row_alloc (row_alloc (row_alloc Z1.out _) _) _))
      first | replace N1 := Lib.hid (row_call hb8 N1.out) | replace N1 := Lib.hid (row_call hb8 (row_alloc N1.out _)) | replace N1 := Lib.hid (row_call hb8 (row_alloc (row_alloc N1.out _) _)) | replace N1 := Lib.hid (row_call hb8 (row_alloc (row_alloc (row_alloc N1.out _) _) _))
      first | replace L1 := Lib.hid (row_call hb8 L1.out) | replace L1 := Lib.hid (row_call hb8 (row_alloc L1.out _)) | replace L1 := Lib.hid (row_call hb8 (row_alloc (row_alloc L1.out _) _)) | replace L1 := Lib.hid (row_call hb8 (row_alloc (row_alloc (row_alloc L1.out _) _) _))
      first | replace K1 := Lib.hid (row_call hb8 K1.out) | replace K1 := Lib.hid (row_call hb8 (row_alloc K1.out _)) | replace K1 := Lib.hid (row_call hb8 (row_alloc (row_alloc K1.out _) _)) | replace K1 := Lib.hid (row_call hb8 (row_alloc (row_alloc (row_alloc K1.out _) _) _))
      clear hb8
      have A1_0 : V8.cell? ⟨w.heap.size, 0, none⟩ = some (.int .i64 d) := cell_of_row _ _ _ _ _ _ A1.out
      have A1_1 : V8.cell? ⟨w.heap.size, 1, none⟩ = some (.int .i64 m) := cell_of_row _ _ _ _ _ _ A1.out
      have Z1_0 : V8.cell? ⟨w.heap.size + 1, 0, none⟩ = some (.int .i64 0) := cell_of_row _ _ _ _ _ _ Z1.out
      have Z1_1 : V8.cell? ⟨w.heap.size + 1, 1, none⟩ = some (.int .i64 0) := cell_of_row _ _ _ _ _ _ Z1.out
      have Z1_f0 : V8.frozen? ⟨w.heap.size + 1, 0, none⟩ = false := by simp [World.frozen?, Z1.out]
      have Z1_f1 : V8.frozen? ⟨w.heap.size + 1, 1, none⟩ = false := by simp [World.frozen?, Z1.out]
      have N1_0 : V8.cell? ⟨V2.heap.size, 0, none⟩ = some (.int .u64 (zh M)) := cell_of_row _ _ _ _ _ _ N1.out
      have N1_1 : V8.cell? ⟨V2.heap.size, 1, none⟩ = some (.int .u64 (zl M)) := cell_of_row _ _ _ _ _ _ N1.out
      have N1_f0 : V8.frozen? ⟨V2.heap.size, 0, none⟩ = false := by simp [World.frozen?, N1.out]
      have N1_f1 : V8.frozen? ⟨V2.heap.size, 1, none⟩ = false := by simp [World.frozen?, N1.out]
      have L1_0 : V8.cell? ⟨gL1, 0, none⟩ = some (.int .u64 (zh L)) := cell_of_row _ _ _ _ _ _ L1.out
      have L1_1 : V8.cell? ⟨gL1, 1, none⟩ = some (.int .u64 (zl L)) := cell_of_row _ _ _ _ _ _ L1.out
      have K1_0 : V8.cell? ⟨gK1, 0, none⟩ = some (.int .u64 g) := cell_of_row _ _ _ _ _ _ K1.out
      have K1_1 : V8.cell? ⟨gK1, 1, none⟩ = some (.int .u64 (zl G)) := cell_of_row _ _ _ _ _ _ K1.out
      have zA1 := lt_of_heap A1.out
      have zZ1 := lt_of_heap Z1.out
      have zN1 := lt_of_heap N1.out
      have zL1 := lt_of_heap L1.out
      have zK1 := lt_of_heap K1.out
      go_simp
      go_wp2
      refine shut_ret (v := .tuple #[.agg #[.int .i64 0, .int .i64 0], .int .i64 8]) (by simp [results, Try.results22, go_sem, zZ1, Z1_0, Z1_1]) rfl ⟨rfl, ?_⟩
      first | exact keep2 B8.out (by omega) _ _ | exact keep2 (keep2 B8.out (by have := B8.out.size; omega) _ _) (by first | omega | (simp; omega)) _ _ | exact (keep2 B8.out (by omega) _ _).alloc (by have := B8.out.size; simp; omega) _
set_option maxHeartbeats 3200000 in
set_option maxRecDepth 100000 in
theorem rdMul_true_sign (d m n P M L G X Y S N E : Int) (k g : Nat)
    (H1 : Hid (∀ w, Calls Try.prog 11 #[.agg #[.int .i64 d, .int .i64 m]] w fun e w' => e = .returned (.int .i64 0) ∧ Below w.heap.size w w'))
    (H2 : Hid (∀ w, Calls Try.prog 36 #[.agg #[.int .i64 d, .int .i64 m]] w fun e w' => e = .returned (.agg #[.int .u64 (zh P), .int .u64 (zl P)]) ∧ Below w.heap.size w w'))
    (H3 : Hid (∀ w, Calls Try.prog 42 #[.agg #[.int .u64 (zh P), .int .u64 (zl P)]] w fun e w' => e = .returned (.bool true) ∧ Below w.heap.size w w'))
    (H4 : Hid (∀ w, Calls Try.prog 38 #[.agg #[.int .u64 (zh P), .int .u64 (zl P)]] w fun e w' => e = .returned (.agg #[.int .u64 (zh M), .int .u64 (zl M)]) ∧ Below w.heap.size w w'))
    (H5 : Hid (∀ w, Calls Try.prog 44 #[.int .i64 n] w fun e w' => e = .returned (.int .u64 k) ∧ Below w.heap.size w w'))
    (H6 : Hid (∀ w, Calls Try.prog 43 #[.int .u64 (zl M), .int .u64 k] w fun e w' => e = .returned (.agg #[.int .u64 (zh L), .int .u64 (zl L)]) ∧ Below w.heap.size w w'))
    (H7 : Hid (∀ w, Calls Try.prog 43 #[.int .u64 (zh M), .int .u64 k] w fun e w' => e = .returned (.agg #[.int .u64 g, .int .u64 (zl G)]) ∧ Below w.heap.size w w'))
    (H8 : Hid (∀ w, Calls Try.prog 35 #[.agg #[.int .u64 (zh L), .int .u64 (zl L)], .agg #[.int .u64 (zl G), .int .u64 0]] w fun e w' => e = .returned (.tuple #[.agg #[.int .u64 (zh X), .int .u64 (zl X)], .bool false]) ∧ Below w.heap.size w w'))
    (H9 : Hid (∀ w, Calls Try.prog 42 #[.agg #[.int .u64 (zh X), .int .u64 (zl X)]] w fun e w' => e = .returned (.bool true) ∧ Below w.heap.size w w'))
    (hg : g = 0)
    (w : World) :
    Calls Try.prog 22 #[.agg #[.int .i64 d, .int .i64 m], .int .i64 n] w fun e w' => e = .returned (.tuple #[.agg #[.int .i64 0, .int .i64 0], .int .i64 8]) ∧ Below w.heap.size w w' := by
  subst hg
  go_enter Try.func22, Try.ntmps22
  refine wp_shut ?_
  go_wp2_with fail
  
  refine (H1.out _).mono ?_
  rintro e V1 ⟨rfl, hb1⟩
  have B1 := Lib.hid ((((Below.refl w.heap.size w).alloc (Nat.le_refl _) _).alloc (by simp <;> omega) _).trans (hb1.mono (by first | assumption | (simp <;> omega) | (simp; done))))
  have A1 := Lib.hid (row_call hb1 (row_alloc (heap_alloc_new _ _) _))
  have Z1 := Lib.hid (row_at (k' := w.heap.size + 1) (by simp) (row_call hb1 (heap_alloc_new _ _)))
  clear hb1
  have A1_0 : V1.cell? ⟨w.heap.size, 0, none⟩ = some (.int .i64 d) := cell_of_row _ _ _ _ _ _ A1.out
  have A1_1 : V1.cell? ⟨w.heap.size, 1, none⟩ = some (.int .i64 m) := cell_of_row _ _ _ _ _ _ A1.out
  have Z1_0 : V1.cell? ⟨w.heap.size + 1, 0, none⟩ = some (.int .i64 0) := cell_of_row _ _ _ _ _ _ Z1.out
  have Z1_1 : V1.cell? ⟨w.heap.size + 1, 1, none⟩ = some (.int .i64 0) := cell_of_row _ _ _ _ _ _ Z1.out
  have Z1_f0 : V1.frozen? ⟨w.heap.size + 1, 0, none⟩ = false := by simp [World.frozen?, Z1.out]
  have Z1_f1 : V1.frozen? ⟨w.heap.size + 1, 1, none⟩ = false := by simp [World.frozen?, Z1.out]
  have zA1 := lt_of_heap A1.out
  have zZ1 := lt_of_heap Z1.out
  go_simp
  go_wp2_with fail
  refine (H2.out _).mono ?_
  rintro e V2 ⟨rfl, hb2⟩
  clear A1_0 A1_1 zA1 Z1_0 Z1_1 Z1_f0 Z1_f1 zZ1
  have B2 : Hid (Below w.heap.size w V2) := by first | exact Lib.hid ((B1.out).trans (hb2.mono (by have := B1.out.size; first | assumption | (simp <;> omega) | (simp; done)))) | exact Lib.hid (((B1.out).alloc (B1.out.size) _).trans (hb2.mono (by have := B1.out.size; first | assumption | (simp <;> omega) | (simp; done)))) | exact Lib.hid ((((B1.out).alloc (B1.out.size) _).alloc (by have := B1.out.size; simp <;> omega) _).trans (hb2.mono (by have := B1.out.size; first | assumption | (simp <;> omega) | (simp; done)))) | exact Lib.hid (((((B1.out).alloc (B1.out.size) _).alloc (by have := B1.out.size; simp <;> omega) _).alloc (by have := B1.out.size; simp <;> omega) _).trans (hb2.mono (by have := B1.out.size; first | assumption | (simp <;> omega) | (simp; done))))
  first | replace A1 := Lib.hid (row_call hb2 A1.out) | replace A1 := Lib.hid (row_call hb2 (row_alloc A1.out _)) | replace A1 := Lib.hid (row_call hb2 (row_alloc (row_alloc A1.out _) _)) | replace A1 := Lib.hid (row_call hb2 (row_alloc (row_alloc (row_alloc A1.out _) _) _))
  first | replace Z1 := Lib.hid (row_call hb2 Z1.out) | replace Z1 := Lib.hid (row_call hb2 (row_alloc Z1.out _)) | replace Z1 := Lib.hid (row_call hb2 (row_alloc (row_alloc Z1.out _) _)) | replace Z1 := Lib.hid (row_call hb2 (row_alloc (row_alloc (row_alloc Z1.out _) _) _))
  clear hb2
  have A1_0 : V2.cell? ⟨w.heap.size, 0, none⟩ = some (.int .i64 d) := cell_of_row _ _ _ _ _ _ A1.out
  have A1_1 : V2.cell? ⟨w.heap.size, 1, none⟩ = some (.int .i64 m) := cell_of_row _ _ _ _ _ _ A1.out
  have Z1_0 : V2.cell? ⟨w.heap.size + 1, 0, none⟩ = some (.int .i64 0) := cell_of_row _ _ _ _ _ _ Z1.out
  have Z1_1 : V2.cell? ⟨w.heap.size + 1, 1, none⟩ = some (.int .i64 0) := cell_of_row _ _ _ _ _ _ Z1.out
  have Z1_f0 : V2.frozen? ⟨w.heap.size + 1, 0, none⟩ = false := by simp [World.frozen?, Z1.out]
  have Z1_f1 : V2.frozen? ⟨w.heap.size + 1, 1, none⟩ = false := by simp [World.frozen?, Z1.out]
  have zA1 := lt_of_heap A1.out
  have zZ1 := lt_of_heap Z1.out
  go_simp
  go_wp2_with fail
  refine (H3.out _).mono ?_
  rintro e V3 ⟨rfl, hb3⟩
  clear A1_0 A1_1 zA1 Z1_0 Z1_1 Z1_f0 Z1_f1 zZ1
  have nA1N1 := Lib.hid (lt_of_heap A1.out)
  have nZ1N1 := Lib.hid (lt_of_heap Z1.out)
  have nlZ1N1 : ¬ (w.heap.size + 1 = V2.heap.size) := Nat.ne_of_lt (lt_of_heap Z1.out)
  have nrZ1N1 : ¬ (V2.heap.size = w.heap.size + 1) := Ne.symm (Nat.ne_of_lt (lt_of_heap Z1.out))
  have B3 := Lib.hid (((B2.out).alloc (B2.out.size) _).trans (hb3.mono (by have := B2.out.size; first | assumption | (simp <;> omega) | (simp; done))))
  replace A1 := Lib.hid (row_call hb3 (row_alloc A1.out _))
  replace Z1 := Lib.hid (row_call hb3 (row_alloc Z1.out _))
  have N1 := Lib.hid (row_call hb3 (heap_alloc_new _ _))
  clear hb3
  have A1_0 : V3.cell? ⟨w.heap.size, 0, none⟩ = some (.int .i64 d) := cell_of_row _ _ _ _ _ _ A1.out
  have A1_1 : V3.cell? ⟨w.heap.size, 1, none⟩ = some (.int .i64 m) := cell_of_row _ _ _ _ _ _ A1.out
  have Z1_0 : V3.cell? ⟨w.heap.size + 1, 0, none⟩ = some (.int .i64 0) := cell_of_row _ _ _ _ _ _ Z1.out
  have Z1_1 : V3.cell? ⟨w.heap.size + 1, 1, none⟩ = some (.int .i64 0) := cell_of_row _ _ _ _ _ _ Z1.out
  have Z1_f0 : V3.frozen? ⟨w.heap.size + 1, 0, none⟩ = false := by simp [World.frozen?, Z1.out]
  have Z1_f1 : V3.frozen? ⟨w.heap.size + 1, 1, none⟩ = false := by simp [World.frozen?, Z1.out]
  have N1_0 : V3.cell? ⟨V2.heap.size, 0, none⟩ = some (.int .u64 (zh P)) := cell_of_row _ _ _ _ _ _ N1.out
  have N1_1 : V3.cell? ⟨V2.heap.size, 1, none⟩ = some (.int .u64 (zl P)) := cell_of_row _ _ _ _ _ _ N1.out
  have N1_f0 : V3.frozen? ⟨V2.heap.size, 0, none⟩ = false := by simp [World.frozen?, N1.out]
  have N1_f1 : V3.frozen? ⟨V2.heap.size, 1, none⟩ = false := by simp [World.frozen?, N1.out]
  have zA1 := lt_of_heap A1.out
  have zZ1 := lt_of_heap Z1.out
  have zN1 := lt_of_heap N1.out
  go_simp
  go_wp2_with fail
  refine (H3.out _).mono ?_
  rintro e V4 ⟨rfl, hb4⟩
  clear A1_0 A1_1 zA1 Z1_0 Z1_1 Z1_f0 Z1_f1 zZ1 N1_0 N1_1 N1_f0 N1_f1 zN1
  have B4 : Hid (Below w.heap.size w V4) := by first | exact Lib.hid ((B3.out).trans (hb4.mono (by have := B3.out.size; first | assumption | (simp <;> omega) | (simp; done)))) | exact Lib.hid (((B3.out).alloc (B3.out.size) _).trans (hb4.mono (by have := B3.out.size; first | assumption | (simp <;> omega) | (simp; done)))) | exact Lib.hid ((((B3.out).alloc (B3.out.size) _).alloc (by have := B3.out.size; simp <;> omega) _).trans (hb4.mono (by have := B3.out.size; first | assumption | (simp <;> omega) | (simp; done)))) | exact Lib.hid (((((B3.out).alloc (B3.out.size) _).alloc (by have := B3.out.size; simp <;> omega) _).alloc (by have := B3.out.size; simp <;> omega) _).trans (hb4.mono (by have := B3.out.size; first | assumption | (simp <;> omega) | (simp; done))))
  first | replace A1 := Lib.hid (row_call hb4 A1.out) | replace A1 := Lib.hid (row_call hb4 (row_alloc A1.out _)) | replace A1 := Lib.hid (row_call hb4 (row_alloc (row_alloc A1.out _) _)) | replace A1 := Lib.hid (row_call hb4 (row_alloc (row_alloc (row_alloc A1.out _) _) _))
  first | replace Z1 := Lib.hid (row_call hb4 Z1.out) | replace Z1 := Lib.hid (row_call hb4 (row_alloc Z1.out _)) | replace Z1 := Lib.hid (row_call hb4 (row_alloc (row_alloc Z1.out _) _)) | replace Z1 := Lib.hid (row_call hb4 (row_alloc (row_alloc (row_alloc Z1.out _) _) _))
  first | replace N1 := Lib.hid (row_call hb4 N1.out) | replace N1 := Lib.hid (row_call hb4 (row_alloc N1.out _)) | replace N1 := Lib.hid (row_call hb4 (row_alloc (row_alloc N1.out _) _)) | replace N1 := Lib.hid (row_call hb4 (row_alloc (row_alloc (row_alloc N1.out _) _) _))
  clear hb4
  have A1_0 : V4.cell? ⟨w.heap.size, 0, none⟩ = some (.int .i64 d) := cell_of_row _ _ _ _ _ _ A1.out
  have A1_1 : V4.cell? ⟨w.heap.size, 1, none⟩ = some (.int .i64 m) := cell_of_row _ _ _ _ _ _ A1.out
  have Z1_0 : V4.cell? ⟨w.heap.size + 1, 0, none⟩ = some (.int .i64 0) := cell_of_row _ _ _ _ _ _ Z1.out
  have Z1_1 : V4.cell? ⟨w.heap.size + 1, 1, none⟩ = some (.int .i64 0) := cell_of_row _ _ _ _ _ _ Z1.out
  have Z1_f0 : V4.frozen? ⟨w.heap.size + 1, 0, none⟩ = false := by simp [World.frozen?, Z1.out]
  have Z1_f1 : V4.frozen? ⟨w.heap.size + 1, 1, none⟩ = false := by simp [World.frozen?, Z1.out]
  have N1_0 : V4.cell? ⟨V2.heap.size, 0, none⟩ = some (.int .u64 (zh P)) := cell_of_row _ _ _ _ _ _ N1.out
  have N1_1 : V4.cell? ⟨V2.heap.size, 1, none⟩ = some (.int .u64 (zl P)) := cell_of_row _ _ _ _ _ _ N1.out
  have N1_f0 : V4.frozen? ⟨V2.heap.size, 0, none⟩ = false := by simp [World.frozen?, N1.out]
  have N1_f1 : V4.frozen? ⟨V2.heap.size, 1, none⟩ = false := by simp [World.frozen?, N1.out]
  have zA1 := lt_of_heap A1.out
  have zZ1 := lt_of_heap Z1.out
  have zN1 := lt_of_heap N1.out
  go_simp
  go_wp2_with fail
  refine (H4.out _).mono ?_
  rintro e V5 ⟨rfl, hb5⟩
  clear A1_0 A1_1 zA1 Z1_0 Z1_1 Z1_f0 Z1_f1 zZ1 N1_0 N1_1 N1_f0 N1_f1 zN1
  have B5 : Hid (Below w.heap.size w V5) := by first | exact Lib.hid ((B4.out).trans (hb5.mono (by have := B4.out.size; first | assumption | (simp <;> omega) | (simp; done)))) | exact Lib.hid (((B4.out).alloc (B4.out.size) _).trans (hb5.mono (by have := B4.out.size; first | assumption | (simp <;> omega) | (simp; done)))) | exact Lib.hid ((((B4.out).alloc (B4.out.size) _).alloc (by have := B4.out.size; simp <;> omega) _).trans (hb5.mono (by have := B4.out.size; first | assumption | (simp <;> omega) | (simp; done)))) | exact Lib.hid (((((B4.out).alloc (B4.out.size) _).alloc (by have := B4.out.size; simp <;> omega) _).alloc (by have := B4.out.size; simp <;> omega) _).trans (hb5.mono (by have := B4.out.size; first | assumption | (simp <;> omega) | (simp; done))))
  first | replace A1 := Lib.hid (row_call hb5 A1.out) | replace A1 := Lib.hid (row_call hb5 (row_alloc A1.out _)) | replace A1 := Lib.hid (row_call hb5 (row_alloc (row_alloc A1.out _) _)) | replace A1 := Lib.hid (row_call hb5 (row_alloc (row_alloc (row_alloc A1.out _) _) _))
  first | replace Z1 := Lib.hid (row_call hb5 Z1.out) | replace Z1 := Lib.hid (row_call hb5 (row_alloc Z1.out _)) | replace Z1 := Lib.hid (row_call hb5 (row_alloc (row_alloc Z1.out _) _)) | replace Z1 := Lib.hid (row_call hb5 (row_alloc (row_alloc (row_alloc Z1.out _) _) _))
  first | replace N1 := Lib.hid (row_call hb5 N1.out) | replace N1 := Lib.hid (row_call hb5 (row_alloc N1.out _)) | replace N1 := Lib.hid (row_call hb5 (row_alloc (row_alloc N1.out _) _)) | replace N1 := Lib.hid (row_call hb5 (row_alloc (row_alloc (row_alloc N1.out _) _) _))
  clear hb5
  have A1_0 : V5.cell? ⟨w.heap.size, 0, none⟩ = some (.int .i64 d) := cell_of_row _ _ _ _ _ _ A1.out
  have A1_1 : V5.cell? ⟨w.heap.size, 1, none⟩ = some (.int .i64 m) := cell_of_row _ _ _ _ _ _ A1.out
  have Z1_0 : V5.cell? ⟨w.heap.size + 1, 0, none⟩ = some (.int .i64 0) := cell_of_row _ _ _ _ _ _ Z1.out
  have Z1_1 : V5.cell? ⟨w.heap.size + 1, 1, none⟩ = some (.int .i64 0) := cell_of_row _ _ _ _ _ _ Z1.out
  have Z1_f0 : V5.frozen? ⟨w.heap.size + 1, 0, none⟩ = false := by simp [World.frozen?, Z1.out]
  have Z1_f1 : V5.frozen? ⟨w.heap.size + 1, 1, none⟩ = false := by simp [World.frozen?, Z1.out]
  have N1_0 : V5.cell? ⟨V2.heap.size, 0, none⟩ = some (.int .u64 (zh P)) := cell_of_row _ _ _ _ _ _ N1.out
  have N1_1 : V5.cell? ⟨V2.heap.size, 1, none⟩ = some (.int .u64 (zl P)) := cell_of_row _ _ _ _ _ _ N1.out
  have N1_f0 : V5.frozen? ⟨V2.heap.size, 0, none⟩ = false := by simp [World.frozen?, N1.out]
  have N1_f1 : V5.frozen? ⟨V2.heap.size, 1, none⟩ = false := by simp [World.frozen?, N1.out]
  have zA1 := lt_of_heap A1.out
  have zZ1 := lt_of_heap Z1.out
  have zN1 := lt_of_heap N1.out
  go_simp
  go_wp2_with fail
  clear A1_0 A1_1 zA1 Z1_0 Z1_1 Z1_f0 Z1_f1 zZ1 N1_0 N1_1 N1_f0 N1_f1 zN1
  obtain ⟨W0, hW0⟩ : ∃ W0, W0 = ((V5.setCell ⟨V2.heap.size, 0, none⟩ (Value.int .u64 (zh M))).setCell ⟨V2.heap.size, 1, none⟩ (Value.int .u64 (zl M))) := ⟨_, rfl⟩
  replace A1 := Lib.hid (row_by hW0 (row_other (by have := nA1N1.out; omega) A1.out _ _))
  replace Z1 := Lib.hid (row_by hW0 (row_other (by have := nZ1N1.out; omega) Z1.out _ _))
  replace N1 := Lib.hid (row_by hW0 (row_set N1.out _ _))
  have HB0 := Lib.hid (below_by hW0 (keep2 (B5.out) (by have := B2.out.size; omega) _ _))
  have HW0 := Lib.hid hW0
  clear hW0
  have A1_0 : W0.cell? ⟨w.heap.size, 0, none⟩ = some (.int .i64 d) := cell_of_row _ _ _ _ _ _ A1.out
  have A1_1 : W0.cell? ⟨w.heap.size, 1, none⟩ = some (.int .i64 m) := cell_of_row _ _ _ _ _ _ A1.out
  have zA1 := lt_of_heap A1.out
  have Z1_0 : W0.cell? ⟨w.heap.size + 1, 0, none⟩ = some (.int .i64 0) := cell_of_row _ _ _ _ _ _ Z1.out
  have Z1_1 : W0.cell? ⟨w.heap.size + 1, 1, none⟩ = some (.int .i64 0) := cell_of_row _ _ _ _ _ _ Z1.out
  have Z1_f0 : W0.frozen? ⟨w.heap.size + 1, 0, none⟩ = false := (by simp [World.frozen?, Z1.out])
  have Z1_f1 : W0.frozen? ⟨w.heap.size + 1, 1, none⟩ = false := (by simp [World.frozen?, Z1.out])
  have zZ1 := lt_of_heap Z1.out
  have N1_0 : W0.cell? ⟨V2.heap.size, 0, none⟩ = some (.int .u64 (zh M)) := cell_of_row _ _ _ _ _ _ N1.out
  have N1_1 : W0.cell? ⟨V2.heap.size, 1, none⟩ = some (.int .u64 (zl M)) := cell_of_row _ _ _ _ _ _ N1.out
  have N1_f0 : W0.frozen? ⟨V2.heap.size, 0, none⟩ = false := (by simp [World.frozen?, N1.out])
  have N1_f1 : W0.frozen? ⟨V2.heap.size, 1, none⟩ = false := (by simp [World.frozen?, N1.out])
  have zN1 := lt_of_heap N1.out
  try rw [← HW0.out]
  go_cut [9] (fun s9 wx => ∃ gL1 : Nat, s9 = .pointer (some ⟨gL1, 0, none⟩) ∧ wx.heap[gL1]? = some (.cells #[.int .u64 (zh L), .int .u64 (zl L)] 46 (0, 0)) ∧ Below W0.heap.size W0 wx)
  case first =>
    go_region_held3 (fun w' => Below W0.heap.size W0 w' ∧ w'.cell? ⟨V2.heap.size, 0, none⟩ = some (.int .u64 (zh M)) ∧ w'.cell? ⟨V2.heap.size, 1, none⟩ = some (.int .u64 (zl M)))
    (first
      | ((try go_split_ands); refine ⟨(Below.refl _ _).drew, ?_, ?_⟩ <;> first | assumption | (rw [World.cell?_drew]; assumption))
      | ((try go_split_ands); refine ⟨keepS (W0 := W0) ?_ hb1, cellS (W0 := W0) ?_ hb1 ?_ ?_, cellS (W0 := W0) ?_ hb1 ?_ ?_⟩ <;> first | assumption | omega)
      | ((try go_split_ands); refine ⟨keepA (W0 := W0) ?_ _, cellA (W0 := W0) ?_ _ ?_ ?_, cellA (W0 := W0) ?_ _ ?_ ?_⟩ <;> first | assumption | omega)
      | ((try go_split_ands); refine ⟨keepAd (W0 := W0) ?_ _, cellAd (W0 := W0) ?_ _ ?_ ?_, cellAd (W0 := W0) ?_ _ ?_ ?_⟩ <;> first | assumption | omega | exact Below.refl _ _)
      | ((try go_split_ands); refine ⟨keep2 (W0 := W0) ?_ ?_ _ _, cell2 (W0 := W0) ?_ _ _ ?_ ?_, cell2 (W0 := W0) ?_ _ _ ?_ ?_⟩ <;> first | assumption | omega | exact Nat.le_refl _)
      | ((try go_split_ands); refine ⟨keepZ (W0 := W0) ?_ ?_ _, cellZ (W0 := W0) ?_ _ ?_ ?_, cellZ (W0 := W0) ?_ _ ?_ ?_⟩ <;> first | assumption | omega | exact Nat.le_refl _ | exact ⟨_, by assumption⟩))
    (first | (go_at_call 44; (with_reducible refine (H5.out _).mono ?_); rintro e w1 ⟨rfl, hb1⟩; (try go_split_ands); have hge : W0.heap.size ≤ w1.heap.size := (by first | (refine (keepS (W0 := W0) ?_ hb1).size; assumption) | exact (hb1.size : W0.heap.size ≤ w1.heap.size)); (try have hrow := row_call hb1 hrow); (try have hrow := row_new hb1); (try have hrow := row_newd hb1); have hl1 := lt_below hb1; obtain ⟨hc1, hf1⟩ := bcell hb1; (try (have hrc := row_cellA hrow; clear hc1 hf1)); (try have hrf := row_frozA hrow)) | (go_at_call 43; (with_reducible refine (H6.out _).mono ?_); rintro e w1 ⟨rfl, hb1⟩; (try go_split_ands); have hge : W0.heap.size ≤ w1.heap.size := (by first | (refine (keepS (W0 := W0) ?_ hb1).size; assumption) | exact (hb1.size : W0.heap.size ≤ w1.heap.size)); (try have hrow := row_call hb1 hrow); (try have hrow := row_new hb1); (try have hrow := row_newd hb1); have hl1 := lt_below hb1; obtain ⟨hc1, hf1⟩ := bcell hb1; (try (have hrc := row_cellA hrow; clear hc1 hf1)); (try have hrf := row_frozA hrow)))
    all_goals (try go_split_ands)
    all_goals (go_wp2_with fail; go_meet; refine ⟨_, rfl, ?_, ?_⟩)
    all_goals first | assumption | exact heap_alloc_new _ _ | exact row_set (by assumption) _ _
  case rest =>
    obtain ⟨gL1, rfl, hL1, hB⟩ := hcut
    obtain ⟨V6, rfl⟩ : ∃ V, V = wc := ⟨_, rfl⟩
    have L1 := Lib.hid hL1
    clear hL1
    clear A1_0 A1_1 zA1 Z1_0 Z1_1 Z1_f0 Z1_f1 zZ1 N1_0 N1_1 N1_f0 N1_f1 zN1
    replace A1 := Lib.hid (row_call hB A1.out)
    replace Z1 := Lib.hid (row_call hB Z1.out)
    replace N1 := Lib.hid (row_call hB N1.out)
    have B6 := Lib.hid (HB0.out.trans (hB.mono HB0.out.size))
    clear hB
    have A1_0 : V6.cell? ⟨w.heap.size, 0, none⟩ = some (.int .i64 d) := cell_of_row _ _ _ _ _ _ A1.out
    have A1_1 : V6.cell? ⟨w.heap.size, 1, none⟩ = some (.int .i64 m) := cell_of_row _ _ _ _ _ _ A1.out
    have zA1 := lt_of_heap A1.out
    have Z1_0 : V6.cell? ⟨w.heap.size + 1, 0, none⟩ = some (.int .i64 0) := cell_of_row _ _ _ _ _ _ Z1.out
    have Z1_1 : V6.cell? ⟨w.heap.size + 1, 1, none⟩ = some (.int .i64 0) := cell_of_row _ _ _ _ _ _ Z1.out
    have Z1_f0 : V6.frozen? ⟨w.heap.size + 1, 0, none⟩ = false := (by simp [World.frozen?, Z1.out])
    have Z1_f1 : V6.frozen? ⟨w.heap.size + 1, 1, none⟩ = false := (by simp [World.frozen?, Z1.out])
    have zZ1 := lt_of_heap Z1.out
    have N1_0 : V6.cell? ⟨V2.heap.size, 0, none⟩ = some (.int .u64 (zh M)) := cell_of_row _ _ _ _ _ _ N1.out
    have N1_1 : V6.cell? ⟨V2.heap.size, 1, none⟩ = some (.int .u64 (zl M)) := cell_of_row _ _ _ _ _ _ N1.out
    have N1_f0 : V6.frozen? ⟨V2.heap.size, 0, none⟩ = false := (by simp [World.frozen?, N1.out])
    have N1_f1 : V6.frozen? ⟨V2.heap.size, 1, none⟩ = false := (by simp [World.frozen?, N1.out])
    have zN1 := lt_of_heap N1.out
    have L1_0 : V6.cell? ⟨gL1, 0, none⟩ = some (.int .u64 (zh L)) := cell_of_row _ _ _ _ _ _ L1.out
    have L1_1 : V6.cell? ⟨gL1, 1, none⟩ = some (.int .u64 (zl L)) := cell_of_row _ _ _ _ _ _ L1.out
    have zL1 := lt_of_heap L1.out
    go_wp2_with fail
    clear A1_0 A1_1 zA1 Z1_0 Z1_1 Z1_f0 Z1_f1 zZ1 N1_0 N1_1 N1_f0 N1_f1 zN1 L1_0 L1_1 zL1
    obtain ⟨W0, hW0⟩ : ∃ W0, W0 = V6 := ⟨_, rfl⟩
    replace A1 := Lib.hid (row_by hW0 A1.out)
    replace Z1 := Lib.hid (row_by hW0 Z1.out)
    replace N1 := Lib.hid (row_by hW0 N1.out)
    replace L1 := Lib.hid (row_by hW0 L1.out)
    have HB0 := Lib.hid (below_by hW0 (B6.out))
    have HW0 := Lib.hid hW0
    clear hW0
    have A1_0 : W0.cell? ⟨w.heap.size, 0, none⟩ = some (.int .i64 d) := cell_of_row _ _ _ _ _ _ A1.out
    have A1_1 : W0.cell? ⟨w.heap.size, 1, none⟩ = some (.int .i64 m) := cell_of_row _ _ _ _ _ _ A1.out
    have zA1 := lt_of_heap A1.out
    have Z1_0 : W0.cell? ⟨w.heap.size + 1, 0, none⟩ = some (.int .i64 0) := cell_of_row _ _ _ _ _ _ Z1.out
    have Z1_1 : W0.cell? ⟨w.heap.size + 1, 1, none⟩ = some (.int .i64 0) := cell_of_row _ _ _ _ _ _ Z1.out
    have Z1_f0 : W0.frozen? ⟨w.heap.size + 1, 0, none⟩ = false := (by simp [World.frozen?, Z1.out])
    have Z1_f1 : W0.frozen? ⟨w.heap.size + 1, 1, none⟩ = false := (by simp [World.frozen?, Z1.out])
    have zZ1 := lt_of_heap Z1.out
    have N1_0 : W0.cell? ⟨V2.heap.size, 0, none⟩ = some (.int .u64 (zh M)) := cell_of_row _ _ _ _ _ _ N1.out
    have N1_1 : W0.cell? ⟨V2.heap.size, 1, none⟩ = some (.int .u64 (zl M)) := cell_of_row _ _ _ _ _ _ N1.out
    have N1_f0 : W0.frozen? ⟨V2.heap.size, 0, none⟩ = false := (by simp [World.frozen?, N1.out])
    have N1_f1 : W0.frozen? ⟨V2.heap.size, 1, none⟩ = false := (by simp [World.frozen?, N1.out])
    have zN1 := lt_of_heap N1.out
    have L1_0 : W0.cell? ⟨gL1, 0, none⟩ = some (.int .u64 (zh L)) := cell_of_row _ _ _ _ _ _ L1.out
    have L1_1 : W0.cell? ⟨gL1, 1, none⟩ = some (.int .u64 (zl L)) := cell_of_row _ _ _ _ _ _ L1.out
    have zL1 := lt_of_heap L1.out
    try rw [← HW0.out]
    go_cut [10] (fun s10 wx => ∃ gK1 : Nat, s10 = .pointer (some ⟨gK1, 0, none⟩) ∧ wx.heap[gK1]? = some (.cells #[.int .u64 0, .int .u64 (zl G)] 46 (0, 0)) ∧ Below W0.heap.size W0 wx)
    case first =>
      go_region_held3 (fun w' => Below W0.heap.size W0 w' ∧ w'.cell? ⟨V2.heap.size, 0, none⟩ = some (.int .u64 (zh M)) ∧ w'.cell? ⟨V2.heap.size, 1, none⟩ = some (.int .u64 (zl M)))
    (first
      | ((try go_split_ands); refine ⟨(Below.refl _ _).drew, ?_, ?_⟩ <;> first | assumption | (rw [World.cell?_drew]; assumption))
      | ((try go_split_ands); refine ⟨keepS (W0 := W0) ?_ hb1, cellS (W0 := W0) ?_ hb1 ?_ ?_, cellS (W0 := W0) ?_ hb1 ?_ ?_⟩ <;> first | assumption | omega)
      | ((try go_split_ands); refine ⟨keepA (W0 := W0) ?_ _, cellA (W0 := W0) ?_ _ ?_ ?_, cellA (W0 := W0) ?_ _ ?_ ?_⟩ <;> first | assumption | omega)
      | ((try go_split_ands); refine ⟨keepAd (W0 := W0) ?_ _, cellAd (W0 := W0) ?_ _ ?_ ?_, cellAd (W0 := W0) ?_ _ ?_ ?_⟩ <;> first | assumption | omega | exact Below.refl _ _)
      | ((try go_split_ands); refine ⟨keep2 (W0 := W0) ?_ ?_ _ _, cell2 (W0 := W0) ?_ _ _ ?_ ?_, cell2 (W0 := W0) ?_ _ _ ?_ ?_⟩ <;> first | assumption | omega | exact Nat.le_refl _)
      | ((try go_split_ands); refine ⟨keepZ (W0 := W0) ?_ ?_ _, cellZ (W0 := W0) ?_ _ ?_ ?_, cellZ (W0 := W0) ?_ _ ?_ ?_⟩ <;> first | assumption | omega | exact Nat.le_refl _ | exact ⟨_, by assumption⟩))
    (first | (go_at_call 44; (with_reducible refine (H5.out _).mono ?_); rintro e w1 ⟨rfl, hb1⟩; (try go_split_ands); have hge : W0.heap.size ≤ w1.heap.size := (by first | (refine (keepS (W0 := W0) ?_ hb1).size; assumption) | exact (hb1.size : W0.heap.size ≤ w1.heap.size)); (try have hrow := row_call hb1 hrow); (try have hrow := row_new hb1); (try have hrow := row_newd hb1); have hl1 := lt_below hb1; obtain ⟨hc1, hf1⟩ := bcell hb1; (try (have hrc := row_cellA hrow; clear hc1 hf1)); (try have hrf := row_frozA hrow)) | (go_at_call 43; (with_reducible refine (H7.out _).mono ?_); rintro e w1 ⟨rfl, hb1⟩; (try go_split_ands); have hge : W0.heap.size ≤ w1.heap.size := (by first | (refine (keepS (W0 := W0) ?_ hb1).size; assumption) | exact (hb1.size : W0.heap.size ≤ w1.heap.size)); (try have hrow := row_call hb1 hrow); (try have hrow := row_new hb1); (try have hrow := row_newd hb1); have hl1 := lt_below hb1; obtain ⟨hc1, hf1⟩ := bcell hb1; (try (have hrc := row_cellA hrow; clear hc1 hf1)); (try have hrf := row_frozA hrow)))
      all_goals (try go_split_ands)
      all_goals (go_wp2_with fail; go_meet; refine ⟨_, rfl, ?_, ?_⟩)
      all_goals first | assumption | exact heap_alloc_new _ _ | exact row_set (by assumption) _ _
    case rest =>
      obtain ⟨gK1, rfl, hK1, hB⟩ := hcut
      obtain ⟨V7, rfl⟩ : ∃ V, V = wc := ⟨_, rfl⟩
      have K1 := Lib.hid hK1
      clear hK1
      clear A1_0 A1_1 zA1 Z1_0 Z1_1 Z1_f0 Z1_f1 zZ1 N1_0 N1_1 N1_f0 N1_f1 zN1 L1_0 L1_1 zL1
      replace A1 := Lib.hid (row_call hB A1.out)
      replace Z1 := Lib.hid (row_call hB Z1.out)
      replace N1 := Lib.hid (row_call hB N1.out)
      replace L1 := Lib.hid (row_call hB L1.out)
      have B7 := Lib.hid (HB0.out.trans (hB.mono HB0.out.size))
      clear hB
      have A1_0 : V7.cell? ⟨w.heap.size, 0, none⟩ = some (.int .i64 d) := cell_of_row _ _ _ _ _ _ A1.out
      have A1_1 : V7.cell? ⟨w.heap.size, 1, none⟩ = some (.int .i64 m) := cell_of_row _ _ _ _ _ _ A1.out
      have zA1 := lt_of_heap A1.out
      have Z1_0 : V7.cell? ⟨w.heap.size + 1, 0, none⟩ = some (.int .i64 0) := cell_of_row _ _ _ _ _ _ Z1.out
      have Z1_1 : V7.cell? ⟨w.heap.size + 1, 1, none⟩ = some (.int .i64 0) := cell_of_row _ _ _ _ _ _ Z1.out
      have Z1_f0 : V7.frozen? ⟨w.heap.size + 1, 0, none⟩ = false := (by simp [World.frozen?, Z1.out])
      have Z1_f1 : V7.frozen? ⟨w.heap.size + 1, 1, none⟩ = false := (by simp [World.frozen?, Z1.out])
      have zZ1 := lt_of_heap Z1.out
      have N1_0 : V7.cell? ⟨V2.heap.size, 0, none⟩ = some (.int .u64 (zh M)) := cell_of_row _ _ _ _ _ _ N1.out
      have N1_1 : V7.cell? ⟨V2.heap.size, 1, none⟩ = some (.int .u64 (zl M)) := cell_of_row _ _ _ _ _ _ N1.out
      have N1_f0 : V7.frozen? ⟨V2.heap.size, 0, none⟩ = false := (by simp [World.frozen?, N1.out])
      have N1_f1 : V7.frozen? ⟨V2.heap.size, 1, none⟩ = false := (by simp [World.frozen?, N1.out])
      have zN1 := lt_of_heap N1.out
      have L1_0 : V7.cell? ⟨gL1, 0, none⟩ = some (.int .u64 (zh L)) := cell_of_row _ _ _ _ _ _ L1.out
      have L1_1 : V7.cell? ⟨gL1, 1, none⟩ = some (.int .u64 (zl L)) := cell_of_row _ _ _ _ _ _ L1.out
      have zL1 := lt_of_heap L1.out
      have K1_0 : V7.cell? ⟨gK1, 0, none⟩ = some (.int .u64 0) := cell_of_row _ _ _ _ _ _ K1.out
      have K1_1 : V7.cell? ⟨gK1, 1, none⟩ = some (.int .u64 (zl G)) := cell_of_row _ _ _ _ _ _ K1.out
      have zK1 := lt_of_heap K1.out
      go_wp2_with fail
      refine (H8.out _).mono ?_
      rintro e V8 ⟨rfl, hb8⟩
      clear A1_0 A1_1 zA1 Z1_0 Z1_1 Z1_f0 Z1_f1 zZ1 N1_0 N1_1 N1_f0 N1_f1 zN1 L1_0 L1_1 zL1 K1_0 K1_1 zK1
      have B8 : Hid (Below w.heap.size w V8) := by first | exact Lib.hid ((B7.out).trans (hb8.mono (by have := B7.out.size; first | assumption | (simp <;> omega) | (simp; done)))) | exact Lib.hid (((B7.out).alloc (B7.out.size) _).trans (hb8.mono (by have := B7.out.size; first | assumption | (simp <;> omega) | (simp; done)))) | exact Lib.hid ((((B7.out).alloc (B7.out.size) _).alloc (by have := B7.out.size; simp <;> omega) _).trans (hb8.mono (by have := B7.out.size; first | assumption | (simp <;> omega) | (simp; done)))) | exact Lib.hid (((((B7.out).alloc (B7.out.size) _).alloc (by have := B7.out.size; simp <;> omega) _).alloc (by have := B7.out.size; simp <;> omega) _).trans (hb8.mono (by have := B7.out.size; first | assumption | (simp <;> omega) | (simp; done))))
      first | replace A1 := Lib.hid (row_call hb8 A1.out) | replace A1 := Lib.hid (row_call hb8 (row_alloc A1.out _)) | replace A1 := Lib.hid (row_call hb8 (row_alloc (row_alloc A1.out _) _)) | replace A1 := Lib.hid (row_call hb8 (row_alloc (row_alloc (row_alloc A1.out _) _) _))
      first | replace Z1 := Lib.hid (row_call hb8 Z1.out) | replace Z1 := Lib.hid (row_call hb8 (row_alloc Z1.out _)) | replace Z1 := Lib.hid (row_call hb8 (row_alloc (row_alloc Z1.out _) _)) | replace Z1 := Lib.hid (row_call hb8 (row_alloc (row_alloc (row_alloc Z1.out _) _) _))
      first | replace N1 := Lib.hid (row_call hb8 N1.out) | replace N1 := Lib.hid (row_call hb8 (row_alloc N1.out _)) | replace N1 := Lib.hid (row_call hb8 (row_alloc (row_alloc N1.out _) _)) | replace N1 := Lib.hid (row_call hb8 (row_alloc (row_alloc (row_alloc N1.out _) _) _))
      first | replace L1 := Lib.hid (row_call hb8 L1.out) | replace L1 := Lib.hid (row_call hb8 (row_alloc L1.out _)) | replace L1 := Lib.hid (row_call hb8 (row_alloc (row_alloc L1.out _) _)) | replace L1 := Lib.hid (row_call hb8 (row_alloc (row_alloc (row_alloc L1.out _) _) _))
      first | replace K1 := Lib.hid (row_call hb8 K1.out) | replace K1 := Lib.hid (row_call hb8 (row_alloc K1.out _)) | replace K1 := Lib.hid (row_call hb8 (row_alloc (row_alloc K1.out _) _)) | replace K1 := Lib.hid (row_call hb8 (row_alloc (row_alloc (row_alloc K1.out _) _) _))
      clear hb8
      have A1_0 : V8.cell? ⟨w.heap.size, 0, none⟩ = some (.int .i64 d) := cell_of_row _ _ _ _ _ _ A1.out
      have A1_1 : V8.cell? ⟨w.heap.size, 1, none⟩ = some (.int .i64 m) := cell_of_row _ _ _ _ _ _ A1.out
      have Z1_0 : V8.cell? ⟨w.heap.size + 1, 0, none⟩ = some (.int .i64 0) := cell_of_row _ _ _ _ _ _ Z1.out
      have Z1_1 : V8.cell? ⟨w.heap.size + 1, 1, none⟩ = some (.int .i64 0) := cell_of_row _ _ _ _ _ _ Z1.out
      have Z1_f0 : V8.frozen? ⟨w.heap.size + 1, 0, none⟩ = false := by simp [World.frozen?, Z1.out]
      have Z1_f1 : V8.frozen? ⟨w.heap.size + 1, 1, none⟩ = false := by simp [World.frozen?, Z1.out]
      have N1_0 : V8.cell? ⟨V2.heap.size, 0, none⟩ = some (.int .u64 (zh M)) := cell_of_row _ _ _ _ _ _ N1.out
      have N1_1 : V8.cell? ⟨V2.heap.size, 1, none⟩ = some (.int .u64 (zl M)) := cell_of_row _ _ _ _ _ _ N1.out
      have N1_f0 : V8.frozen? ⟨V2.heap.size, 0, none⟩ = false := by simp [World.frozen?, N1.out]
      have N1_f1 : V8.frozen? ⟨V2.heap.size, 1, none⟩ = false := by simp [World.frozen?, N1.out]
      have L1_0 : V8.cell? ⟨gL1, 0, none⟩ = some (.int .u64 (zh L)) := cell_of_row _ _ _ _ _ _ L1.out
      have L1_1 : V8.cell? ⟨gL1, 1, none⟩ = some (.int .u64 (zl L)) := cell_of_row _ _ _ _ _ _ L1.out
      have K1_0 : V8.cell? ⟨gK1, 0, none⟩ = some (.int .u64 0) := cell_of_row _ _ _ _ _ _ K1.out
      have K1_1 : V8.cell? ⟨gK1, 1, none⟩ = some (.int .u64 (zl G)) := cell_of_row _ _ _ _ _ _ K1.out
      have zA1 := lt_of_heap A1.out
      have zZ1 := lt_of_heap Z1.out
      have zN1 := lt_of_heap N1.out
      have zL1 := lt_of_heap L1.out
      have zK1 := lt_of_heap K1.out
      go_simp
      go_wp2_with fail
      refine (H9.out _).mono ?_
      rintro e V9 ⟨rfl, hb9⟩
      clear A1_0 A1_1 zA1 Z1_0 Z1_1 Z1_f0 Z1_f1 zZ1 N1_0 N1_1 N1_f0 N1_f1 zN1 L1_0 L1_1 zL1 K1_0 K1_1 zK1
      have nA1X1 := Lib.hid (lt_of_heap A1.out)
      have nZ1X1 := Lib.hid (lt_of_heap Z1.out)
      have nlZ1X1 : ¬ (w.heap.size + 1 = V8.heap.size) := Nat.ne_of_lt (lt_of_heap Z1.out)
      have nrZ1X1 : ¬ (V8.heap.size = w.heap.size + 1) := Ne.symm (Nat.ne_of_lt (lt_of_heap Z1.out))
      have nN1X1 := Lib.hid (lt_of_heap N1.out)
      have nlN1X1 : ¬ (V2.heap.size = V8.heap.size) := Nat.ne_of_lt (lt_of_heap N1.out)
      have nrN1X1 : ¬ (V8.heap.size = V2.heap.size) := Ne.symm (Nat.ne_of_lt (lt_of_heap N1.out))
      have nL1X1 := Lib.hid (lt_of_heap L1.out)
      have nK1X1 := Lib.hid (lt_of_heap K1.out)
      have B9 := Lib.hid (((B8.out).alloc (B8.out.size) _).trans (hb9.mono (by have := B8.out.size; first | assumption | (simp <;> omega) | (simp; done))))
      replace A1 := Lib.hid (row_call hb9 (row_alloc A1.out _))
      replace Z1 := Lib.hid (row_call hb9 (row_alloc Z1.out _))
      replace N1 := Lib.hid (row_call hb9 (row_alloc N1.out _))
      replace L1 := Lib.hid (row_call hb9 (row_alloc L1.out _))
      replace K1 := Lib.hid (row_call hb9 (row_alloc K1.out _))
      have X1 := Lib.hid (row_call hb9 (heap_alloc_new _ _))
      clear hb9
      have A1_0 : V9.cell? ⟨w.heap.size, 0, none⟩ = some (.int .i64 d) := cell_of_row _ _ _ _ _ _ A1.out
      have A1_1 : V9.cell? ⟨w.heap.size, 1, none⟩ = some (.int .i64 m) := cell_of_row _ _ _ _ _ _ A1.out
      have Z1_0 : V9.cell? ⟨w.heap.size + 1, 0, none⟩ = some (.int .i64 0) := cell_of_row _ _ _ _ _ _ Z1.out
      have Z1_1 : V9.cell? ⟨w.heap.size + 1, 1, none⟩ = some (.int .i64 0) := cell_of_row _ _ _ _ _ _ Z1.out
      have Z1_f0 : V9.frozen? ⟨w.heap.size + 1, 0, none⟩ = false := by simp [World.frozen?, Z1.out]
      have Z1_f1 : V9.frozen? ⟨w.heap.size + 1, 1, none⟩ = false := by simp [World.frozen?, Z1.out]
      have N1_0 : V9.cell? ⟨V2.heap.size, 0, none⟩ = some (.int .u64 (zh M)) := cell_of_row _ _ _ _ _ _ N1.out
      have N1_1 : V9.cell? ⟨V2.heap.size, 1, none⟩ = some (.int .u64 (zl M)) := cell_of_row _ _ _ _ _ _ N1.out
      have N1_f0 : V9.frozen? ⟨V2.heap.size, 0, none⟩ = false := by simp [World.frozen?, N1.out]
      have N1_f1 : V9.frozen? ⟨V2.heap.size, 1, none⟩ = false := by simp [World.frozen?, N1.out]
      have L1_0 : V9.cell? ⟨gL1, 0, none⟩ = some (.int .u64 (zh L)) := cell_of_row _ _ _ _ _ _ L1.out
      have L1_1 : V9.cell? ⟨gL1, 1, none⟩ = some (.int .u64 (zl L)) := cell_of_row _ _ _ _ _ _ L1.out
      have K1_0 : V9.cell? ⟨gK1, 0, none⟩ = some (.int .u64 0) := cell_of_row _ _ _ _ _ _ K1.out
      have K1_1 : V9.cell? ⟨gK1, 1, none⟩ = some (.int .u64 (zl G)) := cell_of_row _ _ _ _ _ _ K1.out
      have X1_0 : V9.cell? ⟨V8.heap.size, 0, none⟩ = some (.int .u64 (zh X)) := cell_of_row _ _ _ _ _ _ X1.out
      have X1_1 : V9.cell? ⟨V8.heap.size, 1, none⟩ = some (.int .u64 (zl X)) := cell_of_row _ _ _ _ _ _ X1.out
      have X1_f0 : V9.frozen? ⟨V8.heap.size, 0, none⟩ = false := by simp [World.frozen?, X1.out]
      have X1_f1 : V9.frozen? ⟨V8.heap.size, 1, none⟩ = false := by simp [World.frozen?, X1.out]
      have zA1 := lt_of_heap A1.out
      have zZ1 := lt_of_heap Z1.out
      have zN1 := lt_of_heap N1.out
      have zL1 := lt_of_heap L1.out
      have zK1 := lt_of_heap K1.out
      have zX1 := lt_of_heap X1.out
      go_simp
      go_wp2
      refine shut_ret (v := .tuple #[.agg #[.int .i64 0, .int .i64 0], .int .i64 8]) (by simp [results, Try.results22, go_sem, zZ1, Z1_0, Z1_1]) rfl ⟨rfl, ?_⟩
      first | exact keep2 B9.out (by omega) _ _ | exact keep2 (keep2 B9.out (by have := B9.out.size; omega) _ _) (by first | omega | (simp; omega)) _ _ | exact (keep2 B9.out (by omega) _ _).alloc (by have := B9.out.size; simp; omega) _
set_option maxHeartbeats 3200000 in
set_option maxRecDepth 100000 in
theorem rdMul_true_okn (d m n P M L G X Y S N E : Int) (k g : Nat)
    (H1 : Hid (∀ w, Calls Try.prog 11 #[.agg #[.int .i64 d, .int .i64 m]] w fun e w' => e = .returned (.int .i64 0) ∧ Below w.heap.size w w'))
    (H2 : Hid (∀ w, Calls Try.prog 36 #[.agg #[.int .i64 d, .int .i64 m]] w fun e w' => e = .returned (.agg #[.int .u64 (zh P), .int .u64 (zl P)]) ∧ Below w.heap.size w w'))
    (H3 : Hid (∀ w, Calls Try.prog 42 #[.agg #[.int .u64 (zh P), .int .u64 (zl P)]] w fun e w' => e = .returned (.bool true) ∧ Below w.heap.size w w'))
    (H4 : Hid (∀ w, Calls Try.prog 38 #[.agg #[.int .u64 (zh P), .int .u64 (zl P)]] w fun e w' => e = .returned (.agg #[.int .u64 (zh M), .int .u64 (zl M)]) ∧ Below w.heap.size w w'))
    (H5 : Hid (∀ w, Calls Try.prog 44 #[.int .i64 n] w fun e w' => e = .returned (.int .u64 k) ∧ Below w.heap.size w w'))
    (H6 : Hid (∀ w, Calls Try.prog 43 #[.int .u64 (zl M), .int .u64 k] w fun e w' => e = .returned (.agg #[.int .u64 (zh L), .int .u64 (zl L)]) ∧ Below w.heap.size w w'))
    (H7 : Hid (∀ w, Calls Try.prog 43 #[.int .u64 (zh M), .int .u64 k] w fun e w' => e = .returned (.agg #[.int .u64 g, .int .u64 (zl G)]) ∧ Below w.heap.size w w'))
    (H8 : Hid (∀ w, Calls Try.prog 35 #[.agg #[.int .u64 (zh L), .int .u64 (zl L)], .agg #[.int .u64 (zl G), .int .u64 0]] w fun e w' => e = .returned (.tuple #[.agg #[.int .u64 (zh X), .int .u64 (zl X)], .bool false]) ∧ Below w.heap.size w w'))
    (H9 : Hid (∀ w, Calls Try.prog 42 #[.agg #[.int .u64 (zh X), .int .u64 (zl X)]] w fun e w' => e = .returned (.bool false) ∧ Below w.heap.size w w'))
    (hg : g = 0)
    (H10 : Hid (∀ w, Calls Try.prog 38 #[.agg #[.int .u64 (zh X), .int .u64 (zl X)]] w fun e w' => e = .returned (.agg #[.int .u64 (zh Y), .int .u64 (zl Y)]) ∧ Below w.heap.size w w'))
    (hn : ¬ n < 0)
    (hn2 : (!decide (n < 0)) = true)
    (H11 : Hid (∀ w, Calls Try.prog 28 #[.agg #[.int .u64 (zh Y), .int .u64 (zl Y)]] w fun e w' => e = .returned (.tuple #[.agg #[.int .i64 S, .int .i64 N], .int .i64 E]) ∧ Below w.heap.size w w'))
    (w : World) :
    Calls Try.prog 22 #[.agg #[.int .i64 d, .int .i64 m], .int .i64 n] w fun e w' => e = .returned (.tuple #[.agg #[.int .i64 S, .int .i64 N], .int .i64 E]) ∧ Below w.heap.size w w' := by
  subst hg
  go_enter Try.func22, Try.ntmps22
  refine wp_shut ?_
  go_wp2_with fail
  
  refine (H1.out _).mono ?_
  rintro e V1 ⟨rfl, hb1⟩
  have B1 := Lib.hid ((((Below.refl w.heap.size w).alloc (Nat.le_refl _) _).alloc (by simp <;> omega) _).trans (hb1.mono (by first | assumption | (simp <;> omega) | (simp; done))))
  have A1 := Lib.hid (row_call hb1 (row_alloc (heap_alloc_new _ _) _))
  have Z1 := Lib.hid (row_at (k' := w.heap.size + 1) (by simp) (row_call hb1 (heap_alloc_new _ _)))
  clear hb1
  have A1_0 : V1.cell? ⟨w.heap.size, 0, none⟩ = some (.int .i64 d) := cell_of_row _ _ _ _ _ _ A1.out
  have A1_1 : V1.cell? ⟨w.heap.size, 1, none⟩ = some (.int .i64 m) := cell_of_row _ _ _ _ _ _ A1.out
  have Z1_0 : V1.cell? ⟨w.heap.size + 1, 0, none⟩ = some (.int .i64 0) := cell_of_row _ _ _ _ _ _ Z1.out
  have Z1_1 : V1.cell? ⟨w.heap.size + 1, 1, none⟩ = some (.int .i64 0) := cell_of_row _ _ _ _ _ _ Z1.out
  have Z1_f0 : V1.frozen? ⟨w.heap.size + 1, 0, none⟩ = false := by simp [World.frozen?, Z1.out]
  have Z1_f1 : V1.frozen? ⟨w.heap.size + 1, 1, none⟩ = false := by simp [World.frozen?, Z1.out]
  have zA1 := lt_of_heap A1.out
  have zZ1 := lt_of_heap Z1.out
  go_simp
  go_wp2_with fail
  refine (H2.out _).mono ?_
  rintro e V2 ⟨rfl, hb2⟩
  clear A1_0 A1_1 zA1 Z1_0 Z1_1 Z1_f0 Z1_f1 zZ1
  have B2 : Hid (Below w.heap.size w V2) := by first | exact Lib.hid ((B1.out).trans (hb2.mono (by have := B1.out.size; first | assumption | (simp <;> omega) | (simp; done)))) | exact Lib.hid (((B1.out).alloc (B1.out.size) _).trans (hb2.mono (by have := B1.out.size; first | assumption | (simp <;> omega) | (simp; done)))) | exact Lib.hid ((((B1.out).alloc (B1.out.size) _).alloc (by have := B1.out.size; simp <;> omega) _).trans (hb2.mono (by have := B1.out.size; first | assumption | (simp <;> omega) | (simp; done)))) | exact Lib.hid (((((B1.out).alloc (B1.out.size) _).alloc (by have := B1.out.size; simp <;> omega) _).alloc (by have := B1.out.size; simp <;> omega) _).trans (hb2.mono (by have := B1.out.size; first | assumption | (simp <;> omega) | (simp; done))))
  first | replace A1 := Lib.hid (row_call hb2 A1.out) | replace A1 := Lib.hid (row_call hb2 (row_alloc A1.out _)) | replace A1 := Lib.hid (row_call hb2 (row_alloc (row_alloc A1.out _) _)) | replace A1 := Lib.hid (row_call hb2 (row_alloc (row_alloc (row_alloc A1.out _) _) _))
  first | replace Z1 := Lib.hid (row_call hb2 Z1.out) | replace Z1 := Lib.hid (row_call hb2 (row_alloc Z1.out _)) | replace Z1 := Lib.hid (row_call hb2 (row_alloc (row_alloc Z1.out _) _)) | replace Z1 := Lib.hid (row_call hb2 (row_alloc (row_alloc (row_alloc Z1.out _) _) _))
  clear hb2
  have A1_0 : V2.cell? ⟨w.heap.size, 0, none⟩ = some (.int .i64 d) := cell_of_row _ _ _ _ _ _ A1.out
  have A1_1 : V2.cell? ⟨w.heap.size, 1, none⟩ = some (.int .i64 m) := cell_of_row _ _ _ _ _ _ A1.out
  have Z1_0 : V2.cell? ⟨w.heap.size + 1, 0, none⟩ = some (.int .i64 0) := cell_of_row _ _ _ _ _ _ Z1.out
  have Z1_1 : V2.cell? ⟨w.heap.size + 1, 1, none⟩ = some (.int .i64 0) := cell_of_row _ _ _ _ _ _ Z1.out
  have Z1_f0 : V2.frozen? ⟨w.heap.size + 1, 0, none⟩ = false := by simp [World.frozen?, Z1.out]
  have Z1_f1 : V2.frozen? ⟨w.heap.size + 1, 1, none⟩ = false := by simp [World.frozen?, Z1.out]
  have zA1 := lt_of_heap A1.out
  have zZ1 := lt_of_heap Z1.out
  go_simp
  go_wp2_with fail
  refine (H3.out _).mono ?_
  rintro e V3 ⟨rfl, hb3⟩
  clear A1_0 A1_1 zA1 Z1_0 Z1_1 Z1_f0 Z1_f1 zZ1
  have nA1N1 := Lib.hid (lt_of_heap A1.out)
  have nZ1N1 := Lib.hid (lt_of_heap Z1.out)
  have nlZ1N1 : ¬ (w.heap.size + 1 = V2.heap.size) := Nat.ne_of_lt (lt_of_heap Z1.out)
  have nrZ1N1 : ¬ (V2.heap.size = w.heap.size + 1) := Ne.symm (Nat.ne_of_lt (lt_of_heap Z1.out))
  have B3 := Lib.hid (((B2.out).alloc (B2.out.size) _).trans (hb3.mono (by have := B2.out.size; first | assumption | (simp <;> omega) | (simp; done))))
  replace A1 := Lib.hid (row_call hb3 (row_alloc A1.out _))
  replace Z1 := Lib.hid (row_call hb3 (row_alloc Z1.out _))
  have N1 := Lib.hid (row_call hb3 (heap_alloc_new _ _))
  clear hb3
  have A1_0 : V3.cell? ⟨w.heap.size, 0, none⟩ = some (.int .i64 d) := cell_of_row _ _ _ _ _ _ A1.out
  have A1_1 : V3.cell? ⟨w.heap.size, 1, none⟩ = some (.int .i64 m) := cell_of_row _ _ _ _ _ _ A1.out
  have Z1_0 : V3.cell? ⟨w.heap.size + 1, 0, none⟩ = some (.int .i64 0) := cell_of_row _ _ _ _ _ _ Z1.out
  have Z1_1 : V3.cell? ⟨w.heap.size + 1, 1, none⟩ = some (.int .i64 0) := cell_of_row _ _ _ _ _ _ Z1.out
  have Z1_f0 : V3.frozen? ⟨w.heap.size + 1, 0, none⟩ = false := by simp [World.frozen?, Z1.out]
  have Z1_f1 : V3.frozen? ⟨w.heap.size + 1, 1, none⟩ = false := by simp [World.frozen?, Z1.out]
  have N1_0 : V3.cell? ⟨V2.heap.size, 0, none⟩ = some (.int .u64 (zh P)) := cell_of_row _ _ _ _ _ _ N1.out
  have N1_1 : V3.cell? ⟨V2.heap.size, 1, none⟩ = some (.int .u64 (zl P)) := cell_of_row _ _ _ _ _ _ N1.out
  have N1_f0 : V3.frozen? ⟨V2.heap.size, 0, none⟩ = false := by simp [World.frozen?, N1.out]
  have N1_f1 : V3.frozen? ⟨V2.heap.size, 1, none⟩ = false := by simp [World.frozen?, N1.out]
  have zA1 := lt_of_heap A1.out
  have zZ1 := lt_of_heap Z1.out
  have zN1 := lt_of_heap N1.out
  go_simp
  go_wp2_with fail
  refine (H3.out _).mono ?_
  rintro e V4 ⟨rfl, hb4⟩
  clear A1_0 A1_1 zA1 Z1_0 Z1_1 Z1_f0 Z1_f1 zZ1 N1_0 N1_1 N1_f0 N1_f1 zN1
  have B4 : Hid (Below w.heap.size w V4) := by first | exact Lib.hid ((B3.out).trans (hb4.mono (by have := B3.out.size; first | assumption | (simp <;> omega) | (simp; done)))) | exact Lib.hid (((B3.out).alloc (B3.out.size) _).trans (hb4.mono (by have := B3.out.size; first | assumption | (simp <;> omega) | (simp; done)))) | exact Lib.hid ((((B3.out).alloc (B3.out.size) _).alloc (by have := B3.out.size; simp <;> omega) _).trans (hb4.mono (by have := B3.out.size; first | assumption | (simp <;> omega) | (simp; done)))) | exact Lib.hid (((((B3.out).alloc (B3.out.size) _).alloc (by have := B3.out.size; simp <;> omega) _).alloc (by have := B3.out.size; simp <;> omega) _).trans (hb4.mono (by have := B3.out.size; first | assumption | (simp <;> omega) | (simp; done))))
  first | replace A1 := Lib.hid (row_call hb4 A1.out) | replace A1 := Lib.hid (row_call hb4 (row_alloc A1.out _)) | replace A1 := Lib.hid (row_call hb4 (row_alloc (row_alloc A1.out _) _)) | replace A1 := Lib.hid (row_call hb4 (row_alloc (row_alloc (row_alloc A1.out _) _) _))
  first | replace Z1 := Lib.hid (row_call hb4 Z1.out) | replace Z1 := Lib.hid (row_call hb4 (row_alloc Z1.out _)) | replace Z1 := Lib.hid (row_call hb4 (row_alloc (row_alloc Z1.out _) _)) | replace Z1 := Lib.hid (row_call hb4 (row_alloc (row_alloc (row_alloc Z1.out _) _) _))
  first | replace N1 := Lib.hid (row_call hb4 N1.out) | replace N1 := Lib.hid (row_call hb4 (row_alloc N1.out _)) | replace N1 := Lib.hid (row_call hb4 (row_alloc (row_alloc N1.out _) _)) | replace N1 := Lib.hid (row_call hb4 (row_alloc (row_alloc (row_alloc N1.out _) _) _))
  clear hb4
  have A1_0 : V4.cell? ⟨w.heap.size, 0, none⟩ = some (.int .i64 d) := cell_of_row _ _ _ _ _ _ A1.out
  have A1_1 : V4.cell? ⟨w.heap.size, 1, none⟩ = some (.int .i64 m) := cell_of_row _ _ _ _ _ _ A1.out
  have Z1_0 : V4.cell? ⟨w.heap.size + 1, 0, none⟩ = some (.int .i64 0) := cell_of_row _ _ _ _ _ _ Z1.out
  have Z1_1 : V4.cell? ⟨w.heap.size + 1, 1, none⟩ = some (.int .i64 0) := cell_of_row _ _ _ _ _ _ Z1.out
  have Z1_f0 : V4.frozen? ⟨w.heap.size + 1, 0, none⟩ = false := by simp [World.frozen?, Z1.out]
  have Z1_f1 : V4.frozen? ⟨w.heap.size + 1, 1, none⟩ = false := by simp [World.frozen?, Z1.out]
  have N1_0 : V4.cell? ⟨V2.heap.size, 0, none⟩ = some (.int .u64 (zh P)) := cell_of_row _ _ _ _ _ _ N1.out
  have N1_1 : V4.cell? ⟨V2.heap.size, 1, none⟩ = some (.int .u64 (zl P)) := cell_of_row _ _ _ _ _ _ N1.out
  have N1_f0 : V4.frozen? ⟨V2.heap.size, 0, none⟩ = false := by simp [World.frozen?, N1.out]
  have N1_f1 : V4.frozen? ⟨V2.heap.size, 1, none⟩ = false := by simp [World.frozen?, N1.out]
  have zA1 := lt_of_heap A1.out
  have zZ1 := lt_of_heap Z1.out
  have zN1 := lt_of_heap N1.out
  go_simp
  go_wp2_with fail
  refine (H4.out _).mono ?_
  rintro e V5 ⟨rfl, hb5⟩
  clear A1_0 A1_1 zA1 Z1_0 Z1_1 Z1_f0 Z1_f1 zZ1 N1_0 N1_1 N1_f0 N1_f1 zN1
  have B5 : Hid (Below w.heap.size w V5) := by first | exact Lib.hid ((B4.out).trans (hb5.mono (by have := B4.out.size; first | assumption | (simp <;> omega) | (simp; done)))) | exact Lib.hid (((B4.out).alloc (B4.out.size) _).trans (hb5.mono (by have := B4.out.size; first | assumption | (simp <;> omega) | (simp; done)))) | exact Lib.hid ((((B4.out).alloc (B4.out.size) _).alloc (by have := B4.out.size; simp <;> omega) _).trans (hb5.mono (by have := B4.out.size; first | assumption | (simp <;> omega) | (simp; done)))) | exact Lib.hid (((((B4.out).alloc (B4.out.size) _).alloc (by have := B4.out.size; simp <;> omega) _).alloc (by have := B4.out.size; simp <;> omega) _).trans (hb5.mono (by have := B4.out.size; first | assumption | (simp <;> omega) | (simp; done))))
  first | replace A1 := Lib.hid (row_call hb5 A1.out) | replace A1 := Lib.hid (row_call hb5 (row_alloc A1.out _)) | replace A1 := Lib.hid (row_call hb5 (row_alloc (row_alloc A1.out _) _)) | replace A1 := Lib.hid (row_call hb5 (row_alloc (row_alloc (row_alloc A1.out _) _) _))
  first | replace Z1 := Lib.hid (row_call hb5 Z1.out) | replace Z1 := Lib.hid (row_call hb5 (row_alloc Z1.out _)) | replace Z1 := Lib.hid (row_call hb5 (row_alloc (row_alloc Z1.out _) _)) | replace Z1 := Lib.hid (row_call hb5 (row_alloc (row_alloc (row_alloc Z1.out _) _) _))
  first | replace N1 := Lib.hid (row_call hb5 N1.out) | replace N1 := Lib.hid (row_call hb5 (row_alloc N1.out _)) | replace N1 := Lib.hid (row_call hb5 (row_alloc (row_alloc N1.out _) _)) | replace N1 := Lib.hid (row_call hb5 (row_alloc (row_alloc (row_alloc N1.out _) _) _))
  clear hb5
  have A1_0 : V5.cell? ⟨w.heap.size, 0, none⟩ = some (.int .i64 d) := cell_of_row _ _ _ _ _ _ A1.out
  have A1_1 : V5.cell? ⟨w.heap.size, 1, none⟩ = some (.int .i64 m) := cell_of_row _ _ _ _ _ _ A1.out
  have Z1_0 : V5.cell? ⟨w.heap.size + 1, 0, none⟩ = some (.int .i64 0) := cell_of_row _ _ _ _ _ _ Z1.out
  have Z1_1 : V5.cell? ⟨w.heap.size + 1, 1, none⟩ = some (.int .i64 0) := cell_of_row _ _ _ _ _ _ Z1.out
  have Z1_f0 : V5.frozen? ⟨w.heap.size + 1, 0, none⟩ = false := by simp [World.frozen?, Z1.out]
  have Z1_f1 : V5.frozen? ⟨w.heap.size + 1, 1, none⟩ = false := by simp [World.frozen?, Z1.out]
  have N1_0 : V5.cell? ⟨V2.heap.size, 0, none⟩ = some (.int .u64 (zh P)) := cell_of_row _ _ _ _ _ _ N1.out
  have N1_1 : V5.cell? ⟨V2.heap.size, 1, none⟩ = some (.int .u64 (zl P)) := cell_of_row _ _ _ _ _ _ N1.out
  have N1_f0 : V5.frozen? ⟨V2.heap.size, 0, none⟩ = false := by simp [World.frozen?, N1.out]
  have N1_f1 : V5.frozen? ⟨V2.heap.size, 1, none⟩ = false := by simp [World.frozen?, N1.out]
  have zA1 := lt_of_heap A1.out
  have zZ1 := lt_of_heap Z1.out
  have zN1 := lt_of_heap N1.out
  go_simp
  go_wp2_with fail
  clear A1_0 A1_1 zA1 Z1_0 Z1_1 Z1_f0 Z1_f1 zZ1 N1_0 N1_1 N1_f0 N1_f1 zN1
  obtain ⟨W0, hW0⟩ : ∃ W0, W0 = ((V5.setCell ⟨V2.heap.size, 0, none⟩ (Value.int .u64 (zh M))).setCell ⟨V2.heap.size, 1, none⟩ (Value.int .u64 (zl M))) := ⟨_, rfl⟩
  replace A1 := Lib.hid (row_by hW0 (row_other (by have := nA1N1.out; omega) A1.out _ _))
  replace Z1 := Lib.hid (row_by hW0 (row_other (by have := nZ1N1.out; omega) Z1.out _ _))
  replace N1 := Lib.hid (row_by hW0 (row_set N1.out _ _))
  have HB0 := Lib.hid (below_by hW0 (keep2 (B5.out) (by have := B2.out.size; omega) _ _))
  have HW0 := Lib.hid hW0
  clear hW0
  have A1_0 : W0.cell? ⟨w.heap.size, 0, none⟩ = some (.int .i64 d) := cell_of_row _ _ _ _ _ _ A1.out
  have A1_1 : W0.cell? ⟨w.heap.size, 1, none⟩ = some (.int .i64 m) := cell_of_row _ _ _ _ _ _ A1.out
  have zA1 := lt_of_heap A1.out
  have Z1_0 : W0.cell? ⟨w.heap.size + 1, 0, none⟩ = some (.int .i64 0) := cell_of_row _ _ _ _ _ _ Z1.out
  have Z1_1 : W0.cell? ⟨w.heap.size + 1, 1, none⟩ = some (.int .i64 0) := cell_of_row _ _ _ _ _ _ Z1.out
  have Z1_f0 : W0.frozen? ⟨w.heap.size + 1, 0, none⟩ = false := (by simp [World.frozen?, Z1.out])
  have Z1_f1 : W0.frozen? ⟨w.heap.size + 1, 1, none⟩ = false := (by simp [World.frozen?, Z1.out])
  have zZ1 := lt_of_heap Z1.out
  have N1_0 : W0.cell? ⟨V2.heap.size, 0, none⟩ = some (.int .u64 (zh M)) := cell_of_row _ _ _ _ _ _ N1.out
  have N1_1 : W0.cell? ⟨V2.heap.size, 1, none⟩ = some (.int .u64 (zl M)) := cell_of_row _ _ _ _ _ _ N1.out
  have N1_f0 : W0.frozen? ⟨V2.heap.size, 0, none⟩ = false := (by simp [World.frozen?, N1.out])
  have N1_f1 : W0.frozen? ⟨V2.heap.size, 1, none⟩ = false := (by simp [World.frozen?, N1.out])
  have zN1 := lt_of_heap N1.out
  try rw [← HW0.out]
  go_cut [9] (fun s9 wx => ∃ gL1 : Nat, s9 = .pointer (some ⟨gL1, 0, none⟩) ∧ wx.heap[gL1]? = some (.cells #[.int .u64 (zh L), .int .u64 (zl L)] 46 (0, 0)) ∧ Below W0.heap.size W0 wx)
  case first =>
    go_region_held3 (fun w' => Below W0.heap.size W0 w' ∧ w'.cell? ⟨V2.heap.size, 0, none⟩ = some (.int .u64 (zh M)) ∧ w'.cell? ⟨V2.heap.size, 1, none⟩ = some (.int .u64 (zl M)))
    (first
      | ((try go_split_ands); refine ⟨(Below.refl _ _).drew, ?_, ?_⟩ <;> first | assumption | (rw [World.cell?_drew]; assumption))
      | ((try go_split_ands); refine ⟨keepS (W0 := W0) ?_ hb1, cellS (W0 := W0) ?_ hb1 ?_ ?_, cellS (W0 := W0) ?_ hb1 ?_ ?_⟩ <;> first | assumption | omega)
      | ((try go_split_ands); refine ⟨keepA (W0 := W0) ?_ _, cellA (W0 := W0) ?_ _ ?_ ?_, cellA (W0 := W0) ?_ _ ?_ ?_⟩ <;> first | assumption | omega)
      | ((try go_split_ands); refine ⟨keepAd (W0 := W0) ?_ _, cellAd (W0 := W0) ?_ _ ?_ ?_, cellAd (W0 := W0) ?_ _ ?_ ?_⟩ <;> first | assumption | omega | exact Below.refl _ _)
      | ((try go_split_ands); refine ⟨keep2 (W0 := W0) ?_ ?_ _ _, cell2 (W0 := W0) ?_ _ _ ?_ ?_, cell2 (W0 := W0) ?_ _ _ ?_ ?_⟩ <;> first | assumption | omega | exact Nat.le_refl _)
      | ((try go_split_ands); refine ⟨keepZ (W0 := W0) ?_ ?_ _, cellZ (W0 := W0) ?_ _ ?_ ?_, cellZ (W0 := W0) ?_ _ ?_ ?_⟩ <;> first | assumption | omega | exact Nat.le_refl _ | exact ⟨_, by assumption⟩))
    (first | (go_at_call 44; (with_reducible refine (H5.out _).mono ?_); rintro e w1 ⟨rfl, hb1⟩; (try go_split_ands); have hge : W0.heap.size ≤ w1.heap.size := (by first | (refine (keepS (W0 := W0) ?_ hb1).size; assumption) | exact (hb1.size : W0.heap.size ≤ w1.heap.size)); (try have hrow := row_call hb1 hrow); (try have hrow := row_new hb1); (try have hrow := row_newd hb1); have hl1 := lt_below hb1; obtain ⟨hc1, hf1⟩ := bcell hb1; (try (have hrc := row_cellA hrow; clear hc1 hf1)); (try have hrf := row_frozA hrow)) | (go_at_call 43; (with_reducible refine (H6.out _).mono ?_); rintro e w1 ⟨rfl, hb1⟩; (try go_split_ands); have hge : W0.heap.size ≤ w1.heap.size := (by first | (refine (keepS (W0 := W0) ?_ hb1).size; assumption) | exact (hb1.size : W0.heap.size ≤ w1.heap.size)); (try have hrow := row_call hb1 hrow); (try have hrow := row_new hb1); (try have hrow := row_newd hb1); have hl1 := lt_below hb1; obtain ⟨hc1, hf1⟩ := bcell hb1; (try (have hrc := row_cellA hrow; clear hc1 hf1)); (try have hrf := row_frozA hrow)))
    all_goals (try go_split_ands)
    all_goals (go_wp2_with fail; go_meet; refine ⟨_, rfl, ?_, ?_⟩)
    all_goals first | assumption | exact heap_alloc_new _ _ | exact row_set (by assumption) _ _
  case rest =>
    obtain ⟨gL1, rfl, hL1, hB⟩ := hcut
    obtain ⟨V6, rfl⟩ : ∃ V, V = wc := ⟨_, rfl⟩
    have L1 := Lib.hid hL1
    clear hL1
    clear A1_0 A1_1 zA1 Z1_0 Z1_1 Z1_f0 Z1_f1 zZ1 N1_0 N1_1 N1_f0 N1_f1 zN1
    replace A1 := Lib.hid (row_call hB A1.out)
    replace Z1 := Lib.hid (row_call hB Z1.out)
    replace N1 := Lib.hid (row_call hB N1.out)
    have B6 := Lib.hid (HB0.out.trans (hB.mono HB0.out.size))
    clear hB
    have A1_0 : V6.cell? ⟨w.heap.size, 0, none⟩ = some (.int .i64 d) := cell_of_row _ _ _ _ _ _ A1.out
    have A1_1 : V6.cell? ⟨w.heap.size, 1, none⟩ = some (.int .i64 m) := cell_of_row _ _ _ _ _ _ A1.out
    have zA1 := lt_of_heap A1.out
    have Z1_0 : V6.cell? ⟨w.heap.size + 1, 0, none⟩ = some (.int .i64 0) := cell_of_row _ _ _ _ _ _ Z1.out
    have Z1_1 : V6.cell? ⟨w.heap.size + 1, 1, none⟩ = some (.int .i64 0) := cell_of_row _ _ _ _ _ _ Z1.out
    have Z1_f0 : V6.frozen? ⟨w.heap.size + 1, 0, none⟩ = false := (by simp [World.frozen?, Z1.out])
    have Z1_f1 : V6.frozen? ⟨w.heap.size + 1, 1, none⟩ = false := (by simp [World.frozen?, Z1.out])
    have zZ1 := lt_of_heap Z1.out
    have N1_0 : V6.cell? ⟨V2.heap.size, 0, none⟩ = some (.int .u64 (zh M)) := cell_of_row _ _ _ _ _ _ N1.out
    have N1_1 : V6.cell? ⟨V2.heap.size, 1, none⟩ = some (.int .u64 (zl M)) := cell_of_row _ _ _ _ _ _ N1.out
    have N1_f0 : V6.frozen? ⟨V2.heap.size, 0, none⟩ = false := (by simp [World.frozen?, N1.out])
    have N1_f1 : V6.frozen? ⟨V2.heap.size, 1, none⟩ = false := (by simp [World.frozen?, N1.out])
    have zN1 := lt_of_heap N1.out
    have L1_0 : V6.cell? ⟨gL1, 0, none⟩ = some (.int .u64 (zh L)) := cell_of_row _ _ _ _ _ _ L1.out
    have L1_1 : V6.cell? ⟨gL1, 1, none⟩ = some (.int .u64 (zl L)) := cell_of_row _ _ _ _ _ _ L1.out
    have zL1 := lt_of_heap L1.out
    go_wp2_with fail
    clear A1_0 A1_1 zA1 Z1_0 Z1_1 Z1_f0 Z1_f1 zZ1 N1_0 N1_1 N1_f0 N1_f1 zN1 L1_0 L1_1 zL1
    obtain ⟨W0, hW0⟩ : ∃ W0, W0 = V6 := ⟨_, rfl⟩
    replace A1 := Lib.hid (row_by hW0 A1.out)
    replace Z1 := Lib.hid (row_by hW0 Z1.out)
    replace N1 := Lib.hid (row_by hW0 N1.out)
    replace L1 := Lib.hid (row_by hW0 L1.out)
    have HB0 := Lib.hid (below_by hW0 (B6.out))
    have HW0 := Lib.hid hW0
    clear hW0
    have A1_0 : W0.cell? ⟨w.heap.size, 0, none⟩ = some (.int .i64 d) := cell_of_row _ _ _ _ _ _ A1.out
    have A1_1 : W0.cell? ⟨w.heap.size, 1, none⟩ = some (.int .i64 m) := cell_of_row _ _ _ _ _ _ A1.out
    have zA1 := lt_of_heap A1.out
    have Z1_0 : W0.cell? ⟨w.heap.size + 1, 0, none⟩ = some (.int .i64 0) := cell_of_row _ _ _ _ _ _ Z1.out
    have Z1_1 : W0.cell? ⟨w.heap.size + 1, 1, none⟩ = some (.int .i64 0) := cell_of_row _ _ _ _ _ _ Z1.out
    have Z1_f0 : W0.frozen? ⟨w.heap.size + 1, 0, none⟩ = false := (by simp [World.frozen?, Z1.out])
    have Z1_f1 : W0.frozen? ⟨w.heap.size + 1, 1, none⟩ = false := (by simp [World.frozen?, Z1.out])
    have zZ1 := lt_of_heap Z1.out
    have N1_0 : W0.cell? ⟨V2.heap.size, 0, none⟩ = some (.int .u64 (zh M)) := cell_of_row _ _ _ _ _ _ N1.out
    have N1_1 : W0.cell? ⟨V2.heap.size, 1, none⟩ = some (.int .u64 (zl M)) := cell_of_row _ _ _ _ _ _ N1.out
    have N1_f0 : W0.frozen? ⟨V2.heap.size, 0, none⟩ = false := (by simp [World.frozen?, N1.out])
    have N1_f1 : W0.frozen? ⟨V2.heap.size, 1, none⟩ = false := (by simp [World.frozen?, N1.out])
    have zN1 := lt_of_heap N1.out
    have L1_0 : W0.cell? ⟨gL1, 0, none⟩ = some (.int .u64 (zh L)) := cell_of_row _ _ _ _ _ _ L1.out
    have L1_1 : W0.cell? ⟨gL1, 1, none⟩ = some (.int .u64 (zl L)) := cell_of_row _ _ _ _ _ _ L1.out
    have zL1 := lt_of_heap L1.out
    try rw [← HW0.out]
    go_cut [10] (fun s10 wx => ∃ gK1 : Nat, s10 = .pointer (some ⟨gK1, 0, none⟩) ∧ wx.heap[gK1]? = some (.cells #[.int .u64 0, .int .u64 (zl G)] 46 (0, 0)) ∧ Below W0.heap.size W0 wx)
    case first =>
      go_region_held3 (fun w' => Below W0.heap.size W0 w' ∧ w'.cell? ⟨V2.heap.size, 0, none⟩ = some (.int .u64 (zh M)) ∧ w'.cell? ⟨V2.heap.size, 1, none⟩ = some (.int .u64 (zl M)))
    (first
      | ((try go_split_ands); refine ⟨(Below.refl _ _).drew, ?_, ?_⟩ <;> first | assumption | (rw [World.cell?_drew]; assumption))
      | ((try go_split_ands); refine ⟨keepS (W0 := W0) ?_ hb1, cellS (W0 := W0) ?_ hb1 ?_ ?_, cellS (W0 := W0) ?_ hb1 ?_ ?_⟩ <;> first | assumption | omega)
      | ((try go_split_ands); refine ⟨keepA (W0 := W0) ?_ _, cellA (W0 := W0) ?_ _ ?_ ?_, cellA (W0 := W0) ?_ _ ?_ ?_⟩ <;> first | assumption | omega)
      | ((try go_split_ands); refine ⟨keepAd (W0 := W0) ?_ _, cellAd (W0 := W0) ?_ _ ?_ ?_, cellAd (W0 := W0) ?_ _ ?_ ?_⟩ <;> first | assumption | omega | exact Below.refl _ _)
      | ((try go_split_ands); refine ⟨keep2 (W0 := W0) ?_ ?_ _ _, cell2 (W0 := W0) ?_ _ _ ?_ ?_, cell2 (W0 := W0) ?_ _ _ ?_ ?_⟩ <;> first | assumption | omega | exact Nat.le_refl _)
      | ((try go_split_ands); refine ⟨keepZ (W0 := W0) ?_ ?_ _, cellZ (W0 := W0) ?_ _ ?_ ?_, cellZ (W0 := W0) ?_ _ ?_ ?_⟩ <;> first | assumption | omega | exact Nat.le_refl _ | exact ⟨_, by assumption⟩))
    (first | (go_at_call 44; (with_reducible refine (H5.out _).mono ?_); rintro e w1 ⟨rfl, hb1⟩; (try go_split_ands); have hge : W0.heap.size ≤ w1.heap.size := (by first | (refine (keepS (W0 := W0) ?_ hb1).size; assumption) | exact (hb1.size : W0.heap.size ≤ w1.heap.size)); (try have hrow := row_call hb1 hrow); (try have hrow := row_new hb1); (try have hrow := row_newd hb1); have hl1 := lt_below hb1; obtain ⟨hc1, hf1⟩ := bcell hb1; (try (have hrc := row_cellA hrow; clear hc1 hf1)); (try have hrf := row_frozA hrow)) | (go_at_call 43; (with_reducible refine (H7.out _).mono ?_); rintro e w1 ⟨rfl, hb1⟩; (try go_split_ands); have hge : W0.heap.size ≤ w1.heap.size := (by first | (refine (keepS (W0 := W0) ?_ hb1).size; assumption) | exact (hb1.size : W0.heap.size ≤ w1.heap.size)); (try have hrow := row_call hb1 hrow); (try have hrow := row_new hb1); (try have hrow := row_newd hb1); have hl1 := lt_below hb1; obtain ⟨hc1, hf1⟩ := bcell hb1; (try (have hrc := row_cellA hrow; clear hc1 hf1)); (try have hrf := row_frozA hrow)))
      all_goals (try go_split_ands)
      all_goals (go_wp2_with fail; go_meet; refine ⟨_, rfl, ?_, ?_⟩)
      all_goals first | assumption | exact heap_alloc_new _ _ | exact row_set (by assumption) _ _
    case rest =>
      obtain ⟨gK1, rfl, hK1, hB⟩ := hcut
      obtain ⟨V7, rfl⟩ : ∃ V, V = wc := ⟨_, rfl⟩
      have K1 := Lib.hid hK1
      clear hK1
      clear A1_0 A1_1 zA1 Z1_0 Z1_1 Z1_f0 Z1_f1 zZ1 N1_0 N1_1 N1_f0 N1_f1 zN1 L1_0 L1_1 zL1
      replace A1 := Lib.hid (row_call hB A1.out)
      replace Z1 := Lib.hid (row_call hB Z1.out)
      replace N1 := Lib.hid (row_call hB N1.out)
      replace L1 := Lib.hid (row_call hB L1.out)
      have B7 := Lib.hid (HB0.out.trans (hB.mono HB0.out.size))
      clear hB
      have A1_0 : V7.cell? ⟨w.heap.size, 0, none⟩ = some (.int .i64 d) := cell_of_row _ _ _ _ _ _ A1.out
      have A1_1 : V7.cell? ⟨w.heap.size, 1, none⟩ = some (.int .i64 m) := cell_of_row _ _ _ _ _ _ A1.out
      have zA1 := lt_of_heap A1.out
      have Z1_0 : V7.cell? ⟨w.heap.size + 1, 0, none⟩ = some (.int .i64 0) := cell_of_row _ _ _ _ _ _ Z1.out
      have Z1_1 : V7.cell? ⟨w.heap.size + 1, 1, none⟩ = some (.int .i64 0) := cell_of_row _ _ _ _ _ _ Z1.out
      have Z1_f0 : V7.frozen? ⟨w.heap.size + 1, 0, none⟩ = false := (by simp [World.frozen?, Z1.out])
      have Z1_f1 : V7.frozen? ⟨w.heap.size + 1, 1, none⟩ = false := (by simp [World.frozen?, Z1.out])
      have zZ1 := lt_of_heap Z1.out
      have N1_0 : V7.cell? ⟨V2.heap.size, 0, none⟩ = some (.int .u64 (zh M)) := cell_of_row _ _ _ _ _ _ N1.out
      have N1_1 : V7.cell? ⟨V2.heap.size, 1, none⟩ = some (.int .u64 (zl M)) := cell_of_row _ _ _ _ _ _ N1.out
      have N1_f0 : V7.frozen? ⟨V2.heap.size, 0, none⟩ = false := (by simp [World.frozen?, N1.out])
      have N1_f1 : V7.frozen? ⟨V2.heap.size, 1, none⟩ = false := (by simp [World.frozen?, N1.out])
      have zN1 := lt_of_heap N1.out
      have L1_0 : V7.cell? ⟨gL1, 0, none⟩ = some (.int .u64 (zh L)) := cell_of_row _ _ _ _ _ _ L1.out
      have L1_1 : V7.cell? ⟨gL1, 1, none⟩ = some (.int .u64 (zl L)) := cell_of_row _ _ _ _ _ _ L1.out
      have zL1 := lt_of_heap L1.out
      have K1_0 : V7.cell? ⟨gK1, 0, none⟩ = some (.int .u64 0) := cell_of_row _ _ _ _ _ _ K1.out
      have K1_1 : V7.cell? ⟨gK1, 1, none⟩ = some (.int .u64 (zl G)) := cell_of_row _ _ _ _ _ _ K1.out
      have zK1 := lt_of_heap K1.out
      go_wp2_with fail
      refine (H8.out _).mono ?_
      rintro e V8 ⟨rfl, hb8⟩
      clear A1_0 A1_1 zA1 Z1_0 Z1_1 Z1_f0 Z1_f1 zZ1 N1_0 N1_1 N1_f0 N1_f1 zN1 L1_0 L1_1 zL1 K1_0 K1_1 zK1
      have B8 : Hid (Below w.heap.size w V8) := by first | exact Lib.hid ((B7.out).trans (hb8.mono (by have := B7.out.size; first | assumption | (simp <;> omega) | (simp; done)))) | exact Lib.hid (((B7.out).alloc (B7.out.size) _).trans (hb8.mono (by have := B7.out.size; first | assumption | (simp <;> omega) | (simp; done)))) | exact Lib.hid ((((B7.out).alloc (B7.out.size) _).alloc (by have := B7.out.size; simp <;> omega) _).trans (hb8.mono (by have := B7.out.size; first | assumption | (simp <;> omega) | (simp; done)))) | exact Lib.hid (((((B7.out).alloc (B7.out.size) _).alloc (by have := B7.out.size; simp <;> omega) _).alloc (by have := B7.out.size; simp <;> omega) _).trans (hb8.mono (by have := B7.out.size; first | assumption | (simp <;> omega) | (simp; done))))
      first | replace A1 := Lib.hid (row_call hb8 A1.out) | replace A1 := Lib.hid (row_call hb8 (row_alloc A1.out _)) | replace A1 := Lib.hid (row_call hb8 (row_alloc (row_alloc A1.out _) _)) | replace A1 := Lib.hid (row_call hb8 (row_alloc (row_alloc (row_alloc A1.out _) _) _))
      first | replace Z1 := Lib.hid (row_call hb8 Z1.out) | replace Z1 := Lib.hid (row_call hb8 (row_alloc Z1.out _)) | replace Z1 := Lib.hid (row_call hb8 (row_alloc (row_alloc Z1.out _) _)) | replace Z1 := Lib.hid (row_call hb8 (row_alloc (row_alloc (row_alloc Z1.out _) _) _))
      first | replace N1 := Lib.hid (row_call hb8 N1.out) | replace N1 := Lib.hid (row_call hb8 (row_alloc N1.out _)) | replace N1 := Lib.hid (row_call hb8 (row_alloc (row_alloc N1.out _) _)) | replace N1 := Lib.hid (row_call hb8 (row_alloc (row_alloc (row_alloc N1.out _) _) _))
      first | replace L1 := Lib.hid (row_call hb8 L1.out) | replace L1 := Lib.hid (row_call hb8 (row_alloc L1.out _)) | replace L1 := Lib.hid (row_call hb8 (row_alloc (row_alloc L1.out _) _)) | replace L1 := Lib.hid (row_call hb8 (row_alloc (row_alloc (row_alloc L1.out _) _) _))
      first | replace K1 := Lib.hid (row_call hb8 K1.out) | replace K1 := Lib.hid (row_call hb8 (row_alloc K1.out _)) | replace K1 := Lib.hid (row_call hb8 (row_alloc (row_alloc K1.out _) _)) | replace K1 := Lib.hid (row_call hb8 (row_alloc (row_alloc (row_alloc K1.out _) _) _))
      clear hb8
      have A1_0 : V8.cell? ⟨w.heap.size, 0, none⟩ = some (.int .i64 d) := cell_of_row _ _ _ _ _ _ A1.out
      have A1_1 : V8.cell? ⟨w.heap.size, 1, none⟩ = some (.int .i64 m) := cell_of_row _ _ _ _ _ _ A1.out
      have Z1_0 : V8.cell? ⟨w.heap.size + 1, 0, none⟩ = some (.int .i64 0) := cell_of_row _ _ _ _ _ _ Z1.out
      have Z1_1 : V8.cell? ⟨w.heap.size + 1, 1, none⟩ = some (.int .i64 0) := cell_of_row _ _ _ _ _ _ Z1.out
      have Z1_f0 : V8.frozen? ⟨w.heap.size + 1, 0, none⟩ = false := by simp [World.frozen?, Z1.out]
      have Z1_f1 : V8.frozen? ⟨w.heap.size + 1, 1, none⟩ = false := by simp [World.frozen?, Z1.out]
      have N1_0 : V8.cell? ⟨V2.heap.size, 0, none⟩ = some (.int .u64 (zh M)) := cell_of_row _ _ _ _ _ _ N1.out
      have N1_1 : V8.cell? ⟨V2.heap.size, 1, none⟩ = some (.int .u64 (zl M)) := cell_of_row _ _ _ _ _ _ N1.out
      have N1_f0 : V8.frozen? ⟨V2.heap.size, 0, none⟩ = false := by simp [World.frozen?, N1.out]
      have N1_f1 : V8.frozen? ⟨V2.heap.size, 1, none⟩ = false := by simp [World.frozen?, N1.out]
      have L1_0 : V8.cell? ⟨gL1, 0, none⟩ = some (.int .u64 (zh L)) := cell_of_row _ _ _ _ _ _ L1.out
      have L1_1 : V8.cell? ⟨gL1, 1, none⟩ = some (.int .u64 (zl L)) := cell_of_row _ _ _ _ _ _ L1.out
      have K1_0 : V8.cell? ⟨gK1, 0, none⟩ = some (.int .u64 0) := cell_of_row _ _ _ _ _ _ K1.out
      have K1_1 : V8.cell? ⟨gK1, 1, none⟩ = some (.int .u64 (zl G)) := cell_of_row _ _ _ _ _ _ K1.out
      have zA1 := lt_of_heap A1.out
      have zZ1 := lt_of_heap Z1.out
      have zN1 := lt_of_heap N1.out
      have zL1 := lt_of_heap L1.out
      have zK1 := lt_of_heap K1.out
      go_simp
      go_wp2_with fail
      refine (H9.out _).mono ?_
      rintro e V9 ⟨rfl, hb9⟩
      clear A1_0 A1_1 zA1 Z1_0 Z1_1 Z1_f0 Z1_f1 zZ1 N1_0 N1_1 N1_f0 N1_f1 zN1 L1_0 L1_1 zL1 K1_0 K1_1 zK1
      have nA1X1 := Lib.hid (lt_of_heap A1.out)
      have nZ1X1 := Lib.hid (lt_of_heap Z1.out)
      have nlZ1X1 : ¬ (w.heap.size + 1 = V8.heap.size) := Nat.ne_of_lt (lt_of_heap Z1.out)
      have nrZ1X1 : ¬ (V8.heap.size = w.heap.size + 1) := Ne.symm (Nat.ne_of_lt (lt_of_heap Z1.out))
      have nN1X1 := Lib.hid (lt_of_heap N1.out)
      have nlN1X1 : ¬ (V2.heap.size = V8.heap.size) := Nat.ne_of_lt (lt_of_heap N1.out)
      have nrN1X1 : ¬ (V8.heap.size = V2.heap.size) := Ne.symm (Nat.ne_of_lt (lt_of_heap N1.out))
      have nL1X1 := Lib.hid (lt_of_heap L1.out)
      have nK1X1 := Lib.hid (lt_of_heap K1.out)
      have B9 := Lib.hid (((B8.out).alloc (B8.out.size) _).trans (hb9.mono (by have := B8.out.size; first | assumption | (simp <;> omega) | (simp; done))))
      replace A1 := Lib.hid (row_call hb9 (row_alloc A1.out _))
      replace Z1 := Lib.hid (row_call hb9 (row_alloc Z1.out _))
      replace N1 := Lib.hid (row_call hb9 (row_alloc N1.out _))
      replace L1 := Lib.hid (row_call hb9 (row_alloc L1.out _))
      replace K1 := Lib.hid (row_call hb9 (row_alloc K1.out _))
      have X1 := Lib.hid (row_call hb9 (heap_alloc_new _ _))
      clear hb9
      have A1_0 : V9.cell? ⟨w.heap.size, 0, none⟩ = some (.int .i64 d) := cell_of_row _ _ _ _ _ _ A1.out
      have A1_1 : V9.cell? ⟨w.heap.size, 1, none⟩ = some (.int .i64 m) := cell_of_row _ _ _ _ _ _ A1.out
      have Z1_0 : V9.cell? ⟨w.heap.size + 1, 0, none⟩ = some (.int .i64 0) := cell_of_row _ _ _ _ _ _ Z1.out
      have Z1_1 : V9.cell? ⟨w.heap.size + 1, 1, none⟩ = some (.int .i64 0) := cell_of_row _ _ _ _ _ _ Z1.out
      have Z1_f0 : V9.frozen? ⟨w.heap.size + 1, 0, none⟩ = false := by simp [World.frozen?, Z1.out]
      have Z1_f1 : V9.frozen? ⟨w.heap.size + 1, 1, none⟩ = false := by simp [World.frozen?, Z1.out]
      have N1_0 : V9.cell? ⟨V2.heap.size, 0, none⟩ = some (.int .u64 (zh M)) := cell_of_row _ _ _ _ _ _ N1.out
      have N1_1 : V9.cell? ⟨V2.heap.size, 1, none⟩ = some (.int .u64 (zl M)) := cell_of_row _ _ _ _ _ _ N1.out
      have N1_f0 : V9.frozen? ⟨V2.heap.size, 0, none⟩ = false := by simp [World.frozen?, N1.out]
      have N1_f1 : V9.frozen? ⟨V2.heap.size, 1, none⟩ = false := by simp [World.frozen?, N1.out]
      have L1_0 : V9.cell? ⟨gL1, 0, none⟩ = some (.int .u64 (zh L)) := cell_of_row _ _ _ _ _ _ L1.out
      have L1_1 : V9.cell? ⟨gL1, 1, none⟩ = some (.int .u64 (zl L)) := cell_of_row _ _ _ _ _ _ L1.out
      have K1_0 : V9.cell? ⟨gK1, 0, none⟩ = some (.int .u64 0) := cell_of_row _ _ _ _ _ _ K1.out
      have K1_1 : V9.cell? ⟨gK1, 1, none⟩ = some (.int .u64 (zl G)) := cell_of_row _ _ _ _ _ _ K1.out
      have X1_0 : V9.cell? ⟨V8.heap.size, 0, none⟩ = some (.int .u64 (zh X)) := cell_of_row _ _ _ _ _ _ X1.out
      have X1_1 : V9.cell? ⟨V8.heap.size, 1, none⟩ = some (.int .u64 (zl X)) := cell_of_row _ _ _ _ _ _ X1.out
      have X1_f0 : V9.frozen? ⟨V8.heap.size, 0, none⟩ = false := by simp [World.frozen?, X1.out]
      have X1_f1 : V9.frozen? ⟨V8.heap.size, 1, none⟩ = false := by simp [World.frozen?, X1.out]
      have zA1 := lt_of_heap A1.out
      have zZ1 := lt_of_heap Z1.out
      have zN1 := lt_of_heap N1.out
      have zL1 := lt_of_heap L1.out
      have zK1 := lt_of_heap K1.out
      have zX1 := lt_of_heap X1.out
      go_simp
      go_wp2_with fail
      refine (H10.out _).mono ?_
      rintro e V10 ⟨rfl, hb10⟩
      clear A1_0 A1_1 zA1 Z1_0 Z1_1 Z1_f0 Z1_f1 zZ1 N1_0 N1_1 N1_f0 N1_f1 zN1 L1_0 L1_1 zL1 K1_0 K1_1 zK1 X1_0 X1_1 X1_f0 X1_f1 zX1
      have B10 : Hid (Below w.heap.size w V10) := by first | exact Lib.hid ((B9.out).trans (hb10.mono (by have := B9.out.size; first | assumption | (simp <;> omega) | (simp; done)))) | exact Lib.hid (((B9.out).alloc (B9.out.size) _).trans (hb10.mono (by have := B9.out.size; first | assumption | (simp <;> omega) | (simp; done)))) | exact Lib.hid ((((B9.out).alloc (B9.out.size) _).alloc (by have := B9.out.size; simp <;> omega) _).trans (hb10.mono (by have := B9.out.size; first | assumption | (simp <;> omega) | (simp; done)))) | exact Lib.hid (((((B9.out).alloc (B9.out.size) _).alloc (by have := B9.out.size; simp <;> omega) _).alloc (by have := B9.out.size; simp <;> omega) _).trans (hb10.mono (by have := B9.out.size; first | assumption | (simp <;> omega) | (simp; done))))
      first | replace A1 := Lib.hid (row_call hb10 A1.out) | replace A1 := Lib.hid (row_call hb10 (row_alloc A1.out _)) | replace A1 := Lib.hid (row_call hb10 (row_alloc (row_alloc A1.out _) _)) | replace A1 := Lib.hid (row_call hb10 (row_alloc (row_alloc (row_alloc A1.out _) _) _))
      first | replace Z1 := Lib.hid (row_call hb10 Z1.out) | replace Z1 := Lib.hid (row_call hb10 (row_alloc Z1.out _)) | replace Z1 := Lib.hid (row_call hb10 (row_alloc (row_alloc Z1.out _) _)) | replace Z1 := Lib.hid (row_call hb10 (row_alloc (row_alloc (row_alloc Z1.out _) _) _))
      first | replace N1 := Lib.hid (row_call hb10 N1.out) | replace N1 := Lib.hid (row_call hb10 (row_alloc N1.out _)) | replace N1 := Lib.hid (row_call hb10 (row_alloc (row_alloc N1.out _) _)) | replace N1 := Lib.hid (row_call hb10 (row_alloc (row_alloc (row_alloc N1.out _) _) _))
      first | replace L1 := Lib.hid (row_call hb10 L1.out) | replace L1 := Lib.hid (row_call hb10 (row_alloc L1.out _)) | replace L1 := Lib.hid (row_call hb10 (row_alloc (row_alloc L1.out _) _)) | replace L1 := Lib.hid (row_call hb10 (row_alloc (row_alloc (row_alloc L1.out _) _) _))
      first | replace K1 := Lib.hid (row_call hb10 K1.out) | replace K1 := Lib.hid (row_call hb10 (row_alloc K1.out _)) | replace K1 := Lib.hid (row_call hb10 (row_alloc (row_alloc K1.out _) _)) | replace K1 := Lib.hid (row_call hb10 (row_alloc (row_alloc (row_alloc K1.out _) _) _))
      first | replace X1 := Lib.hid (row_call hb10 X1.out) | replace X1 := Lib.hid (row_call hb10 (row_alloc X1.out _)) | replace X1 := Lib.hid (row_call hb10 (row_alloc (row_alloc X1.out _) _)) | replace X1 := Lib.hid (row_call hb10 (row_alloc (row_alloc (row_alloc X1.out _) _) _))
      clear hb10
      have A1_0 : V10.cell? ⟨w.heap.size, 0, none⟩ = some (.int .i64 d) := cell_of_row _ _ _ _ _ _ A1.out
      have A1_1 : V10.cell? ⟨w.heap.size, 1, none⟩ = some (.int .i64 m) := cell_of_row _ _ _ _ _ _ A1.out
      have Z1_0 : V10.cell? ⟨w.heap.size + 1, 0, none⟩ = some (.int .i64 0) := cell_of_row _ _ _ _ _ _ Z1.out
      have Z1_1 : V10.cell? ⟨w.heap.size + 1, 1, none⟩ = some (.int .i64 0) := cell_of_row _ _ _ _ _ _ Z1.out
      have Z1_f0 : V10.frozen? ⟨w.heap.size + 1, 0, none⟩ = false := by simp [World.frozen?, Z1.out]
      have Z1_f1 : V10.frozen? ⟨w.heap.size + 1, 1, none⟩ = false := by simp [World.frozen?, Z1.out]
      have N1_0 : V10.cell? ⟨V2.heap.size, 0, none⟩ = some (.int .u64 (zh M)) := cell_of_row _ _ _ _ _ _ N1.out
      have N1_1 : V10.cell? ⟨V2.heap.size, 1, none⟩ = some (.int .u64 (zl M)) := cell_of_row _ _ _ _ _ _ N1.out
      have N1_f0 : V10.frozen? ⟨V2.heap.size, 0, none⟩ = false := by simp [World.frozen?, N1.out]
      have N1_f1 : V10.frozen? ⟨V2.heap.size, 1, none⟩ = false := by simp [World.frozen?, N1.out]
      have L1_0 : V10.cell? ⟨gL1, 0, none⟩ = some (.int .u64 (zh L)) := cell_of_row _ _ _ _ _ _ L1.out
      have L1_1 : V10.cell? ⟨gL1, 1, none⟩ = some (.int .u64 (zl L)) := cell_of_row _ _ _ _ _ _ L1.out
      have K1_0 : V10.cell? ⟨gK1, 0, none⟩ = some (.int .u64 0) := cell_of_row _ _ _ _ _ _ K1.out
      have K1_1 : V10.cell? ⟨gK1, 1, none⟩ = some (.int .u64 (zl G)) := cell_of_row _ _ _ _ _ _ K1.out
      have X1_0 : V10.cell? ⟨V8.heap.size, 0, none⟩ = some (.int .u64 (zh X)) := cell_of_row _ _ _ _ _ _ X1.out
      have X1_1 : V10.cell? ⟨V8.heap.size, 1, none⟩ = some (.int .u64 (zl X)) := cell_of_row _ _ _ _ _ _ X1.out
      have X1_f0 : V10.frozen? ⟨V8.heap.size, 0, none⟩ = false := by simp [World.frozen?, X1.out]
      have X1_f1 : V10.frozen? ⟨V8.heap.size, 1, none⟩ = false := by simp [World.frozen?, X1.out]
      have zA1 := lt_of_heap A1.out
      have zZ1 := lt_of_heap Z1.out
      have zN1 := lt_of_heap N1.out
      have zL1 := lt_of_heap L1.out
      have zK1 := lt_of_heap K1.out
      have zX1 := lt_of_heap X1.out
      go_simp
      go_wp2_with fail
      refine (H11.out _).mono ?_
      rintro e V11 ⟨rfl, hb11⟩
      clear A1_0 A1_1 zA1 Z1_0 Z1_1 Z1_f0 Z1_f1 zZ1 N1_0 N1_1 N1_f0 N1_f1 zN1 L1_0 L1_1 zL1 K1_0 K1_1 zK1 X1_0 X1_1 X1_f0 X1_f1 zX1
      have B11 : Hid (Below w.heap.size w V11) := by first | exact Lib.hid ((keep2 (B10.out) (by have := B8.out.size; omega) _ _).trans (hb11.mono (by have := B10.out.size; first | assumption | (simp <;> omega) | (simp; done)))) | exact Lib.hid (((keep2 (B10.out) (by have := B8.out.size; omega) _ _).alloc (B10.out.size) _).trans (hb11.mono (by have := B10.out.size; first | assumption | (simp <;> omega) | (simp; done)))) | exact Lib.hid ((((keep2 (B10.out) (by have := B8.out.size; omega) _ _).alloc (B10.out.size) _).alloc (by have := B10.out.size; simp <;> omega) _).trans (hb11.mono (by have := B10.out.size; first | assumption | (simp <;> omega) | (simp; done)))) | exact Lib.hid (((((keep2 (B10.out) (by have := B8.out.size; omega) _ _).alloc (B10.out.size) _).alloc (by have := B10.out.size; simp <;> omega) _).alloc (by have := B10.out.size; simp <;> omega) _).trans (hb11.mono (by have := B10.out.size; first | assumption | (simp <;> omega) | (simp; done))))
      first | replace A1 := Lib.hid (row_call hb11 (row_other (by have := nA1X1.out; omega) A1.out _ _)) | replace A1 := Lib.hid (row_call hb11 (row_alloc (row_other (by have := nA1X1.out; omega) A1.out _ _) _)) | replace A1 := Lib.hid (row_call hb11 (row_alloc (row_alloc (row_other (by have := nA1X1.out; omega) A1.out _ _) _) _)) | replace A1 := Lib.hid (row_call hb11 (row_alloc (row_alloc (row_alloc (row_other (by have := nA1X1.out; omega) A1.out _ _) _) _) _))
      first | replace Z1 := Lib.hid (row_call hb11 (row_other (by have := nZ1X1.out; omega) Z1.out _ _)) | replace Z1 := Lib.hid (row_call hb11 (row_alloc (row_other (by have := nZ1X1.out; omega) Z1.out _ _) _)) | replace Z1 := Lib.hid (row_call hb11 (row_alloc (row_alloc (row_other (by have := nZ1X1.out; omega) Z1.out _ _) _) _)) | replace Z1 := Lib.hid (row_call hb11 (row_alloc (row_alloc (row_alloc (row_other (by have := nZ1X1.out; omega) Z1.out _ _) _) _) _))
      first | replace N1 := Lib.hid (row_call hb11 (row_other (by have := nN1X1.out; omega) N1.out _ _)) | replace N1 := Lib.hid (row_call hb11 (row_alloc (row_other (by have := nN1X1.out; omega) N1.out _ _) _)) | replace N1 := Lib.hid (row_call hb11 (row_alloc (row_alloc (row_other (by have := nN1X1.out; omega) N1.out _ _) _) _)) | replace N1 := Lib.hid (row_call hb11 (row_alloc (row_alloc (row_alloc (row_other (by have := nN1X1.out; omega) N1.out _ _) _) _) _))
      first | replace L1 := Lib.hid (row_call hb11 (row_other (by have := nL1X1.out; omega) L1.out _ _)) | replace L1 := Lib.hid (row_call hb11 (row_alloc (row_other (by have := nL1X1.out; omega) L1.out _ _) _)) | replace L1 := Lib.hid (row_call hb11 (row_alloc (row_alloc (row_other (by have := nL1X1.out; omega) L1.out _ _) _) _)) | replace L1 := Lib.hid (row_call hb11 (row_alloc (row_alloc (row_alloc (row_other (by have := nL1X1.out; omega) L1.out _ _) _) _) _))
      first | replace K1 := Lib.hid (row_call hb11 (row_other (by have := nK1X1.out; omega) K1.out _ _)) | replace K1 := Lib.hid (row_call hb11 (row_alloc (row_other (by have := nK1X1.out; omega) K1.out _ _) _)) | replace K1 := Lib.hid (row_call hb11 (row_alloc (row_alloc (row_other (by have := nK1X1.out; omega) K1.out _ _) _) _)) | replace K1 := Lib.hid (row_call hb11 (row_alloc (row_alloc (row_alloc (row_other (by have := nK1X1.out; omega) K1.out _ _) _) _) _))
      first | replace X1 := Lib.hid (row_call hb11 (row_set X1.out _ _)) | replace X1 := Lib.hid (row_call hb11 (row_alloc (row_set X1.out _ _) _)) | replace X1 := Lib.hid (row_call hb11 (row_alloc (row_alloc (row_set X1.out _ _) _) _)) | replace X1 := Lib.hid (row_call hb11 (row_alloc (row_alloc (row_alloc (row_set X1.out _ _) _) _) _))
      clear hb11
      have A1_0 : V11.cell? ⟨w.heap.size, 0, none⟩ = some (.int .i64 d) := cell_of_row _ _ _ _ _ _ A1.out
      have A1_1 : V11.cell? ⟨w.heap.size, 1, none⟩ = some (.int .i64 m) := cell_of_row _ _ _ _ _ _ A1.out
      have Z1_0 : V11.cell? ⟨w.heap.size + 1, 0, none⟩ = some (.int .i64 0) := cell_of_row _ _ _ _ _ _ Z1.out
      have Z1_1 : V11.cell? ⟨w.heap.size + 1, 1, none⟩ = some (.int .i64 0) := cell_of_row _ _ _ _ _ _ Z1.out
      have Z1_f0 : V11.frozen? ⟨w.heap.size + 1, 0, none⟩ = false := by simp [World.frozen?, Z1.out]
      have Z1_f1 : V11.frozen? ⟨w.heap.size + 1, 1, none⟩ = false := by simp [World.frozen?, Z1.out]
      have N1_0 : V11.cell? ⟨V2.heap.size, 0, none⟩ = some (.int .u64 (zh M)) := cell_of_row _ _ _ _ _ _ N1.out
      have N1_1 : V11.cell? ⟨V2.heap.size, 1, none⟩ = some (.int .u64 (zl M)) := cell_of_row _ _ _ _ _ _ N1.out
      have N1_f0 : V11.frozen? ⟨V2.heap.size, 0, none⟩ = false := by simp [World.frozen?, N1.out]
      have N1_f1 : V11.frozen? ⟨V2.heap.size, 1, none⟩ = false := by simp [World.frozen?, N1.out]
      have L1_0 : V11.cell? ⟨gL1, 0, none⟩ = some (.int .u64 (zh L)) := cell_of_row _ _ _ _ _ _ L1.out
      have L1_1 : V11.cell? ⟨gL1, 1, none⟩ = some (.int .u64 (zl L)) := cell_of_row _ _ _ _ _ _ L1.out
      have K1_0 : V11.cell? ⟨gK1, 0, none⟩ = some (.int .u64 0) := cell_of_row _ _ _ _ _ _ K1.out
      have K1_1 : V11.cell? ⟨gK1, 1, none⟩ = some (.int .u64 (zl G)) := cell_of_row _ _ _ _ _ _ K1.out
      have X1_0 : V11.cell? ⟨V8.heap.size, 0, none⟩ = some (.int .u64 (zh Y)) := cell_of_row _ _ _ _ _ _ X1.out
      have X1_1 : V11.cell? ⟨V8.heap.size, 1, none⟩ = some (.int .u64 (zl Y)) := cell_of_row _ _ _ _ _ _ X1.out
      have X1_f0 : V11.frozen? ⟨V8.heap.size, 0, none⟩ = false := by simp [World.frozen?, X1.out]
      have X1_f1 : V11.frozen? ⟨V8.heap.size, 1, none⟩ = false := by simp [World.frozen?, X1.out]
      have zA1 := lt_of_heap A1.out
      have zZ1 := lt_of_heap Z1.out
      have zN1 := lt_of_heap N1.out
      have zL1 := lt_of_heap L1.out
      have zK1 := lt_of_heap K1.out
      have zX1 := lt_of_heap X1.out
      go_simp
      go_wp2
      refine shut_ret (v := .tuple #[.agg #[.int .i64 S, .int .i64 N], .int .i64 E]) (by simp [results, Try.results22, go_sem, zZ1, Z1_0, Z1_1]) rfl ⟨rfl, ?_⟩
      first | exact keep2 B11.out (by omega) _ _ | exact keep2 (keep2 B11.out (by have := B11.out.size; omega) _ _) (by first | omega | (simp; omega)) _ _ | exact (keep2 B11.out (by omega) _ _).alloc (by have := B11.out.size; simp; omega) _
set_option maxHeartbeats 3200000 in
set_option maxRecDepth 100000 in
theorem rdMul_true_okp (d m n P M L G X Y S N E : Int) (k g : Nat)
    (H1 : Hid (∀ w, Calls Try.prog 11 #[.agg #[.int .i64 d, .int .i64 m]] w fun e w' => e = .returned (.int .i64 0) ∧ Below w.heap.size w w'))
    (H2 : Hid (∀ w, Calls Try.prog 36 #[.agg #[.int .i64 d, .int .i64 m]] w fun e w' => e = .returned (.agg #[.int .u64 (zh P), .int .u64 (zl P)]) ∧ Below w.heap.size w w'))
    (H3 : Hid (∀ w, Calls Try.prog 42 #[.agg #[.int .u64 (zh P), .int .u64 (zl P)]] w fun e w' => e = .returned (.bool true) ∧ Below w.heap.size w w'))
    (H4 : Hid (∀ w, Calls Try.prog 38 #[.agg #[.int .u64 (zh P), .int .u64 (zl P)]] w fun e w' => e = .returned (.agg #[.int .u64 (zh M), .int .u64 (zl M)]) ∧ Below w.heap.size w w'))
    (H5 : Hid (∀ w, Calls Try.prog 44 #[.int .i64 n] w fun e w' => e = .returned (.int .u64 k) ∧ Below w.heap.size w w'))
    (H6 : Hid (∀ w, Calls Try.prog 43 #[.int .u64 (zl M), .int .u64 k] w fun e w' => e = .returned (.agg #[.int .u64 (zh L), .int .u64 (zl L)]) ∧ Below w.heap.size w w'))
    (H7 : Hid (∀ w, Calls Try.prog 43 #[.int .u64 (zh M), .int .u64 k] w fun e w' => e = .returned (.agg #[.int .u64 g, .int .u64 (zl G)]) ∧ Below w.heap.size w w'))
    (H8 : Hid (∀ w, Calls Try.prog 35 #[.agg #[.int .u64 (zh L), .int .u64 (zl L)], .agg #[.int .u64 (zl G), .int .u64 0]] w fun e w' => e = .returned (.tuple #[.agg #[.int .u64 (zh X), .int .u64 (zl X)], .bool false]) ∧ Below w.heap.size w w'))
    (H9 : Hid (∀ w, Calls Try.prog 42 #[.agg #[.int .u64 (zh X), .int .u64 (zl X)]] w fun e w' => e = .returned (.bool false) ∧ Below w.heap.size w w'))
    (hg : g = 0)
    (hn : n < 0)
    (hn2 : (!decide (n < 0)) = false)
    (H11 : Hid (∀ w, Calls Try.prog 28 #[.agg #[.int .u64 (zh X), .int .u64 (zl X)]] w fun e w' => e = .returned (.tuple #[.agg #[.int .i64 S, .int .i64 N], .int .i64 E]) ∧ Below w.heap.size w w'))
    (w : World) :
    Calls Try.prog 22 #[.agg #[.int .i64 d, .int .i64 m], .int .i64 n] w fun e w' => e = .returned (.tuple #[.agg #[.int .i64 S, .int .i64 N], .int .i64 E]) ∧ Below w.heap.size w w' := by
  subst hg
  go_enter Try.func22, Try.ntmps22
  refine wp_shut ?_
  go_wp2_with fail
  
  refine (H1.out _).mono ?_
  rintro e V1 ⟨rfl, hb1⟩
  have B1 := Lib.hid ((((Below.refl w.heap.size w).alloc (Nat.le_refl _) _).alloc (by simp <;> omega) _).trans (hb1.mono (by first | assumption | (simp <;> omega) | (simp; done))))
  have A1 := Lib.hid (row_call hb1 (row_alloc (heap_alloc_new _ _) _))
  have Z1 := Lib.hid (row_at (k' := w.heap.size + 1) (by simp) (row_call hb1 (heap_alloc_new _ _)))
  clear hb1
  have A1_0 : V1.cell? ⟨w.heap.size, 0, none⟩ = some (.int .i64 d) := cell_of_row _ _ _ _ _ _ A1.out
  have A1_1 : V1.cell? ⟨w.heap.size, 1, none⟩ = some (.int .i64 m) := cell_of_row _ _ _ _ _ _ A1.out
  have Z1_0 : V1.cell? ⟨w.heap.size + 1, 0, none⟩ = some (.int .i64 0) := cell_of_row _ _ _ _ _ _ Z1.out
  have Z1_1 : V1.cell? ⟨w.heap.size + 1, 1, none⟩ = some (.int .i64 0) := cell_of_row _ _ _ _ _ _ Z1.out
  have Z1_f0 : V1.frozen? ⟨w.heap.size + 1, 0, none⟩ = false := by simp [World.frozen?, Z1.out]
  have Z1_f1 : V1.frozen? ⟨w.heap.size + 1, 1, none⟩ = false := by simp [World.frozen?, Z1.out]
  have zA1 := lt_of_heap A1.out
  have zZ1 := lt_of_heap Z1.out
  go_simp
  go_wp2_with fail
  refine (H2.out _).mono ?_
  rintro e V2 ⟨rfl, hb2⟩
  clear A1_0 A1_1 zA1 Z1_0 Z1_1 Z1_f0 Z1_f1 zZ1
  have B2 : Hid (Below w.heap.size w V2) := by first | exact Lib.hid ((B1.out).trans (hb2.mono (by have := B1.out.size; first | assumption | (simp <;> omega) | (simp; done)))) | exact Lib.hid (((B1.out).alloc (B1.out.size) _).trans (hb2.mono (by have := B1.out.size; first | assumption | (simp <;> omega) | (simp; done)))) | exact Lib.hid ((((B1.out).alloc (B1.out.size) _).alloc (by have := B1.out.size; simp <;> omega) _).trans (hb2.mono (by have := B1.out.size; first | assumption | (simp <;> omega) | (simp; done)))) | exact Lib.hid (((((B1.out).alloc (B1.out.size) _).alloc (by have := B1.out.size; simp <;> omega) _).alloc (by have := B1.out.size; simp <;> omega) _).trans (hb2.mono (by have := B1.out.size; first | assumption | (simp <;> omega) | (simp; done))))
  first | replace A1 := Lib.hid (row_call hb2 A1.out) | replace A1 := Lib.hid (row_call hb2 (row_alloc A1.out _)) | replace A1 := Lib.hid (row_call hb2 (row_alloc (row_alloc A1.out _) _)) | replace A1 := Lib.hid (row_call hb2 (row_alloc (row_alloc (row_alloc A1.out _) _) _))
  first | replace Z1 := Lib.hid (row_call hb2 Z1.out) | replace Z1 := Lib.hid (row_call hb2 (row_alloc Z1.out _)) | replace Z1 := Lib.hid (row_call hb2 (row_alloc (row_alloc Z1.out _) _)) | replace Z1 := Lib.hid (row_call hb2 (row_alloc (row_alloc (row_alloc Z1.out _) _) _))
  clear hb2
  have A1_0 : V2.cell? ⟨w.heap.size, 0, none⟩ = some (.int .i64 d) := cell_of_row _ _ _ _ _ _ A1.out
  have A1_1 : V2.cell? ⟨w.heap.size, 1, none⟩ = some (.int .i64 m) := cell_of_row _ _ _ _ _ _ A1.out
  have Z1_0 : V2.cell? ⟨w.heap.size + 1, 0, none⟩ = some (.int .i64 0) := cell_of_row _ _ _ _ _ _ Z1.out
  have Z1_1 : V2.cell? ⟨w.heap.size + 1, 1, none⟩ = some (.int .i64 0) := cell_of_row _ _ _ _ _ _ Z1.out
  have Z1_f0 : V2.frozen? ⟨w.heap.size + 1, 0, none⟩ = false := by simp [World.frozen?, Z1.out]
  have Z1_f1 : V2.frozen? ⟨w.heap.size + 1, 1, none⟩ = false := by simp [World.frozen?, Z1.out]
  have zA1 := lt_of_heap A1.out
  have zZ1 := lt_of_heap Z1.out
  go_simp
  go_wp2_with fail
  refine (H3.out _).mono ?_
  rintro e V3 ⟨rfl, hb3⟩
  clear A1_0 A1_1 zA1 Z1_0 Z1_1 Z1_f0 Z1_f1 zZ1
  have nA1N1 := Lib.hid (lt_of_heap A1.out)
  have nZ1N1 := Lib.hid (lt_of_heap Z1.out)
  have nlZ1N1 : ¬ (w.heap.size + 1 = V2.heap.size) := Nat.ne_of_lt (lt_of_heap Z1.out)
  have nrZ1N1 : ¬ (V2.heap.size = w.heap.size + 1) := Ne.symm (Nat.ne_of_lt (lt_of_heap Z1.out))
  have B3 := Lib.hid (((B2.out).alloc (B2.out.size) _).trans (hb3.mono (by have := B2.out.size; first | assumption | (simp <;> omega) | (simp; done))))
  replace A1 := Lib.hid (row_call hb3 (row_alloc A1.out _))
  replace Z1 := Lib.hid (row_call hb3 (row_alloc Z1.out _))
  have N1 := Lib.hid (row_call hb3 (heap_alloc_new _ _))
  clear hb3
  have A1_0 : V3.cell? ⟨w.heap.size, 0, none⟩ = some (.int .i64 d) := cell_of_row _ _ _ _ _ _ A1.out
  have A1_1 : V3.cell? ⟨w.heap.size, 1, none⟩ = some (.int .i64 m) := cell_of_row _ _ _ _ _ _ A1.out
  have Z1_0 : V3.cell? ⟨w.heap.size + 1, 0, none⟩ = some (.int .i64 0) := cell_of_row _ _ _ _ _ _ Z1.out
  have Z1_1 : V3.cell? ⟨w.heap.size + 1, 1, none⟩ = some (.int .i64 0) := cell_of_row _ _ _ _ _ _ Z1.out
  have Z1_f0 : V3.frozen? ⟨w.heap.size + 1, 0, none⟩ = false := by simp [World.frozen?, Z1.out]
  have Z1_f1 : V3.frozen? ⟨w.heap.size + 1, 1, none⟩ = false := by simp [World.frozen?, Z1.out]
  have N1_0 : V3.cell? ⟨V2.heap.size, 0, none⟩ = some (.int .u64 (zh P)) := cell_of_row _ _ _ _ _ _ N1.out
  have N1_1 : V3.cell? ⟨V2.heap.size, 1, none⟩ = some (.int .u64 (zl P)) := cell_of_row _ _ _ _ _ _ N1.out
  have N1_f0 : V3.frozen? ⟨V2.heap.size, 0, none⟩ = false := by simp [World.frozen?, N1.out]
  have N1_f1 : V3.frozen? ⟨V2.heap.size, 1, none⟩ = false := by simp [World.frozen?, N1.out]
  have zA1 := lt_of_heap A1.out
  have zZ1 := lt_of_heap Z1.out
  have zN1 := lt_of_heap N1.out
  go_simp
  go_wp2_with fail
  refine (H3.out _).mono ?_
  rintro e V4 ⟨rfl, hb4⟩
  clear A1_0 A1_1 zA1 Z1_0 Z1_1 Z1_f0 Z1_f1 zZ1 N1_0 N1_1 N1_f0 N1_f1 zN1
  have B4 : Hid (Below w.heap.size w V4) := by first | exact Lib.hid ((B3.out).trans (hb4.mono (by have := B3.out.size; first | assumption | (simp <;> omega) | (simp; done)))) | exact Lib.hid (((B3.out).alloc (B3.out.size) _).trans (hb4.mono (by have := B3.out.size; first | assumption | (simp <;> omega) | (simp; done)))) | exact Lib.hid ((((B3.out).alloc (B3.out.size) _).alloc (by have := B3.out.size; simp <;> omega) _).trans (hb4.mono (by have := B3.out.size; first | assumption | (simp <;> omega) | (simp; done)))) | exact Lib.hid (((((B3.out).alloc (B3.out.size) _).alloc (by have := B3.out.size; simp <;> omega) _).alloc (by have := B3.out.size; simp <;> omega) _).trans (hb4.mono (by have := B3.out.size; first | assumption | (simp <;> omega) | (simp; done))))
  first | replace A1 := Lib.hid (row_call hb4 A1.out) | replace A1 := Lib.hid (row_call hb4 (row_alloc A1.out _)) | replace A1 := Lib.hid (row_call hb4 (row_alloc (row_alloc A1.out _) _)) | replace A1 := Lib.hid (row_call hb4 (row_alloc (row_alloc (row_alloc A1.out _) _) _))
  first | replace Z1 := Lib.hid (row_call hb4 Z1.out) | replace Z1 := Lib.hid (row_call hb4 (row_alloc Z1.out _)) | replace Z1 := Lib.hid (row_call hb4 (row_alloc (row_alloc Z1.out _) _)) | replace Z1 := Lib.hid (row_call hb4 (row_alloc (row_alloc (row_alloc Z1.out _) _) _))
  first | replace N1 := Lib.hid (row_call hb4 N1.out) | replace N1 := Lib.hid (row_call hb4 (row_alloc N1.out _)) | replace N1 := Lib.hid (row_call hb4 (row_alloc (row_alloc N1.out _) _)) | replace N1 := Lib.hid (row_call hb4 (row_alloc (row_alloc (row_alloc N1.out _) _) _))
  clear hb4
  have A1_0 : V4.cell? ⟨w.heap.size, 0, none⟩ = some (.int .i64 d) := cell_of_row _ _ _ _ _ _ A1.out
  have A1_1 : V4.cell? ⟨w.heap.size, 1, none⟩ = some (.int .i64 m) := cell_of_row _ _ _ _ _ _ A1.out
  have Z1_0 : V4.cell? ⟨w.heap.size + 1, 0, none⟩ = some (.int .i64 0) := cell_of_row _ _ _ _ _ _ Z1.out
  have Z1_1 : V4.cell? ⟨w.heap.size + 1, 1, none⟩ = some (.int .i64 0) := cell_of_row _ _ _ _ _ _ Z1.out
  have Z1_f0 : V4.frozen? ⟨w.heap.size + 1, 0, none⟩ = false := by simp [World.frozen?, Z1.out]
  have Z1_f1 : V4.frozen? ⟨w.heap.size + 1, 1, none⟩ = false := by simp [World.frozen?, Z1.out]
  have N1_0 : V4.cell? ⟨V2.heap.size, 0, none⟩ = some (.int .u64 (zh P)) := cell_of_row _ _ _ _ _ _ N1.out
  have N1_1 : V4.cell? ⟨V2.heap.size, 1, none⟩ = some (.int .u64 (zl P)) := cell_of_row _ _ _ _ _ _ N1.out
  have N1_f0 : V4.frozen? ⟨V2.heap.size, 0, none⟩ = false := by simp [World.frozen?, N1.out]
  have N1_f1 : V4.frozen? ⟨V2.heap.size, 1, none⟩ = false := by simp [World.frozen?, N1.out]
  have zA1 := lt_of_heap A1.out
  have zZ1 := lt_of_heap Z1.out
  have zN1 := lt_of_heap N1.out
  go_simp
  go_wp2_with fail
  refine (H4.out _).mono ?_
  rintro e V5 ⟨rfl, hb5⟩
  clear A1_0 A1_1 zA1 Z1_0 Z1_1 Z1_f0 Z1_f1 zZ1 N1_0 N1_1 N1_f0 N1_f1 zN1
  have B5 : Hid (Below w.heap.size w V5) := by first | exact Lib.hid ((B4.out).trans (hb5.mono (by have := B4.out.size; first | assumption | (simp <;> omega) | (simp; done)))) | exact Lib.hid (((B4.out).alloc (B4.out.size) _).trans (hb5.mono (by have := B4.out.size; first | assumption | (simp <;> omega) | (simp; done)))) | exact Lib.hid ((((B4.out).alloc (B4.out.size) _).alloc (by have := B4.out.size; simp <;> omega) _).trans (hb5.mono (by have := B4.out.size; first | assumption | (simp <;> omega) | (simp; done)))) | exact Lib.hid (((((B4.out).alloc (B4.out.size) _).alloc (by have := B4.out.size; simp <;> omega) _).alloc (by have := B4.out.size; simp <;> omega) _).trans (hb5.mono (by have := B4.out.size; first | assumption | (simp <;> omega) | (simp; done))))
  first | replace A1 := Lib.hid (row_call hb5 A1.out) | replace A1 := Lib.hid (row_call hb5 (row_alloc A1.out _)) | replace A1 := Lib.hid (row_call hb5 (row_alloc (row_alloc A1.out _) _)) | replace A1 := Lib.hid (row_call hb5 (row_alloc (row_alloc (row_alloc A1.out _) _) _))
  first | replace Z1 := Lib.hid (row_call hb5 Z1.out) | replace Z1 := Lib.hid (row_call hb5 (row_alloc Z1.out _)) | replace Z1 := Lib.hid (row_call hb5 (row_alloc (row_alloc Z1.out _) _)) | replace Z1 := Lib.hid (row_call hb5 (row_alloc (row_alloc (row_alloc Z1.out _) _) _))
  first | replace N1 := Lib.hid (row_call hb5 N1.out) | replace N1 := Lib.hid (row_call hb5 (row_alloc N1.out _)) | replace N1 := Lib.hid (row_call hb5 (row_alloc (row_alloc N1.out _) _)) | replace N1 := Lib.hid (row_call hb5 (row_alloc (row_alloc (row_alloc N1.out _) _) _))
  clear hb5
  have A1_0 : V5.cell? ⟨w.heap.size, 0, none⟩ = some (.int .i64 d) := cell_of_row _ _ _ _ _ _ A1.out
  have A1_1 : V5.cell? ⟨w.heap.size, 1, none⟩ = some (.int .i64 m) := cell_of_row _ _ _ _ _ _ A1.out
  have Z1_0 : V5.cell? ⟨w.heap.size + 1, 0, none⟩ = some (.int .i64 0) := cell_of_row _ _ _ _ _ _ Z1.out
  have Z1_1 : V5.cell? ⟨w.heap.size + 1, 1, none⟩ = some (.int .i64 0) := cell_of_row _ _ _ _ _ _ Z1.out
  have Z1_f0 : V5.frozen? ⟨w.heap.size + 1, 0, none⟩ = false := by simp [World.frozen?, Z1.out]
  have Z1_f1 : V5.frozen? ⟨w.heap.size + 1, 1, none⟩ = false := by simp [World.frozen?, Z1.out]
  have N1_0 : V5.cell? ⟨V2.heap.size, 0, none⟩ = some (.int .u64 (zh P)) := cell_of_row _ _ _ _ _ _ N1.out
  have N1_1 : V5.cell? ⟨V2.heap.size, 1, none⟩ = some (.int .u64 (zl P)) := cell_of_row _ _ _ _ _ _ N1.out
  have N1_f0 : V5.frozen? ⟨V2.heap.size, 0, none⟩ = false := by simp [World.frozen?, N1.out]
  have N1_f1 : V5.frozen? ⟨V2.heap.size, 1, none⟩ = false := by simp [World.frozen?, N1.out]
  have zA1 := lt_of_heap A1.out
  have zZ1 := lt_of_heap Z1.out
  have zN1 := lt_of_heap N1.out
  go_simp
  go_wp2_with fail
  clear A1_0 A1_1 zA1 Z1_0 Z1_1 Z1_f0 Z1_f1 zZ1 N1_0 N1_1 N1_f0 N1_f1 zN1
  obtain ⟨W0, hW0⟩ : ∃ W0, W0 = ((V5.setCell ⟨V2.heap.size, 0, none⟩ (Value.int .u64 (zh M))).setCell ⟨V2.heap.size, 1, none⟩ (Value.int .u64 (zl M))) := ⟨_, rfl⟩
  replace A1 := Lib.hid (row_by hW0 (row_other (by have := nA1N1.out; omega) A1.out _ _))
  replace Z1 := Lib.hid (row_by hW0 (row_other (by have := nZ1N1.out; omega) Z1.out _ _))
  replace N1 := Lib.hid (row_by hW0 (row_set N1.out _ _))
  have HB0 := Lib.hid (below_by hW0 (keep2 (B5.out) (by have := B2.out.size; omega) _ _))
  have HW0 := Lib.hid hW0
  clear hW0
  have A1_0 : W0.cell? ⟨w.heap.size, 0, none⟩ = some (.int .i64 d) := cell_of_row _ _ _ _ _ _ A1.out
  have A1_1 : W0.cell? ⟨w.heap.size, 1, none⟩ = some (.int .i64 m) := cell_of_row _ _ _ _ _ _ A1.out
  have zA1 := lt_of_heap A1.out
  have Z1_0 : W0.cell? ⟨w.heap.size + 1, 0, none⟩ = some (.int .i64 0) := cell_of_row _ _ _ _ _ _ Z1.out
  have Z1_1 : W0.cell? ⟨w.heap.size + 1, 1, none⟩ = some (.int .i64 0) := cell_of_row _ _ _ _ _ _ Z1.out
  have Z1_f0 : W0.frozen? ⟨w.heap.size + 1, 0, none⟩ = false := (by simp [World.frozen?, Z1.out])
  have Z1_f1 : W0.frozen? ⟨w.heap.size + 1, 1, none⟩ = false := (by simp [World.frozen?, Z1.out])
  have zZ1 := lt_of_heap Z1.out
  have N1_0 : W0.cell? ⟨V2.heap.size, 0, none⟩ = some (.int .u64 (zh M)) := cell_of_row _ _ _ _ _ _ N1.out
  have N1_1 : W0.cell? ⟨V2.heap.size, 1, none⟩ = some (.int .u64 (zl M)) := cell_of_row _ _ _ _ _ _ N1.out
  have N1_f0 : W0.frozen? ⟨V2.heap.size, 0, none⟩ = false := (by simp [World.frozen?, N1.out])
  have N1_f1 : W0.frozen? ⟨V2.heap.size, 1, none⟩ = false := (by simp [World.frozen?, N1.out])
  have zN1 := lt_of_heap N1.out
  try rw [← HW0.out]
  go_cut [9] (fun s9 wx => ∃ gL1 : Nat, s9 = .pointer (some ⟨gL1, 0, none⟩) ∧ wx.heap[gL1]? = some (.cells #[.int .u64 (zh L), .int .u64 (zl L)] 46 (0, 0)) ∧ Below W0.heap.size W0 wx)
  case first =>
    go_region_held3 (fun w' => Below W0.heap.size W0 w' ∧ w'.cell? ⟨V2.heap.size, 0, none⟩ = some (.int .u64 (zh M)) ∧ w'.cell? ⟨V2.heap.size, 1, none⟩ = some (.int .u64 (zl M)))
    (first
      | ((try go_split_ands); refine ⟨(Below.refl _ _).drew, ?_, ?_⟩ <;> first | assumption | (rw [World.cell?_drew]; assumption))
      | ((try go_split_ands); refine ⟨keepS (W0 := W0) ?_ hb1, cellS (W0 := W0) ?_ hb1 ?_ ?_, cellS (W0 := W0) ?_ hb1 ?_ ?_⟩ <;> first | assumption | omega)
      | ((try go_split_ands); refine ⟨keepA (W0 := W0) ?_ _, cellA (W0 := W0) ?_ _ ?_ ?_, cellA (W0 := W0) ?_ _ ?_ ?_⟩ <;> first | assumption | omega)
      | ((try go_split_ands); refine ⟨keepAd (W0 := W0) ?_ _, cellAd (W0 := W0) ?_ _ ?_ ?_, cellAd (W0 := W0) ?_ _ ?_ ?_⟩ <;> first | assumption | omega | exact Below.refl _ _)
      | ((try go_split_ands); refine ⟨keep2 (W0 := W0) ?_ ?_ _ _, cell2 (W0 := W0) ?_ _ _ ?_ ?_, cell2 (W0 := W0) ?_ _ _ ?_ ?_⟩ <;> first | assumption | omega | exact Nat.le_refl _)
      | ((try go_split_ands); refine ⟨keepZ (W0 := W0) ?_ ?_ _, cellZ (W0 := W0) ?_ _ ?_ ?_, cellZ (W0 := W0) ?_ _ ?_ ?_⟩ <;> first | assumption | omega | exact Nat.le_refl _ | exact ⟨_, by assumption⟩))
    (first | (go_at_call 44; (with_reducible refine (H5.out _).mono ?_); rintro e w1 ⟨rfl, hb1⟩; (try go_split_ands); have hge : W0.heap.size ≤ w1.heap.size := (by first | (refine (keepS (W0 := W0) ?_ hb1).size; assumption) | exact (hb1.size : W0.heap.size ≤ w1.heap.size)); (try have hrow := row_call hb1 hrow); (try have hrow := row_new hb1); (try have hrow := row_newd hb1); have hl1 := lt_below hb1; obtain ⟨hc1, hf1⟩ := bcell hb1; (try (have hrc := row_cellA hrow; clear hc1 hf1)); (try have hrf := row_frozA hrow)) | (go_at_call 43; (with_reducible refine (H6.out _).mono ?_); rintro e w1 ⟨rfl, hb1⟩; (try go_split_ands); have hge : W0.heap.size ≤ w1.heap.size := (by first | (refine (keepS (W0 := W0) ?_ hb1).size; assumption) | exact (hb1.size : W0.heap.size ≤ w1.heap.size)); (try have hrow := row_call hb1 hrow); (try have hrow := row_new hb1); (try have hrow := row_newd hb1); have hl1 := lt_below hb1; obtain ⟨hc1, hf1⟩ := bcell hb1; (try (have hrc := row_cellA hrow; clear hc1 hf1)); (try have hrf := row_frozA hrow)))
    all_goals (try go_split_ands)
    all_goals (go_wp2_with fail; go_meet; refine ⟨_, rfl, ?_, ?_⟩)
    all_goals first | assumption | exact heap_alloc_new _ _ | exact row_set (by assumption) _ _
  case rest =>
    obtain ⟨gL1, rfl, hL1, hB⟩ := hcut
    obtain ⟨V6, rfl⟩ : ∃ V, V = wc := ⟨_, rfl⟩
    have L1 := Lib.hid hL1
    clear hL1
    clear A1_0 A1_1 zA1 Z1_0 Z1_1 Z1_f0 Z1_f1 zZ1 N1_0 N1_1 N1_f0 N1_f1 zN1
    replace A1 := Lib.hid (row_call hB A1.out)
    replace Z1 := Lib.hid (row_call hB Z1.out)
    replace N1 := Lib.hid (row_call hB N1.out)
    have B6 := Lib.hid (HB0.out.trans (hB.mono HB0.out.size))
    clear hB
    have A1_0 : V6.cell? ⟨w.heap.size, 0, none⟩ = some (.int .i64 d) := cell_of_row _ _ _ _ _ _ A1.out
    have A1_1 : V6.cell? ⟨w.heap.size, 1, none⟩ = some (.int .i64 m) := cell_of_row _ _ _ _ _ _ A1.out
    have zA1 := lt_of_heap A1.out
    have Z1_0 : V6.cell? ⟨w.heap.size + 1, 0, none⟩ = some (.int .i64 0) := cell_of_row _ _ _ _ _ _ Z1.out
    have Z1_1 : V6.cell? ⟨w.heap.size + 1, 1, none⟩ = some (.int .i64 0) := cell_of_row _ _ _ _ _ _ Z1.out
    have Z1_f0 : V6.frozen? ⟨w.heap.size + 1, 0, none⟩ = false := (by simp [World.frozen?, Z1.out])
    have Z1_f1 : V6.frozen? ⟨w.heap.size + 1, 1, none⟩ = false := (by simp [World.frozen?, Z1.out])
    have zZ1 := lt_of_heap Z1.out
    have N1_0 : V6.cell? ⟨V2.heap.size, 0, none⟩ = some (.int .u64 (zh M)) := cell_of_row _ _ _ _ _ _ N1.out
    have N1_1 : V6.cell? ⟨V2.heap.size, 1, none⟩ = some (.int .u64 (zl M)) := cell_of_row _ _ _ _ _ _ N1.out
    have N1_f0 : V6.frozen? ⟨V2.heap.size, 0, none⟩ = false := (by simp [World.frozen?, N1.out])
    have N1_f1 : V6.frozen? ⟨V2.heap.size, 1, none⟩ = false := (by simp [World.frozen?, N1.out])
    have zN1 := lt_of_heap N1.out
    have L1_0 : V6.cell? ⟨gL1, 0, none⟩ = some (.int .u64 (zh L)) := cell_of_row _ _ _ _ _ _ L1.out
    have L1_1 : V6.cell? ⟨gL1, 1, none⟩ = some (.int .u64 (zl L)) := cell_of_row _ _ _ _ _ _ L1.out
    have zL1 := lt_of_heap L1.out
    go_wp2_with fail
    clear A1_0 A1_1 zA1 Z1_0 Z1_1 Z1_f0 Z1_f1 zZ1 N1_0 N1_1 N1_f0 N1_f1 zN1 L1_0 L1_1 zL1
    obtain ⟨W0, hW0⟩ : ∃ W0, W0 = V6 := ⟨_, rfl⟩
    replace A1 := Lib.hid (row_by hW0 A1.out)
    replace Z1 := Lib.hid (row_by hW0 Z1.out)
    replace N1 := Lib.hid (row_by hW0 N1.out)
    replace L1 := Lib.hid (row_by hW0 L1.out)
    have HB0 := Lib.hid (below_by hW0 (B6.out))
    have HW0 := Lib.hid hW0
    clear hW0
    have A1_0 : W0.cell? ⟨w.heap.size, 0, none⟩ = some (.int .i64 d) := cell_of_row _ _ _ _ _ _ A1.out
    have A1_1 : W0.cell? ⟨w.heap.size, 1, none⟩ = some (.int .i64 m) := cell_of_row _ _ _ _ _ _ A1.out
    have zA1 := lt_of_heap A1.out
    have Z1_0 : W0.cell? ⟨w.heap.size + 1, 0, none⟩ = some (.int .i64 0) := cell_of_row _ _ _ _ _ _ Z1.out
    have Z1_1 : W0.cell? ⟨w.heap.size + 1, 1, none⟩ = some (.int .i64 0) := cell_of_row _ _ _ _ _ _ Z1.out
    have Z1_f0 : W0.frozen? ⟨w.heap.size + 1, 0, none⟩ = false := (by simp [World.frozen?, Z1.out])
    have Z1_f1 : W0.frozen? ⟨w.heap.size + 1, 1, none⟩ = false := (by simp [World.frozen?, Z1.out])
    have zZ1 := lt_of_heap Z1.out
    have N1_0 : W0.cell? ⟨V2.heap.size, 0, none⟩ = some (.int .u64 (zh M)) := cell_of_row _ _ _ _ _ _ N1.out
    have N1_1 : W0.cell? ⟨V2.heap.size, 1, none⟩ = some (.int .u64 (zl M)) := cell_of_row _ _ _ _ _ _ N1.out
    have N1_f0 : W0.frozen? ⟨V2.heap.size, 0, none⟩ = false := (by simp [World.frozen?, N1.out])
    have N1_f1 : W0.frozen? ⟨V2.heap.size, 1, none⟩ = false := (by simp [World.frozen?, N1.out])
    have zN1 := lt_of_heap N1.out
    have L1_0 : W0.cell? ⟨gL1, 0, none⟩ = some (.int .u64 (zh L)) := cell_of_row _ _ _ _ _ _ L1.out
    have L1_1 : W0.cell? ⟨gL1, 1, none⟩ = some (.int .u64 (zl L)) := cell_of_row _ _ _ _ _ _ L1.out
    have zL1 := lt_of_heap L1.out
    try rw [← HW0.out]
    go_cut [10] (fun s10 wx => ∃ gK1 : Nat, s10 = .pointer (some ⟨gK1, 0, none⟩) ∧ wx.heap[gK1]? = some (.cells #[.int .u64 0, .int .u64 (zl G)] 46 (0, 0)) ∧ Below W0.heap.size W0 wx)
    case first =>
      go_region_held3 (fun w' => Below W0.heap.size W0 w' ∧ w'.cell? ⟨V2.heap.size, 0, none⟩ = some (.int .u64 (zh M)) ∧ w'.cell? ⟨V2.heap.size, 1, none⟩ = some (.int .u64 (zl M)))
    (first
      | ((try go_split_ands); refine ⟨(Below.refl _ _).drew, ?_, ?_⟩ <;> first | assumption | (rw [World.cell?_drew]; assumption))
      | ((try go_split_ands); refine ⟨keepS (W0 := W0) ?_ hb1, cellS (W0 := W0) ?_ hb1 ?_ ?_, cellS (W0 := W0) ?_ hb1 ?_ ?_⟩ <;> first | assumption | omega)
      | ((try go_split_ands); refine ⟨keepA (W0 := W0) ?_ _, cellA (W0 := W0) ?_ _ ?_ ?_, cellA (W0 := W0) ?_ _ ?_ ?_⟩ <;> first | assumption | omega)
      | ((try go_split_ands); refine ⟨keepAd (W0 := W0) ?_ _, cellAd (W0 := W0) ?_ _ ?_ ?_, cellAd (W0 := W0) ?_ _ ?_ ?_⟩ <;> first | assumption | omega | exact Below.refl _ _)
      | ((try go_split_ands); refine ⟨keep2 (W0 := W0) ?_ ?_ _ _, cell2 (W0 := W0) ?_ _ _ ?_ ?_, cell2 (W0 := W0) ?_ _ _ ?_ ?_⟩ <;> first | assumption | omega | exact Nat.le_refl _)
      | ((try go_split_ands); refine ⟨keepZ (W0 := W0) ?_ ?_ _, cellZ (W0 := W0) ?_ _ ?_ ?_, cellZ (W0 := W0) ?_ _ ?_ ?_⟩ <;> first | assumption | omega | exact Nat.le_refl _ | exact ⟨_, by assumption⟩))
    (first | (go_at_call 44; (with_reducible refine (H5.out _).mono ?_); rintro e w1 ⟨rfl, hb1⟩; (try go_split_ands); have hge : W0.heap.size ≤ w1.heap.size := (by first | (refine (keepS (W0 := W0) ?_ hb1).size; assumption) | exact (hb1.size : W0.heap.size ≤ w1.heap.size)); (try have hrow := row_call hb1 hrow); (try have hrow := row_new hb1); (try have hrow := row_newd hb1); have hl1 := lt_below hb1; obtain ⟨hc1, hf1⟩ := bcell hb1; (try (have hrc := row_cellA hrow; clear hc1 hf1)); (try have hrf := row_frozA hrow)) | (go_at_call 43; (with_reducible refine (H7.out _).mono ?_); rintro e w1 ⟨rfl, hb1⟩; (try go_split_ands); have hge : W0.heap.size ≤ w1.heap.size := (by first | (refine (keepS (W0 := W0) ?_ hb1).size; assumption) | exact (hb1.size : W0.heap.size ≤ w1.heap.size)); (try have hrow := row_call hb1 hrow); (try have hrow := row_new hb1); (try have hrow := row_newd hb1); have hl1 := lt_below hb1; obtain ⟨hc1, hf1⟩ := bcell hb1; (try (have hrc := row_cellA hrow; clear hc1 hf1)); (try have hrf := row_frozA hrow)))
      all_goals (try go_split_ands)
      all_goals (go_wp2_with fail; go_meet; refine ⟨_, rfl, ?_, ?_⟩)
      all_goals first | assumption | exact heap_alloc_new _ _ | exact row_set (by assumption) _ _
    case rest =>
      obtain ⟨gK1, rfl, hK1, hB⟩ := hcut
      obtain ⟨V7, rfl⟩ : ∃ V, V = wc := ⟨_, rfl⟩
      have K1 := Lib.hid hK1
      clear hK1
      clear A1_0 A1_1 zA1 Z1_0 Z1_1 Z1_f0 Z1_f1 zZ1 N1_0 N1_1 N1_f0 N1_f1 zN1 L1_0 L1_1 zL1
      replace A1 := Lib.hid (row_call hB A1.out)
      replace Z1 := Lib.hid (row_call hB Z1.out)
      replace N1 := Lib.hid (row_call hB N1.out)
      replace L1 := Lib.hid (row_call hB L1.out)
      have B7 := Lib.hid (HB0.out.trans (hB.mono HB0.out.size))
      clear hB
      have A1_0 : V7.cell? ⟨w.heap.size, 0, none⟩ = some (.int .i64 d) := cell_of_row _ _ _ _ _ _ A1.out
      have A1_1 : V7.cell? ⟨w.heap.size, 1, none⟩ = some (.int .i64 m) := cell_of_row _ _ _ _ _ _ A1.out
      have zA1 := lt_of_heap A1.out
      have Z1_0 : V7.cell? ⟨w.heap.size + 1, 0, none⟩ = some (.int .i64 0) := cell_of_row _ _ _ _ _ _ Z1.out
      have Z1_1 : V7.cell? ⟨w.heap.size + 1, 1, none⟩ = some (.int .i64 0) := cell_of_row _ _ _ _ _ _ Z1.out
      have Z1_f0 : V7.frozen? ⟨w.heap.size + 1, 0, none⟩ = false := (by simp [World.frozen?, Z1.out])
      have Z1_f1 : V7.frozen? ⟨w.heap.size + 1, 1, none⟩ = false := (by simp [World.frozen?, Z1.out])
      have zZ1 := lt_of_heap Z1.out
      have N1_0 : V7.cell? ⟨V2.heap.size, 0, none⟩ = some (.int .u64 (zh M)) := cell_of_row _ _ _ _ _ _ N1.out
      have N1_1 : V7.cell? ⟨V2.heap.size, 1, none⟩ = some (.int .u64 (zl M)) := cell_of_row _ _ _ _ _ _ N1.out
      have N1_f0 : V7.frozen? ⟨V2.heap.size, 0, none⟩ = false := (by simp [World.frozen?, N1.out])
      have N1_f1 : V7.frozen? ⟨V2.heap.size, 1, none⟩ = false := (by simp [World.frozen?, N1.out])
      have zN1 := lt_of_heap N1.out
      have L1_0 : V7.cell? ⟨gL1, 0, none⟩ = some (.int .u64 (zh L)) := cell_of_row _ _ _ _ _ _ L1.out
      have L1_1 : V7.cell? ⟨gL1, 1, none⟩ = some (.int .u64 (zl L)) := cell_of_row _ _ _ _ _ _ L1.out
      have zL1 := lt_of_heap L1.out
      have K1_0 : V7.cell? ⟨gK1, 0, none⟩ = some (.int .u64 0) := cell_of_row _ _ _ _ _ _ K1.out
      have K1_1 : V7.cell? ⟨gK1, 1, none⟩ = some (.int .u64 (zl G)) := cell_of_row _ _ _ _ _ _ K1.out
      have zK1 := lt_of_heap K1.out
      go_wp2_with fail
      refine (H8.out _).mono ?_
      rintro e V8 ⟨rfl, hb8⟩
      clear A1_0 A1_1 zA1 Z1_0 Z1_1 Z1_f0 Z1_f1 zZ1 N1_0 N1_1 N1_f0 N1_f1 zN1 L1_0 L1_1 zL1 K1_0 K1_1 zK1
      have B8 : Hid (Below w.heap.size w V8) := by first | exact Lib.hid ((B7.out).trans (hb8.mono (by have := B7.out.size; first | assumption | (simp <;> omega) | (simp; done)))) | exact Lib.hid (((B7.out).alloc (B7.out.size) _).trans (hb8.mono (by have := B7.out.size; first | assumption | (simp <;> omega) | (simp; done)))) | exact Lib.hid ((((B7.out).alloc (B7.out.size) _).alloc (by have := B7.out.size; simp <;> omega) _).trans (hb8.mono (by have := B7.out.size; first | assumption | (simp <;> omega) | (simp; done)))) | exact Lib.hid (((((B7.out).alloc (B7.out.size) _).alloc (by have := B7.out.size; simp <;> omega) _).alloc (by have := B7.out.size; simp <;> omega) _).trans (hb8.mono (by have := B7.out.size; first | assumption | (simp <;> omega) | (simp; done))))
      first | replace A1 := Lib.hid (row_call hb8 A1.out) | replace A1 := Lib.hid (row_call hb8 (row_alloc A1.out _)) | replace A1 := Lib.hid (row_call hb8 (row_alloc (row_alloc A1.out _) _)) | replace A1 := Lib.hid (row_call hb8 (row_alloc (row_alloc (row_alloc A1.out _) _) _))
      first | replace Z1 := Lib.hid (row_call hb8 Z1.out) | replace Z1 := Lib.hid (row_call hb8 (row_alloc Z1.out _)) | replace Z1 := Lib.hid (row_call hb8 (row_alloc (row_alloc Z1.out _) _)) | replace Z1 := Lib.hid (row_call hb8 (row_alloc (row_alloc (row_alloc Z1.out _) _) _))
      first | replace N1 := Lib.hid (row_call hb8 N1.out) | replace N1 := Lib.hid (row_call hb8 (row_alloc N1.out _)) | replace N1 := Lib.hid (row_call hb8 (row_alloc (row_alloc N1.out _) _)) | replace N1 := Lib.hid (row_call hb8 (row_alloc (row_alloc (row_alloc N1.out _) _) _))
      first | replace L1 := Lib.hid (row_call hb8 L1.out) | replace L1 := Lib.hid (row_call hb8 (row_alloc L1.out _)) | replace L1 := Lib.hid (row_call hb8 (row_alloc (row_alloc L1.out _) _)) | replace L1 := Lib.hid (row_call hb8 (row_alloc (row_alloc (row_alloc L1.out _) _) _))
      first | replace K1 := Lib.hid (row_call hb8 K1.out) | replace K1 := Lib.hid (row_call hb8 (row_alloc K1.out _)) | replace K1 := Lib.hid (row_call hb8 (row_alloc (row_alloc K1.out _) _)) | replace K1 := Lib.hid (row_call hb8 (row_alloc (row_alloc (row_alloc K1.out _) _) _))
      clear hb8
      have A1_0 : V8.cell? ⟨w.heap.size, 0, none⟩ = some (.int .i64 d) := cell_of_row _ _ _ _ _ _ A1.out
      have A1_1 : V8.cell? ⟨w.heap.size, 1, none⟩ = some (.int .i64 m) := cell_of_row _ _ _ _ _ _ A1.out
      have Z1_0 : V8.cell? ⟨w.heap.size + 1, 0, none⟩ = some (.int .i64 0) := cell_of_row _ _ _ _ _ _ Z1.out
      have Z1_1 : V8.cell? ⟨w.heap.size + 1, 1, none⟩ = some (.int .i64 0) := cell_of_row _ _ _ _ _ _ Z1.out
      have Z1_f0 : V8.frozen? ⟨w.heap.size + 1, 0, none⟩ = false := by simp [World.frozen?, Z1.out]
      have Z1_f1 : V8.frozen? ⟨w.heap.size + 1, 1, none⟩ = false := by simp [World.frozen?, Z1.out]
      have N1_0 : V8.cell? ⟨V2.heap.size, 0, none⟩ = some (.int .u64 (zh M)) := cell_of_row _ _ _ _ _ _ N1.out
      have N1_1 : V8.cell? ⟨V2.heap.size, 1, none⟩ = some (.int .u64 (zl M)) := cell_of_row _ _ _ _ _ _ N1.out
      have N1_f0 : V8.frozen? ⟨V2.heap.size, 0, none⟩ = false := by simp [World.frozen?, N1.out]
      have N1_f1 : V8.frozen? ⟨V2.heap.size, 1, none⟩ = false := by simp [World.frozen?, N1.out]
      have L1_0 : V8.cell? ⟨gL1, 0, none⟩ = some (.int .u64 (zh L)) := cell_of_row _ _ _ _ _ _ L1.out
      have L1_1 : V8.cell? ⟨gL1, 1, none⟩ = some (.int .u64 (zl L)) := cell_of_row _ _ _ _ _ _ L1.out
      have K1_0 : V8.cell? ⟨gK1, 0, none⟩ = some (.int .u64 0) := cell_of_row _ _ _ _ _ _ K1.out
      have K1_1 : V8.cell? ⟨gK1, 1, none⟩ = some (.int .u64 (zl G)) := cell_of_row _ _ _ _ _ _ K1.out
      have zA1 := lt_of_heap A1.out
      have zZ1 := lt_of_heap Z1.out
      have zN1 := lt_of_heap N1.out
      have zL1 := lt_of_heap L1.out
      have zK1 := lt_of_heap K1.out
      go_simp
      go_wp2_with fail
      refine (H9.out _).mono ?_
      rintro e V9 ⟨rfl, hb9⟩
      clear A1_0 A1_1 zA1 Z1_0 Z1_1 Z1_f0 Z1_f1 zZ1 N1_0 N1_1 N1_f0 N1_f1 zN1 L1_0 L1_1 zL1 K1_0 K1_1 zK1
      have nA1X1 := Lib.hid (lt_of_heap A1.out)
      have nZ1X1 := Lib.hid (lt_of_heap Z1.out)
      have nlZ1X1 : ¬ (w.heap.size + 1 = V8.heap.size) := Nat.ne_of_lt (lt_of_heap Z1.out)
      have nrZ1X1 : ¬ (V8.heap.size = w.heap.size + 1) := Ne.symm (Nat.ne_of_lt (lt_of_heap Z1.out))
      have nN1X1 := Lib.hid (lt_of_heap N1.out)
      have nlN1X1 : ¬ (V2.heap.size = V8.heap.size) := Nat.ne_of_lt (lt_of_heap N1.out)
      have nrN1X1 : ¬ (V8.heap.size = V2.heap.size) := Ne.symm (Nat.ne_of_lt (lt_of_heap N1.out))
      have nL1X1 := Lib.hid (lt_of_heap L1.out)
      have nK1X1 := Lib.hid (lt_of_heap K1.out)
      have B9 := Lib.hid (((B8.out).alloc (B8.out.size) _).trans (hb9.mono (by have := B8.out.size; first | assumption | (simp <;> omega) | (simp; done))))
      replace A1 := Lib.hid (row_call hb9 (row_alloc A1.out _))
      replace Z1 := Lib.hid (row_call hb9 (row_alloc Z1.out _))
      replace N1 := Lib.hid (row_call hb9 (row_alloc N1.out _))
      replace L1 := Lib.hid (row_call hb9 (row_alloc L1.out _))
      replace K1 := Lib.hid (row_call hb9 (row_alloc K1.out _))
      have X1 := Lib.hid (row_call hb9 (heap_alloc_new _ _))
      clear hb9
      have A1_0 : V9.cell? ⟨w.heap.size, 0, none⟩ = some (.int .i64 d) := cell_of_row _ _ _ _ _ _ A1.out
      have A1_1 : V9.cell? ⟨w.heap.size, 1, none⟩ = some (.int .i64 m) := cell_of_row _ _ _ _ _ _ A1.out
      have Z1_0 : V9.cell? ⟨w.heap.size + 1, 0, none⟩ = some (.int .i64 0) := cell_of_row _ _ _ _ _ _ Z1.out
      have Z1_1 : V9.cell? ⟨w.heap.size + 1, 1, none⟩ = some (.int .i64 0) := cell_of_row _ _ _ _ _ _ Z1.out
      have Z1_f0 : V9.frozen? ⟨w.heap.size + 1, 0, none⟩ = false := by simp [World.frozen?, Z1.out]
      have Z1_f1 : V9.frozen? ⟨w.heap.size + 1, 1, none⟩ = false := by simp [World.frozen?, Z1.out]
      have N1_0 : V9.cell? ⟨V2.heap.size, 0, none⟩ = some (.int .u64 (zh M)) := cell_of_row _ _ _ _ _ _ N1.out
      have N1_1 : V9.cell? ⟨V2.heap.size, 1, none⟩ = some (.int .u64 (zl M)) := cell_of_row _ _ _ _ _ _ N1.out
      have N1_f0 : V9.frozen? ⟨V2.heap.size, 0, none⟩ = false := by simp [World.frozen?, N1.out]
      have N1_f1 : V9.frozen? ⟨V2.heap.size, 1, none⟩ = false := by simp [World.frozen?, N1.out]
      have L1_0 : V9.cell? ⟨gL1, 0, none⟩ = some (.int .u64 (zh L)) := cell_of_row _ _ _ _ _ _ L1.out
      have L1_1 : V9.cell? ⟨gL1, 1, none⟩ = some (.int .u64 (zl L)) := cell_of_row _ _ _ _ _ _ L1.out
      have K1_0 : V9.cell? ⟨gK1, 0, none⟩ = some (.int .u64 0) := cell_of_row _ _ _ _ _ _ K1.out
      have K1_1 : V9.cell? ⟨gK1, 1, none⟩ = some (.int .u64 (zl G)) := cell_of_row _ _ _ _ _ _ K1.out
      have X1_0 : V9.cell? ⟨V8.heap.size, 0, none⟩ = some (.int .u64 (zh X)) := cell_of_row _ _ _ _ _ _ X1.out
      have X1_1 : V9.cell? ⟨V8.heap.size, 1, none⟩ = some (.int .u64 (zl X)) := cell_of_row _ _ _ _ _ _ X1.out
      have X1_f0 : V9.frozen? ⟨V8.heap.size, 0, none⟩ = false := by simp [World.frozen?, X1.out]
      have X1_f1 : V9.frozen? ⟨V8.heap.size, 1, none⟩ = false := by simp [World.frozen?, X1.out]
      have zA1 := lt_of_heap A1.out
      have zZ1 := lt_of_heap Z1.out
      have zN1 := lt_of_heap N1.out
      have zL1 := lt_of_heap L1.out
      have zK1 := lt_of_heap K1.out
      have zX1 := lt_of_heap X1.out
      go_simp
      go_wp2_with fail
      refine (H11.out _).mono ?_
      rintro e V10 ⟨rfl, hb10⟩
      clear A1_0 A1_1 zA1 Z1_0 Z1_1 Z1_f0 Z1_f1 zZ1 N1_0 N1_1 N1_f0 N1_f1 zN1 L1_0 L1_1 zL1 K1_0 K1_1 zK1 X1_0 X1_1 X1_f0 X1_f1 zX1
      have B10 : Hid (Below w.heap.size w V10) := by first | exact Lib.hid ((B9.out).trans (hb10.mono (by have := B9.out.size; first | assumption | (simp <;> omega) | (simp; done)))) | exact Lib.hid (((B9.out).alloc (B9.out.size) _).trans (hb10.mono (by have := B9.out.size; first | assumption | (simp <;> omega) | (simp; done)))) | exact Lib.hid ((((B9.out).alloc (B9.out.size) _).alloc (by have := B9.out.size; simp <;> omega) _).trans (hb10.mono (by have := B9.out.size; first | assumption | (simp <;> omega) | (simp; done)))) | exact Lib.hid (((((B9.out).alloc (B9.out.size) _).alloc (by have := B9.out.size; simp <;> omega) _).alloc (by have := B9.out.size; simp <;> omega) _).trans (hb10.mono (by have := B9.out.size; first | assumption | (simp <;> omega) | (simp; done))))
      first | replace A1 := Lib.hid (row_call hb10 A1.out) | replace A1 := Lib.hid (row_call hb10 (row_alloc A1.out _)) | replace A1 := Lib.hid (row_call hb10 (row_alloc (row_alloc A1.out _) _)) | replace A1 := Lib.hid (row_call hb10 (row_alloc (row_alloc (row_alloc A1.out _) _) _))
      first | replace Z1 := Lib.hid (row_call hb10 Z1.out) | replace Z1 := Lib.hid (row_call hb10 (row_alloc Z1.out _)) | replace Z1 := Lib.hid (row_call hb10 (row_alloc (row_alloc Z1.out _) _)) | replace Z1 := Lib.hid (row_call hb10 (row_alloc (row_alloc (row_alloc Z1.out _) _) _))
      first | replace N1 := Lib.hid (row_call hb10 N1.out) | replace N1 := Lib.hid (row_call hb10 (row_alloc N1.out _)) | replace N1 := Lib.hid (row_call hb10 (row_alloc (row_alloc N1.out _) _)) | replace N1 := Lib.hid (row_call hb10 (row_alloc (row_alloc (row_alloc N1.out _) _) _))
      first | replace L1 := Lib.hid (row_call hb10 L1.out) | replace L1 := Lib.hid (row_call hb10 (row_alloc L1.out _)) | replace L1 := Lib.hid (row_call hb10 (row_alloc (row_alloc L1.out _) _)) | replace L1 := Lib.hid (row_call hb10 (row_alloc (row_alloc (row_alloc L1.out _) _) _))
      first | replace K1 := Lib.hid (row_call hb10 K1.out) | replace K1 := Lib.hid (row_call hb10 (row_alloc K1.out _)) | replace K1 := Lib.hid (row_call hb10 (row_alloc (row_alloc K1.out _) _)) | replace K1 := Lib.hid (row_call hb10 (row_alloc (row_alloc (row_alloc K1.out _) _) _))
      first | replace X1 := Lib.hid (row_call hb10 X1.out) | replace X1 := Lib.hid (row_call hb10 (row_alloc X1.out _)) | replace X1 := Lib.hid (row_call hb10 (row_alloc (row_alloc X1.out _) _)) | replace X1 := Lib.hid (row_call hb10 (row_alloc (row_alloc (row_alloc X1.out _) _) _))
      clear hb10
      have A1_0 : V10.cell? ⟨w.heap.size, 0, none⟩ = some (.int .i64 d) := cell_of_row _ _ _ _ _ _ A1.out
      have A1_1 : V10.cell? ⟨w.heap.size, 1, none⟩ = some (.int .i64 m) := cell_of_row _ _ _ _ _ _ A1.out
      have Z1_0 : V10.cell? ⟨w.heap.size + 1, 0, none⟩ = some (.int .i64 0) := cell_of_row _ _ _ _ _ _ Z1.out
      have Z1_1 : V10.cell? ⟨w.heap.size + 1, 1, none⟩ = some (.int .i64 0) := cell_of_row _ _ _ _ _ _ Z1.out
      have Z1_f0 : V10.frozen? ⟨w.heap.size + 1, 0, none⟩ = false := by simp [World.frozen?, Z1.out]
      have Z1_f1 : V10.frozen? ⟨w.heap.size + 1, 1, none⟩ = false := by simp [World.frozen?, Z1.out]
      have N1_0 : V10.cell? ⟨V2.heap.size, 0, none⟩ = some (.int .u64 (zh M)) := cell_of_row _ _ _ _ _ _ N1.out
      have N1_1 : V10.cell? ⟨V2.heap.size, 1, none⟩ = some (.int .u64 (zl M)) := cell_of_row _ _ _ _ _ _ N1.out
      have N1_f0 : V10.frozen? ⟨V2.heap.size, 0, none⟩ = false := by simp [World.frozen?, N1.out]
      have N1_f1 : V10.frozen? ⟨V2.heap.size, 1, none⟩ = false := by simp [World.frozen?, N1.out]
      have L1_0 : V10.cell? ⟨gL1, 0, none⟩ = some (.int .u64 (zh L)) := cell_of_row _ _ _ _ _ _ L1.out
      have L1_1 : V10.cell? ⟨gL1, 1, none⟩ = some (.int .u64 (zl L)) := cell_of_row _ _ _ _ _ _ L1.out
      have K1_0 : V10.cell? ⟨gK1, 0, none⟩ = some (.int .u64 0) := cell_of_row _ _ _ _ _ _ K1.out
      have K1_1 : V10.cell? ⟨gK1, 1, none⟩ = some (.int .u64 (zl G)) := cell_of_row _ _ _ _ _ _ K1.out
      have X1_0 : V10.cell? ⟨V8.heap.size, 0, none⟩ = some (.int .u64 (zh X)) := cell_of_row _ _ _ _ _ _ X1.out
      have X1_1 : V10.cell? ⟨V8.heap.size, 1, none⟩ = some (.int .u64 (zl X)) := cell_of_row _ _ _ _ _ _ X1.out
      have X1_f0 : V10.frozen? ⟨V8.heap.size, 0, none⟩ = false := by simp [World.frozen?, X1.out]
      have X1_f1 : V10.frozen? ⟨V8.heap.size, 1, none⟩ = false := by simp [World.frozen?, X1.out]
      have zA1 := lt_of_heap A1.out
      have zZ1 := lt_of_heap Z1.out
      have zN1 := lt_of_heap N1.out
      have zL1 := lt_of_heap L1.out
      have zK1 := lt_of_heap K1.out
      have zX1 := lt_of_heap X1.out
      go_simp
      go_wp2
      refine shut_ret (v := .tuple #[.agg #[.int .i64 S, .int .i64 N], .int .i64 E]) (by simp [results, Try.results22, go_sem, zZ1, Z1_0, Z1_1]) rfl ⟨rfl, ?_⟩
      first | exact keep2 B10.out (by omega) _ _ | exact keep2 (keep2 B10.out (by have := B10.out.size; omega) _ _) (by first | omega | (simp; omega)) _ _ | exact (keep2 B10.out (by omega) _ _).alloc (by have := B10.out.size; simp; omega) _
end Go.Proofs.Ytjgpjphffjjhdaa
