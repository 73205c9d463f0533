/- Contracts of package checked's product, and of the plain answer's. -/
import Derived.Test.YtkmhebfahfaokaaChkA
namespace Go.Proofs.Ytkmhebfahfaokaa
set_option linter.unusedVariables false
set_option linter.unusedSimpArgs false
open Go.ChangeShapes Go.WideShapes Go.ChangeAt Go.RowKit

theorem natAbs_U {n : Int} (b : in64 n) : U n.natAbs := by unfold in64 at b; unfold U; omega
theorem zAmt_any (n : Int) (b : in64 n) (w : World) : Calls Try.prog 67 #[.int .i64 n] w fun e w' => e = .returned (.int .u64 n.natAbs) ∧ Below w.heap.size w w' := by
  obtain ⟨m, Em⟩ : ∃ m, Hid (m = n.natAbs) := ⟨_, rfl⟩
  rw [← Em.out]
  by_cases h : n < 0
  · obtain ⟨x, Ex⟩ : ∃ x, Hid (x = ofL n) := ⟨_, rfl⟩
    have f1 : IntKind.u64.wrap n = (x : Int) := by rw [Ex.out]; exact wrap_ofL n
    have f2 : IntKind.u64.wrap (-(x : Int)) = (m : Int) := by
      rw [Ex.out, Em.out, IntKind.wrap_u64]; unfold ofL; unfold in64 at b; omega
    clear b
    go_enter Try.func67, Try.ntmps67
    go_wp2
    go_ret
    exact ⟨rfl, Below.refl _ _⟩
  · have f1 : IntKind.u64.wrap n = (m : Int) := by
      rw [Em.out, IntKind.wrap_u64]; unfold in64 at b; omega
    clear b
    go_enter Try.func67, Try.ntmps67
    go_wp2
    go_ret
    exact ⟨rfl, Below.refl _ _⟩
theorem rAmt_any (n : Int) (b : in64 n) (w : World) : Calls Try.prog 74 #[.int .i64 n] w fun e w' => e = .returned (.int .u64 n.natAbs) ∧ Below w.heap.size w w' := by
  obtain ⟨m, Em⟩ : ∃ m, Hid (m = n.natAbs) := ⟨_, rfl⟩
  rw [← Em.out]
  by_cases h : n < 0
  · obtain ⟨x, Ex⟩ : ∃ x, Hid (x = ofL n) := ⟨_, rfl⟩
    have f1 : IntKind.u64.wrap n = (x : Int) := by rw [Ex.out]; exact wrap_ofL n
    have f2 : IntKind.u64.wrap (-(x : Int)) = (m : Int) := by
      rw [Ex.out, Em.out, IntKind.wrap_u64]; unfold ofL; unfold in64 at b; omega
    clear b
    go_enter Try.func74, Try.ntmps74
    go_wp2
    go_ret
    exact ⟨rfl, Below.refl _ _⟩
  · have f1 : IntKind.u64.wrap n = (m : Int) := by
      rw [Em.out, IntKind.wrap_u64]; unfold in64 at b; omega
    clear b
    go_enter Try.func74, Try.ntmps74
    go_wp2
    go_ret
    exact ⟨rfl, Below.refl _ _⟩
theorem abs_mul_U {a b : Int} (ba : in64 a) (bb : in64 b) : in128 (a * b) := by
  have h1 : a.natAbs * b.natAbs ≤ 9223372036854775808 * 9223372036854775808 := by
    unfold in64 at ba bb
    exact Nat.mul_le_mul (by omega) (by omega)
  have h2 : (a * b).natAbs = a.natAbs * b.natAbs := Int.natAbs_mul a b
  unfold in128
  omega
theorem mul_same {a b : Int} (h : decide (a < 0) = decide (b < 0)) : ((a.natAbs * b.natAbs : Nat) : Int) = a * b := by
  have h2 : (a * b).natAbs = a.natAbs * b.natAbs := Int.natAbs_mul a b
  rw [← h2]
  have h3 : 0 ≤ a * b := by
    rw [decide_eq_decide] at h
    by_cases h1 : a < 0
    · exact Int.mul_nonneg_of_nonpos_of_nonpos (by omega) (by omega)
    · exact Int.mul_nonneg (by omega) (by omega)
  omega
theorem mul_diff {a b : Int} (h : decide (a < 0) = !decide (b < 0)) : -((a.natAbs * b.natAbs : Nat) : Int) = a * b := by
  have h2 : (a * b).natAbs = a.natAbs * b.natAbs := Int.natAbs_mul a b
  rw [← h2]
  have h3 : a * b ≤ 0 := by
    by_cases h1 : a < 0 <;> by_cases h4 : b < 0
    · rw [decide_eq_true h1, decide_eq_true h4] at h; cases h
    · exact Int.mul_nonpos_of_nonpos_of_nonneg (by omega) (by omega)
    · exact Int.mul_nonpos_of_nonneg_of_nonpos (by omega) (by omega)
    · rw [decide_eq_false h1, decide_eq_false h4] at h; cases h
  omega
theorem zsame (a b : Int) (ba : in64 a) (bb : in64 b) (h : decide (a < 0) = decide (b < 0)) (w : World) : Calls Try.prog 26 #[.int .u64 a.natAbs, .int .u64 b.natAbs] w fun e w' => e = .returned (.agg #[.int .u64 (zh (a * b)), .int .u64 (zl (a * b))]) ∧ Below w.heap.size w w' := by
  have x := zMul_any a.natAbs b.natAbs (natAbs_U ba) (natAbs_U bb) w
  rw [mul_same h] at x
  exact x
theorem rsame (a b : Int) (ba : in64 a) (bb : in64 b) (h : decide (a < 0) = decide (b < 0)) (w : World) : Calls Try.prog 27 #[.int .u64 a.natAbs, .int .u64 b.natAbs] w fun e w' => e = .returned (.agg #[.int .u64 (zh (a * b)), .int .u64 (zl (a * b))]) ∧ Below w.heap.size w w' := by
  have x := rMul_any a.natAbs b.natAbs (natAbs_U ba) (natAbs_U bb) w
  rw [mul_same h] at x
  exact x
set_option maxHeartbeats 1600000 in
theorem zcMul_same (a b : Int) (ba : in64 a) (bb : in64 b) (h : decide (a < 0) = decide (b < 0)) (w : World) : Calls Try.prog 41 #[.int .i64 a, .int .i64 b] w fun e w' => e = .returned (.tuple #[.int .i64 (iV (a * b)), .int .i64 (iE (a * b))]) ∧ Below w.heap.size w w' := by
  have H1 := Lib.hid (zAmt_any a ba)
  have H2 := Lib.hid (zAmt_any b bb)
  have H3 := Lib.hid (zsame a b ba bb h)
  have H4 := Lib.hid (zInt_any (a * b) (abs_mul_U ba bb))
  clear ba bb
  generalize a.natAbs = m at *
  generalize b.natAbs = n at *
  generalize a * b = s at *
  have e : (decide (a < 0) == decide (b < 0)) = true := by rw [h]; cases decide (b < 0) <;> rfl
  clear h
  go_enter Try.func41, Try.ntmps41
  go_wp2_with fail
  
  refine (H1.out _).mono ?_
  rintro e V1 ⟨rfl, hb1⟩
  have B1 : Hid (Below w.heap.size w V1) := by first | exact Lib.hid ((Below.refl w.heap.size w).trans (hb1.mono (by first | assumption | (simp <;> omega) | (simp; done)))) | exact Lib.hid (((Below.refl w.heap.size w).alloc (Nat.le_refl _) _).trans (hb1.mono (by first | assumption | (simp <;> omega) | (simp; done)))) | exact Lib.hid ((((Below.refl w.heap.size w).alloc (Nat.le_refl _) _).alloc (by simp <;> omega) _).trans (hb1.mono (by first | assumption | (simp <;> omega) | (simp; done)))) | exact Lib.hid (((((Below.refl w.heap.size w).alloc (Nat.le_refl _) _).alloc (by simp <;> omega) _).alloc (by simp <;> omega) _).trans (hb1.mono (by first | assumption | (simp <;> omega) | (simp; done))))
  clear hb1
  go_simp
  go_wp2_with fail
  refine (H2.out _).mono ?_
  rintro e V2 ⟨rfl, hb2⟩
  have B2 : Hid (Below w.heap.size w V2) := by first | exact Lib.hid ((B1.out).trans (hb2.mono (by have := B1.out.size; first | assumption | (simp <;> omega) | (simp; done)))) | exact Lib.hid (((B1.out).alloc (B1.out.size) _).trans (hb2.mono (by have := B1.out.size; first | assumption | (simp <;> omega) | (simp; done)))) | exact Lib.hid ((((B1.out).alloc (B1.out.size) _).alloc (by have := B1.out.size; simp <;> omega) _).trans (hb2.mono (by have := B1.out.size; first | assumption | (simp <;> omega) | (simp; done)))) | exact Lib.hid (((((B1.out).alloc (B1.out.size) _).alloc (by have := B1.out.size; simp <;> omega) _).alloc (by have := B1.out.size; simp <;> omega) _).trans (hb2.mono (by have := B1.out.size; first | assumption | (simp <;> omega) | (simp; done))))
  clear hb2
  go_simp
  go_wp2_with fail
  refine (H3.out _).mono ?_
  rintro e V3 ⟨rfl, hb3⟩
  have B3 : Hid (Below w.heap.size w V3) := by first | exact Lib.hid ((B2.out).trans (hb3.mono (by have := B2.out.size; first | assumption | (simp <;> omega) | (simp; done)))) | exact Lib.hid (((B2.out).alloc (B2.out.size) _).trans (hb3.mono (by have := B2.out.size; first | assumption | (simp <;> omega) | (simp; done)))) | exact Lib.hid ((((B2.out).alloc (B2.out.size) _).alloc (by have := B2.out.size; simp <;> omega) _).trans (hb3.mono (by have := B2.out.size; first | assumption | (simp <;> omega) | (simp; done)))) | exact Lib.hid (((((B2.out).alloc (B2.out.size) _).alloc (by have := B2.out.size; simp <;> omega) _).alloc (by have := B2.out.size; simp <;> omega) _).trans (hb3.mono (by have := B2.out.size; first | assumption | (simp <;> omega) | (simp; done))))
  clear hb3
  go_simp
  go_wp2_with fail
  refine (H4.out _).mono ?_
  rintro e V4 ⟨rfl, hb4⟩
  have B4 : Hid (Below w.heap.size w V4) := by first | exact Lib.hid ((B3.out).trans (hb4.mono (by have := B3.out.size; first | assumption | (simp <;> omega) | (simp; done)))) | exact Lib.hid (((B3.out).alloc (B3.out.size) _).trans (hb4.mono (by have := B3.out.size; first | assumption | (simp <;> omega) | (simp; done)))) | exact Lib.hid ((((B3.out).alloc (B3.out.size) _).alloc (by have := B3.out.size; simp <;> omega) _).trans (hb4.mono (by have := B3.out.size; first | assumption | (simp <;> omega) | (simp; done)))) | exact Lib.hid (((((B3.out).alloc (B3.out.size) _).alloc (by have := B3.out.size; simp <;> omega) _).alloc (by have := B3.out.size; simp <;> omega) _).trans (hb4.mono (by have := B3.out.size; first | assumption | (simp <;> omega) | (simp; done))))
  clear hb4
  go_simp
  go_wp2
  go_ret2
  exact ⟨rfl, by first | exact B4.out | exact B4.out.alloc B4.out.size _⟩
set_option maxHeartbeats 1600000 in
theorem zcMul_diff (a b : Int) (ba : in64 a) (bb : in64 b) (h : decide (a < 0) = !decide (b < 0)) (w : World) : Calls Try.prog 41 #[.int .i64 a, .int .i64 b] w fun e w' => e = .returned (.tuple #[.int .i64 (iV (a * b)), .int .i64 (iE (a * b))]) ∧ Below w.heap.size w w' := by
  have H1 := Lib.hid (zAmt_any a ba)
  have H2 := Lib.hid (zAmt_any b bb)
  have H3 := Lib.hid (zMul_any a.natAbs b.natAbs (natAbs_U ba) (natAbs_U bb))
  have X5 := zNeg_any ((a.natAbs * b.natAbs : Nat) : Int)
  rw [mul_diff h] at X5
  have H5 := Lib.hid X5
  have H4 := Lib.hid (zInt_any (a * b) (abs_mul_U ba bb))
  clear ba bb X5
  generalize ((a.natAbs * b.natAbs : Nat) : Int) = t at *
  generalize a.natAbs = m at *
  generalize b.natAbs = n at *
  generalize a * b = s at *
  have e : (decide (a < 0) == decide (b < 0)) = false := by rw [h]; cases decide (b < 0) <;> rfl
  clear h
  go_enter Try.func41, Try.ntmps41
  go_wp2_with fail
  
  refine (H1.out _).mono ?_
  rintro e V1 ⟨rfl, hb1⟩
  have B1 : Hid (Below w.heap.size w V1) := by first | exact Lib.hid ((Below.refl w.heap.size w).trans (hb1.mono (by first | assumption | (simp <;> omega) | (simp; done)))) | exact Lib.hid (((Below.refl w.heap.size w).alloc (Nat.le_refl _) _).trans (hb1.mono (by first | assumption | (simp <;> omega) | (simp; done)))) | exact Lib.hid ((((Below.refl w.heap.size w).alloc (Nat.le_refl _) _).alloc (by simp <;> omega) _).trans (hb1.mono (by first | assumption | (simp <;> omega) | (simp; done)))) | exact Lib.hid (((((Below.refl w.heap.size w).alloc (Nat.le_refl _) _).alloc (by simp <;> omega) _).alloc (by simp <;> omega) _).trans (hb1.mono (by first | assumption | (simp <;> omega) | (simp; done))))
  clear hb1
  go_simp
  go_wp2_with fail
  refine (H2.out _).mono ?_
  rintro e V2 ⟨rfl, hb2⟩
  have B2 : Hid (Below w.heap.size w V2) := by first | exact Lib.hid ((B1.out).trans (hb2.mono (by have := B1.out.size; first | assumption | (simp <;> omega) | (simp; done)))) | exact Lib.hid (((B1.out).alloc (B1.out.size) _).trans (hb2.mono (by have := B1.out.size; first | assumption | (simp <;> omega) | (simp; done)))) | exact Lib.hid ((((B1.out).alloc (B1.out.size) _).alloc (by have := B1.out.size; simp <;> omega) _).trans (hb2.mono (by have := B1.out.size; first | assumption | (simp <;> omega) | (simp; done)))) | exact Lib.hid (((((B1.out).alloc (B1.out.size) _).alloc (by have := B1.out.size; simp <;> omega) _).alloc (by have := B1.out.size; simp <;> omega) _).trans (hb2.mono (by have := B1.out.size; first | assumption | (simp <;> omega) | (simp; done))))
  clear hb2
  go_simp
  go_wp2_with fail
  refine (H3.out _).mono ?_
  rintro e V3 ⟨rfl, hb3⟩
  have B3 : Hid (Below w.heap.size w V3) := by first | exact Lib.hid ((B2.out).trans (hb3.mono (by have := B2.out.size; first | assumption | (simp <;> omega) | (simp; done)))) | exact Lib.hid (((B2.out).alloc (B2.out.size) _).trans (hb3.mono (by have := B2.out.size; first | assumption | (simp <;> omega) | (simp; done)))) | exact Lib.hid ((((B2.out).alloc (B2.out.size) _).alloc (by have := B2.out.size; simp <;> omega) _).trans (hb3.mono (by have := B2.out.size; first | assumption | (simp <;> omega) | (simp; done)))) | exact Lib.hid (((((B2.out).alloc (B2.out.size) _).alloc (by have := B2.out.size; simp <;> omega) _).alloc (by have := B2.out.size; simp <;> omega) _).trans (hb3.mono (by have := B2.out.size; first | assumption | (simp <;> omega) | (simp; done))))
  clear hb3
  go_simp
  go_wp2_with fail
  refine (H5.out _).mono ?_
  rintro e V4 ⟨rfl, hb4⟩
  have B4 := Lib.hid (((B3.out).alloc (B3.out.size) _).trans (hb4.mono (by have := B3.out.size; first | assumption | (simp <;> omega) | (simp; done))))
  have P1 := Lib.hid (row_call hb4 (heap_alloc_new _ _))
  clear hb4
  have P1_0 : V4.cell? ⟨V3.heap.size, 0, none⟩ = some (.int .u64 (zh t)) := cell_of_row _ _ _ _ _ _ P1.out
  have P1_1 : V4.cell? ⟨V3.heap.size, 1, none⟩ = some (.int .u64 (zl t)) := cell_of_row _ _ _ _ _ _ P1.out
  have P1_f0 : V4.frozen? ⟨V3.heap.size, 0, none⟩ = false := by simp [World.frozen?, P1.out]
  have P1_f1 : V4.frozen? ⟨V3.heap.size, 1, none⟩ = false := by simp [World.frozen?, P1.out]
  have zP1 := lt_of_heap P1.out
  go_simp
  go_wp2_with fail
  refine (H4.out _).mono ?_
  rintro e V5 ⟨rfl, hb5⟩
  have B5 := Lib.hid ((keep2 B4.out B3.out.size _ _).trans (hb5.mono (by have := B4.out.size; simp; omega)))
  clear hb5
  go_simp
  go_wp2
  go_ret2
  exact ⟨rfl, B5.out⟩
theorem zcMul_any (a b : Int) (ba : in64 a) (bb : in64 b) (w : World) : Calls Try.prog 41 #[.int .i64 a, .int .i64 b] w fun e w' => e = .returned (.tuple #[.int .i64 (iV (a * b)), .int .i64 (iE (a * b))]) ∧ Below w.heap.size w w' := by
  by_cases h : decide (a < 0) = decide (b < 0)
  · exact zcMul_same a b ba bb h w
  · exact zcMul_diff a b ba bb (by revert h; cases decide (a < 0) <;> cases decide (b < 0) <;> simp) w
set_option maxHeartbeats 1600000 in
theorem rTimes_same (a b : Int) (ba : in64 a) (bb : in64 b) (h : decide (a < 0) = decide (b < 0)) (w : World) : Calls Try.prog 68 #[.int .i64 a, .int .i64 b] w fun e w' => e = .returned (.agg #[.int .u64 (zh (a * b)), .int .u64 (zl (a * b))]) ∧ Below w.heap.size w w' := by
  have H1 := Lib.hid (rAmt_any a ba)
  have H2 := Lib.hid (rAmt_any b bb)
  have H3 := Lib.hid (rsame a b ba bb h)
  clear ba bb
  generalize a.natAbs = m at *
  generalize b.natAbs = n at *
  generalize a * b = s at *
  have e : (decide (a < 0) == decide (b < 0)) = true := by rw [h]; cases decide (b < 0) <;> rfl
  clear h
  go_enter Try.func68, Try.ntmps68
  go_wp2_with fail
  
  refine (H1.out _).mono ?_
  rintro e V1 ⟨rfl, hb1⟩
  have B1 := Lib.hid (((Below.refl w.heap.size w).alloc (Nat.le_refl _) _).trans (hb1.mono (by first | assumption | (simp <;> omega) | (simp; done))))
  have Z1 := Lib.hid (row_call hb1 (heap_alloc_new _ _))
  clear hb1
  have Z1_0 : V1.cell? ⟨w.heap.size, 0, none⟩ = some (.int .u64 0) := cell_of_row _ _ _ _ _ _ Z1.out
  have Z1_1 : V1.cell? ⟨w.heap.size, 1, none⟩ = some (.int .u64 0) := cell_of_row _ _ _ _ _ _ Z1.out
  have Z1_f0 : V1.frozen? ⟨w.heap.size, 0, none⟩ = false := by simp [World.frozen?, Z1.out]
  have Z1_f1 : V1.frozen? ⟨w.heap.size, 1, none⟩ = false := by simp [World.frozen?, Z1.out]
  have zZ1 := lt_of_heap Z1.out
  go_simp
  go_wp2_with fail
  refine (H2.out _).mono ?_
  rintro e V2 ⟨rfl, hb2⟩
  clear Z1_0 Z1_1 Z1_f0 Z1_f1 zZ1
  have B2 : Hid (Below w.heap.size w V2) := by first | exact Lib.hid ((B1.out).trans (hb2.mono (by have := B1.out.size; first | assumption | (simp <;> omega) | (simp; done)))) | exact Lib.hid (((B1.out).alloc (B1.out.size) _).trans (hb2.mono (by have := B1.out.size; first | assumption | (simp <;> omega) | (simp; done)))) | exact Lib.hid ((((B1.out).alloc (B1.out.size) _).alloc (by have := B1.out.size; simp <;> omega) _).trans (hb2.mono (by have := B1.out.size; first | assumption | (simp <;> omega) | (simp; done)))) | exact Lib.hid (((((B1.out).alloc (B1.out.size) _).alloc (by have := B1.out.size; simp <;> omega) _).alloc (by have := B1.out.size; simp <;> omega) _).trans (hb2.mono (by have := B1.out.size; first | assumption | (simp <;> omega) | (simp; done))))
  first | replace Z1 := Lib.hid (row_call hb2 Z1.out) | replace Z1 := Lib.hid (row_call hb2 (row_alloc Z1.out _)) | replace Z1 := Lib.hid (row_call hb2 (row_alloc (row_alloc Z1.out _) _)) | replace Z1 := Lib.hid (row_call hb2 (row_alloc (row_alloc (row_alloc Z1.out _) _) _))
  clear hb2
  have Z1_0 : V2.cell? ⟨w.heap.size, 0, none⟩ = some (.int .u64 0) := cell_of_row _ _ _ _ _ _ Z1.out
  have Z1_1 : V2.cell? ⟨w.heap.size, 1, none⟩ = some (.int .u64 0) := cell_of_row _ _ _ _ _ _ Z1.out
  have Z1_f0 : V2.frozen? ⟨w.heap.size, 0, none⟩ = false := by simp [World.frozen?, Z1.out]
  have Z1_f1 : V2.frozen? ⟨w.heap.size, 1, none⟩ = false := by simp [World.frozen?, Z1.out]
  have zZ1 := lt_of_heap Z1.out
  go_simp
  go_wp2_with fail
  refine (H3.out _).mono ?_
  rintro e V3 ⟨rfl, hb3⟩
  clear Z1_0 Z1_1 Z1_f0 Z1_f1 zZ1
  have B3 : Hid (Below w.heap.size w V3) := by first | exact Lib.hid ((B2.out).trans (hb3.mono (by have := B2.out.size; first | assumption | (simp <;> omega) | (simp; done)))) | exact Lib.hid (((B2.out).alloc (B2.out.size) _).trans (hb3.mono (by have := B2.out.size; first | assumption | (simp <;> omega) | (simp; done)))) | exact Lib.hid ((((B2.out).alloc (B2.out.size) _).alloc (by have := B2.out.size; simp <;> omega) _).trans (hb3.mono (by have := B2.out.size; first | assumption | (simp <;> omega) | (simp; done)))) | exact Lib.hid (((((B2.out).alloc (B2.out.size) _).alloc (by have := B2.out.size; simp <;> omega) _).alloc (by have := B2.out.size; simp <;> omega) _).trans (hb3.mono (by have := B2.out.size; first | assumption | (simp <;> omega) | (simp; done))))
  first | replace Z1 := Lib.hid (row_call hb3 Z1.out) | replace Z1 := Lib.hid (row_call hb3 (row_alloc Z1.out _)) | replace Z1 := Lib.hid (row_call hb3 (row_alloc (row_alloc Z1.out _) _)) | replace Z1 := Lib.hid (row_call hb3 (row_alloc (row_alloc (row_alloc Z1.out _) _) _))
  clear hb3
  have Z1_0 : V3.cell? ⟨w.heap.size, 0, none⟩ = some (.int .u64 0) := cell_of_row _ _ _ _ _ _ Z1.out
  have Z1_1 : V3.cell? ⟨w.heap.size, 1, none⟩ = some (.int .u64 0) := cell_of_row _ _ _ _ _ _ Z1.out
  have Z1_f0 : V3.frozen? ⟨w.heap.size, 0, none⟩ = false := by simp [World.frozen?, Z1.out]
  have Z1_f1 : V3.frozen? ⟨w.heap.size, 1, none⟩ = false := by simp [World.frozen?, Z1.out]
  have zZ1 := lt_of_heap Z1.out
  go_simp
  go_wp2
  refine bodyPost_ret (v := .agg #[.int .u64 (zh s), .int .u64 (zl s)]) (by simp [results, Try.results68, go_sem, zZ1, Z1_0, Z1_1]) rfl ⟨rfl, ?_⟩
  exact (keep2 B3.out (Nat.le_refl _) _ _).alloc (by have := B3.out.size; simp; omega) _
set_option maxHeartbeats 1600000 in
theorem rTimes_diff (a b : Int) (ba : in64 a) (bb : in64 b) (h : decide (a < 0) = !decide (b < 0)) (w : World) : Calls Try.prog 68 #[.int .i64 a, .int .i64 b] w fun e w' => e = .returned (.agg #[.int .u64 (zh (a * b)), .int .u64 (zl (a * b))]) ∧ Below w.heap.size w w' := by
  have H1 := Lib.hid (rAmt_any a ba)
  have H2 := Lib.hid (rAmt_any b bb)
  have H3 := Lib.hid (rMul_any a.natAbs b.natAbs (natAbs_U ba) (natAbs_U bb))
  have X5 := rNeg_any ((a.natAbs * b.natAbs : Nat) : Int)
  rw [mul_diff h] at X5
  have H5 := Lib.hid X5
  clear ba bb X5
  generalize ((a.natAbs * b.natAbs : Nat) : Int) = t at *
  generalize a.natAbs = m at *
  generalize b.natAbs = n at *
  generalize a * b = s at *
  have e : (decide (a < 0) == decide (b < 0)) = false := by rw [h]; cases decide (b < 0) <;> rfl
  clear h
  go_enter Try.func68, Try.ntmps68
  go_wp2_with fail
  
  refine (H1.out _).mono ?_
  rintro e V1 ⟨rfl, hb1⟩
  have B1 := Lib.hid (((Below.refl w.heap.size w).alloc (Nat.le_refl _) _).trans (hb1.mono (by first | assumption | (simp <;> omega) | (simp; done))))
  have Z1 := Lib.hid (row_call hb1 (heap_alloc_new _ _))
  clear hb1
  have Z1_0 : V1.cell? ⟨w.heap.size, 0, none⟩ = some (.int .u64 0) := cell_of_row _ _ _ _ _ _ Z1.out
  have Z1_1 : V1.cell? ⟨w.heap.size, 1, none⟩ = some (.int .u64 0) := cell_of_row _ _ _ _ _ _ Z1.out
  have Z1_f0 : V1.frozen? ⟨w.heap.size, 0, none⟩ = false := by simp [World.frozen?, Z1.out]
  have Z1_f1 : V1.frozen? ⟨w.heap.size, 1, none⟩ = false := by simp [World.frozen?, Z1.out]
  have zZ1 := lt_of_heap Z1.out
  go_simp
  go_wp2_with fail
  refine (H2.out _).mono ?_
  rintro e V2 ⟨rfl, hb2⟩
  clear Z1_0 Z1_1 Z1_f0 Z1_f1 zZ1
  have B2 : Hid (Below w.heap.size w V2) := by first | exact Lib.hid ((B1.out).trans (hb2.mono (by have := B1.out.size; first | assumption | (simp <;> omega) | (simp; done)))) | exact Lib.hid (((B1.out).alloc (B1.out.size) _).trans (hb2.mono (by have := B1.out.size; first | assumption | (simp <;> omega) | (simp; done)))) | exact Lib.hid ((((B1.out).alloc (B1.out.size) _).alloc (by have := B1.out.size; simp <;> omega) _).trans (hb2.mono (by have := B1.out.size; first | assumption | (simp <;> omega) | (simp; done)))) | exact Lib.hid (((((B1.out).alloc (B1.out.size) _).alloc (by have := B1.out.size; simp <;> omega) _).alloc (by have := B1.out.size; simp <;> omega) _).trans (hb2.mono (by have := B1.out.size; first | assumption | (simp <;> omega) | (simp; done))))
  first | replace Z1 := Lib.hid (row_call hb2 Z1.out) | replace Z1 := Lib.hid (row_call hb2 (row_alloc Z1.out _)) | replace Z1 := Lib.hid (row_call hb2 (row_alloc (row_alloc Z1.out _) _)) | replace Z1 := Lib.hid (row_call hb2 (row_alloc (row_alloc (row_alloc Z1.out _) _) _))
  clear hb2
  have Z1_0 : V2.cell? ⟨w.heap.size, 0, none⟩ = some (.int .u64 0) := cell_of_row _ _ _ _ _ _ Z1.out
  have Z1_1 : V2.cell? ⟨w.heap.size, 1, none⟩ = some (.int .u64 0) := cell_of_row _ _ _ _ _ _ Z1.out
  have Z1_f0 : V2.frozen? ⟨w.heap.size, 0, none⟩ = false := by simp [World.frozen?, Z1.out]
  have Z1_f1 : V2.frozen? ⟨w.heap.size, 1, none⟩ = false := by simp [World.frozen?, Z1.out]
  have zZ1 := lt_of_heap Z1.out
  go_simp
  go_wp2_with fail
  refine (H3.out _).mono ?_
  rintro e V3 ⟨rfl, hb3⟩
  clear Z1_0 Z1_1 Z1_f0 Z1_f1 zZ1
  have B3 : Hid (Below w.heap.size w V3) := by first | exact Lib.hid ((B2.out).trans (hb3.mono (by have := B2.out.size; first | assumption | (simp <;> omega) | (simp; done)))) | exact Lib.hid (((B2.out).alloc (B2.out.size) _).trans (hb3.mono (by have := B2.out.size; first | assumption | (simp <;> omega) | (simp; done)))) | exact Lib.hid ((((B2.out).alloc (B2.out.size) _).alloc (by have := B2.out.size; simp <;> omega) _).trans (hb3.mono (by have := B2.out.size; first | assumption | (simp <;> omega) | (simp; done)))) | exact Lib.hid (((((B2.out).alloc (B2.out.size) _).alloc (by have := B2.out.size; simp <;> omega) _).alloc (by have := B2.out.size; simp <;> omega) _).trans (hb3.mono (by have := B2.out.size; first | assumption | (simp <;> omega) | (simp; done))))
  first | replace Z1 := Lib.hid (row_call hb3 Z1.out) | replace Z1 := Lib.hid (row_call hb3 (row_alloc Z1.out _)) | replace Z1 := Lib.hid (row_call hb3 (row_alloc (row_alloc Z1.out _) _)) | replace Z1 := Lib.hid (row_call hb3 (row_alloc (row_alloc (row_alloc Z1.out _) _) _))
  clear hb3
  have Z1_0 : V3.cell? ⟨w.heap.size, 0, none⟩ = some (.int .u64 0) := cell_of_row _ _ _ _ _ _ Z1.out
  have Z1_1 : V3.cell? ⟨w.heap.size, 1, none⟩ = some (.int .u64 0) := cell_of_row _ _ _ _ _ _ Z1.out
  have Z1_f0 : V3.frozen? ⟨w.heap.size, 0, none⟩ = false := by simp [World.frozen?, Z1.out]
  have Z1_f1 : V3.frozen? ⟨w.heap.size, 1, none⟩ = false := by simp [World.frozen?, Z1.out]
  have zZ1 := lt_of_heap Z1.out
  go_simp
  go_wp2_with fail
  refine (H5.out _).mono ?_
  rintro e V4 ⟨rfl, hb4⟩
  clear Z1_0 Z1_1 Z1_f0 Z1_f1 zZ1
  have nZ1P1 := Lib.hid (lt_of_heap Z1.out)
  have nlZ1P1 : ¬ (w.heap.size = V3.heap.size) := Nat.ne_of_lt (lt_of_heap Z1.out)
  have nrZ1P1 : ¬ (V3.heap.size = w.heap.size) := Ne.symm (Nat.ne_of_lt (lt_of_heap Z1.out))
  have B4 := Lib.hid (((B3.out).alloc (B3.out.size) _).trans (hb4.mono (by have := B3.out.size; first | assumption | (simp <;> omega) | (simp; done))))
  replace Z1 := Lib.hid (row_call hb4 (row_alloc Z1.out _))
  have P1 := Lib.hid (row_call hb4 (heap_alloc_new _ _))
  clear hb4
  have Z1_0 : V4.cell? ⟨w.heap.size, 0, none⟩ = some (.int .u64 0) := cell_of_row _ _ _ _ _ _ Z1.out
  have Z1_1 : V4.cell? ⟨w.heap.size, 1, none⟩ = some (.int .u64 0) := cell_of_row _ _ _ _ _ _ Z1.out
  have Z1_f0 : V4.frozen? ⟨w.heap.size, 0, none⟩ = false := by simp [World.frozen?, Z1.out]
  have Z1_f1 : V4.frozen? ⟨w.heap.size, 1, none⟩ = false := by simp [World.frozen?, Z1.out]
  have P1_0 : V4.cell? ⟨V3.heap.size, 0, none⟩ = some (.int .u64 (zh t)) := cell_of_row _ _ _ _ _ _ P1.out
  have P1_1 : V4.cell? ⟨V3.heap.size, 1, none⟩ = some (.int .u64 (zl t)) := cell_of_row _ _ _ _ _ _ P1.out
  have P1_f0 : V4.frozen? ⟨V3.heap.size, 0, none⟩ = false := by simp [World.frozen?, P1.out]
  have P1_f1 : V4.frozen? ⟨V3.heap.size, 1, none⟩ = false := by simp [World.frozen?, P1.out]
  have zZ1 := lt_of_heap Z1.out
  have zP1 := lt_of_heap P1.out
  go_simp
  go_wp2
  refine bodyPost_ret (v := .agg #[.int .u64 (zh s), .int .u64 (zl s)]) (by simp [results, Try.results68, go_sem, zZ1, Z1_0, Z1_1]) rfl ⟨rfl, ?_⟩
  exact keep2 B4.out (Nat.le_refl _) _ _
theorem rTimes_any (a b : Int) (ba : in64 a) (bb : in64 b) (w : World) : Calls Try.prog 68 #[.int .i64 a, .int .i64 b] w fun e w' => e = .returned (.agg #[.int .u64 (zh (a * b)), .int .u64 (zl (a * b))]) ∧ Below w.heap.size w w' := by
  by_cases h : decide (a < 0) = decide (b < 0)
  · exact rTimes_same a b ba bb h w
  · exact rTimes_diff a b ba bb (by revert h; cases decide (a < 0) <;> cases decide (b < 0) <;> simp) w
theorem rcMul_any (a b : Int) (ba : in64 a) (bb : in64 b) (w : World) : Calls Try.prog 42 #[.int .i64 a, .int .i64 b] w fun e w' => e = .returned (.tuple #[.int .i64 (iV (a * b)), .int .i64 (iE (a * b))]) ∧ Below w.heap.size w w' := by
  have H1 := Lib.hid (rTimes_any a b ba bb)
  have H2 := Lib.hid (rInt_any (a * b) (abs_mul_U ba bb))
  clear ba bb
  generalize a * b = s at *
  go_enter Try.func42, Try.ntmps42
  go_wp2_with fail
  
  refine (H1.out _).mono ?_
  rintro e V1 ⟨rfl, hb1⟩
  have B1 : Hid (Below w.heap.size w V1) := by first | exact Lib.hid ((Below.refl w.heap.size w).trans (hb1.mono (by first | assumption | (simp <;> omega) | (simp; done)))) | exact Lib.hid (((Below.refl w.heap.size w).alloc (Nat.le_refl _) _).trans (hb1.mono (by first | assumption | (simp <;> omega) | (simp; done)))) | exact Lib.hid ((((Below.refl w.heap.size w).alloc (Nat.le_refl _) _).alloc (by simp <;> omega) _).trans (hb1.mono (by first | assumption | (simp <;> omega) | (simp; done)))) | exact Lib.hid (((((Below.refl w.heap.size w).alloc (Nat.le_refl _) _).alloc (by simp <;> omega) _).alloc (by simp <;> omega) _).trans (hb1.mono (by first | assumption | (simp <;> omega) | (simp; done))))
  clear hb1
  go_simp
  go_wp2_with fail
  refine (H2.out _).mono ?_
  rintro e V2 ⟨rfl, hb2⟩
  have B2 : Hid (Below w.heap.size w V2) := by first | exact Lib.hid ((B1.out).trans (hb2.mono (by have := B1.out.size; first | assumption | (simp <;> omega) | (simp; done)))) | exact Lib.hid (((B1.out).alloc (B1.out.size) _).trans (hb2.mono (by have := B1.out.size; first | assumption | (simp <;> omega) | (simp; done)))) | exact Lib.hid ((((B1.out).alloc (B1.out.size) _).alloc (by have := B1.out.size; simp <;> omega) _).trans (hb2.mono (by have := B1.out.size; first | assumption | (simp <;> omega) | (simp; done)))) | exact Lib.hid (((((B1.out).alloc (B1.out.size) _).alloc (by have := B1.out.size; simp <;> omega) _).alloc (by have := B1.out.size; simp <;> omega) _).trans (hb2.mono (by have := B1.out.size; first | assumption | (simp <;> omega) | (simp; done))))
  clear hb2
  go_simp
  go_wp2
  go_ret2
  exact ⟨rfl, by first | exact B2.out | exact B2.out.alloc B2.out.size _⟩
end Go.Proofs.Ytkmhebfahfaokaa
