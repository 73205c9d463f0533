/- The walk of the law WideBack. -/
import Derived.Test.YtkmhebfahfaokaaLawMuls
namespace Go.Proofs.Ytkmhebfahfaokaa
set_option linter.unusedVariables false
open Go.ChangeShapes Go.WideShapes Go.ChangeAt Go.RowKit

theorem row_at {w : World} {k k' : Nat} {o : Option Obj} (e : k = k') (h : w.heap[k]? = o) : w.heap[k']? = o := e ▸ h
theorem row_by {w w' : World} {k : Nat} {o : Option Obj} (e : w' = w) (h : w.heap[k]? = o) : w'.heap[k]? = o := e ▸ h
theorem below_by {n : Nat} {w v v' : World} (e : v' = v) (h : Below n w v) : Below n w v' := e ▸ h
theorem big_no {n : Nat} (h : n < 340282366920938463463374607431768211456) : big n = false := by unfold big; exact decide_eq_false (by omega)
theorem back_math (h l b : Nat) (u : U h) (v : U l) (ub : U b) (h0 : 0 < b) : ∃ q1 q2 r m1 m2 k x1 x2 : Nat, U q1 ∧ U q2 ∧ U r ∧ U m1 ∧ U m2 ∧ U k ∧ U x1 ∧ U x2 ∧ r < b ∧
    hi (num h l / b) = q1 ∧ lo (num h l / b) = q2 ∧ num h l % b = r ∧ hi (q2 * b) = m1 ∧ lo (q2 * b) = m2 ∧ hi (q1 * b) = 0 ∧ lo (q1 * b) = k ∧
    hi (num m1 m2 + num k 0) = x1 ∧ lo (num m1 m2 + num k 0) = x2 ∧ big (num m1 m2 + num k 0) = false ∧ hi (num x1 x2 + num 0 r) = h ∧ lo (num x1 x2 + num 0 r) = l ∧ big (num x1 x2 + num 0 r) = false := by
  have hN := num_lt u v
  have hdm := Nat.div_add_mod (num h l) b
  have hr := Nat.mod_lt (num h l) h0
  have hq : num h l / b ≤ num h l := Nat.div_le_self _ _
  have hqn : num (hi (num h l / b)) (lo (num h l / b)) = num h l / b := num_hl_of (by omega)
  have hb2 : b < 18446744073709551616 := ub
  generalize num h l / b = Q at *
  have hq1 : num (hi Q) (lo Q) = hi Q * 18446744073709551616 + lo Q := by unfold num; rfl
  have hmul : b * Q = hi Q * b * 18446744073709551616 + lo Q * b := by
    have e : b * Q = b * (hi Q * 18446744073709551616 + lo Q) := by rw [← hq1, hqn]
    rw [e, Nat.mul_add, Nat.mul_comm b (lo _), Nat.mul_comm b, Nat.mul_right_comm]
  have hl1 : lo Q * b < 340282366920938463463374607431768211456 := by
    have h1 : lo Q * b ≤ 18446744073709551615 * b := Nat.mul_le_mul_right _ (by have := (lo_U Q).lt; omega)
    have h2 : 18446744073709551615 * b ≤ 18446744073709551615 * 18446744073709551615 := Nat.mul_le_mul_left _ (by omega)
    omega
  have hh1 : hi Q * b < 18446744073709551616 := by omega
  have e3 : hi (hi Q * b) = 0 := by
    generalize hi Q * b = t at *
    unfold hi; omega
  have e4 : lo (hi Q * b) = hi Q * b := by
    generalize hi Q * b = t at *
    unfold lo; omega
  have em : num (hi (lo Q * b)) (lo (lo Q * b)) = lo Q * b := num_hl_of hl1
  have ek : num (lo (hi Q * b)) 0 = hi Q * b * 18446744073709551616 := by rw [e4]; unfold num; omega
  have es : num (hi (lo Q * b)) (lo (lo Q * b)) + num (lo (hi Q * b)) 0 = b * Q := by rw [em, ek, hmul, Nat.add_comm]
  have ex : num (hi (b * Q)) (lo (b * Q)) = b * Q := num_hl_of (by omega)
  have ey : num (hi (b * Q)) (lo (b * Q)) + num 0 (num h l % b) = num h l := by rw [ex, num_zero]; exact hdm
  refine ⟨hi Q, lo Q, num h l % b, hi (lo Q * b), lo (lo Q * b), lo (hi Q * b), hi (b * Q), lo (b * Q), hi_U _, lo_U _, ?_, hi_U _, lo_U _, lo_U _, hi_U _, lo_U _, hr, rfl, rfl, rfl, rfl, rfl, e3, rfl, ?_, ?_, ?_, ?_, ?_, ?_⟩
  · unfold U; omega
  · rw [es]
  · rw [es]
  · rw [es]; exact big_no (by omega)
  · rw [ey]; exact hi_num u v
  · rw [ey]; exact lo_num v
  · rw [ey]; exact big_no hN

theorem there_math (h l c d : Nat) (u : U h) (v : U l) (uc : U c) (ud : U d) : hi (num (hi (num h l + num c d)) (lo (num h l + num c d)) + 340282366920938463463374607431768211456 - num c d) = h ∧
    lo (num (hi (num h l + num c d)) (lo (num h l + num c d)) + 340282366920938463463374607431768211456 - num c d) = l := by
  have h1 := num_lt u v
  have h2 := num_lt uc ud
  rw [num_hl]
  have e : ((num h l + num c d) % 340282366920938463463374607431768211456 + 340282366920938463463374607431768211456 - num c d) % 340282366920938463463374607431768211456 = num h l := by omega
  rw [← hi_mod, ← lo_mod, e]
  exact ⟨hi_num u v, lo_num v⟩

set_option maxHeartbeats 800000 in
theorem wideBack_zero (h l c d : Nat) (w : World) :
    Calls Try.prog 7 #[.agg #[.int .u64 h, .int .u64 l], .int .u64 0, .agg #[.int .u64 c, .int .u64 d]] w fun e w' => e = .returned (.bool true) ∧ Below w.heap.size w w' := by
  have H1 := Lib.hid (div_zero h l)
  have H8 := Lib.hid awake_any
  go_enter Try.func7, Try.ntmps7
  go_wp2_with fail
  
  refine (H1.out _).mono ?_
  rintro e V1 ⟨rfl, hb1⟩
  have B1 := Lib.hid ((((Below.refl w.heap.size w).alloc (Nat.le_refl _) _).alloc (by simp <;> omega) _).trans (hb1.mono (by first | assumption | (simp <;> omega) | (simp; done))))
  have R1 := Lib.hid (row_call hb1 (row_alloc (heap_alloc_new _ _) _))
  have S1 := Lib.hid (row_at (k' := w.heap.size + 1) (by simp) (row_call hb1 (heap_alloc_new _ _)))
  clear hb1
  have R1_0 : V1.cell? ⟨w.heap.size, 0, none⟩ = some (.int .u64 h) := cell_of_row _ _ _ _ _ _ R1.out
  have R1_1 : V1.cell? ⟨w.heap.size, 1, none⟩ = some (.int .u64 l) := cell_of_row _ _ _ _ _ _ R1.out
  have S1_0 : V1.cell? ⟨w.heap.size + 1, 0, none⟩ = some (.int .u64 c) := cell_of_row _ _ _ _ _ _ S1.out
  have S1_1 : V1.cell? ⟨w.heap.size + 1, 1, none⟩ = some (.int .u64 d) := cell_of_row _ _ _ _ _ _ S1.out
  have zR1 := lt_of_heap R1.out
  have zS1 := lt_of_heap S1.out
  go_simp
  go_wp2_with fail
  refine (H8.out _).mono ?_
  rintro e V2 ⟨rfl, hb2⟩
  clear R1_0 R1_1 zR1 S1_0 S1_1 zS1
  have B2 : Hid (Below w.heap.size w V2) := by first | exact Lib.hid ((B1.out).trans (hb2.mono (by have := B1.out.size; first | assumption | (simp <;> omega) | (simp; done)))) | exact Lib.hid (((B1.out).alloc (B1.out.size) _).trans (hb2.mono (by have := B1.out.size; first | assumption | (simp <;> omega) | (simp; done)))) | exact Lib.hid ((((B1.out).alloc (B1.out.size) _).alloc (by have := B1.out.size; simp <;> omega) _).trans (hb2.mono (by have := B1.out.size; first | assumption | (simp <;> omega) | (simp; done)))) | exact Lib.hid (((((B1.out).alloc (B1.out.size) _).alloc (by have := B1.out.size; simp <;> omega) _).alloc (by have := B1.out.size; simp <;> omega) _).trans (hb2.mono (by have := B1.out.size; first | assumption | (simp <;> omega) | (simp; done))))
  first | replace R1 := Lib.hid (row_call hb2 R1.out) | replace R1 := Lib.hid (row_call hb2 (row_alloc R1.out _)) | replace R1 := Lib.hid (row_call hb2 (row_alloc (row_alloc R1.out _) _)) | replace R1 := Lib.hid (row_call hb2 (row_alloc (row_alloc (row_alloc R1.out _) _) _))
  first | replace S1 := Lib.hid (row_call hb2 S1.out) | replace S1 := Lib.hid (row_call hb2 (row_alloc S1.out _)) | replace S1 := Lib.hid (row_call hb2 (row_alloc (row_alloc S1.out _) _)) | replace S1 := Lib.hid (row_call hb2 (row_alloc (row_alloc (row_alloc S1.out _) _) _))
  clear hb2
  have R1_0 : V2.cell? ⟨w.heap.size, 0, none⟩ = some (.int .u64 h) := cell_of_row _ _ _ _ _ _ R1.out
  have R1_1 : V2.cell? ⟨w.heap.size, 1, none⟩ = some (.int .u64 l) := cell_of_row _ _ _ _ _ _ R1.out
  have S1_0 : V2.cell? ⟨w.heap.size + 1, 0, none⟩ = some (.int .u64 c) := cell_of_row _ _ _ _ _ _ S1.out
  have S1_1 : V2.cell? ⟨w.heap.size + 1, 1, none⟩ = some (.int .u64 d) := cell_of_row _ _ _ _ _ _ S1.out
  have zR1 := lt_of_heap R1.out
  have zS1 := lt_of_heap S1.out
  go_simp
  go_wp2
  go_ret
  exact ⟨rfl, by first | exact B2.out | exact B2.out.alloc B2.out.size _⟩

set_option maxHeartbeats 1600000 in
theorem wideBack_pos (h l b c d : Nat) (u : U h) (v : U l) (ub : U b) (uc : U c) (ud : U d) (h0 : 0 < b) (w : World) :
    Calls Try.prog 7 #[.agg #[.int .u64 h, .int .u64 l], .int .u64 b, .agg #[.int .u64 c, .int .u64 d]] w fun e w' => e = .returned (.bool true) ∧ Below w.heap.size w w' := by
  have X1 := div_any h l b u v ub h0
  obtain ⟨q1, q2, r, m1, m2, k, x1, x2, U1, U2, U3, U4, U5, U6, U7, U8, hr, e1, e2, e3, e4, e5, e6, e7, e8, e9, e10, e11, e12, e13⟩ := back_math h l b u v ub h0
  have u0 : U 0 := by unfold U; omega
  have X2 := mul_any q2 b U2 ub
  have X3 := mul_any q1 b U1 ub
  have X4 := add_any m1 m2 k 0 U4 U5 U6 u0
  have X5 := add_any x1 x2 0 r U7 U8 u0 U3
  have X6 := add_any h l c d u v uc ud
  have X7 := sub_any (hi (num h l + num c d)) (lo (num h l + num c d)) c d (hi_U _) (lo_U _) uc ud
  obtain ⟨t1, t2⟩ := there_math h l c d u v uc ud
  rw [e1, e2, e3] at X1
  rw [e4, e5] at X2
  rw [e6, e7] at X3
  rw [e8, e9, e10] at X4
  rw [e11, e12, e13] at X5
  rw [t1, t2] at X7
  generalize hi (num h l + num c d) = s1 at *
  generalize lo (num h l + num c d) = s2 at *
  generalize big (num h l + num c d) = o1 at *
  generalize decide (num s1 s2 < num c d) = o2 at *
  have H1 := Lib.hid X1
  have H2 := Lib.hid X2
  have H3 := Lib.hid X3
  have H4 := Lib.hid X4
  have H5 := Lib.hid X5
  have H6 := Lib.hid X6
  have H7 := Lib.hid X7
  have H8 := Lib.hid awake_any
  have hb0 : ¬ ((b : Int) = 0) := by omega
  have hrb : ((r : Int) < (b : Int)) := by omega
  clear X1 X2 X3 X4 X5 X6 X7 e1 e2 e3 e4 e5 e6 e7 e8 e9 e10 e11 e12 e13 t1 t2 U1 U2 U3 U4 U5 U6 U7 U8 u v ub uc ud u0 h0 hr
  go_enter Try.func7, Try.ntmps7
  go_wp2_with fail
  
  refine (H1.out _).mono ?_
  rintro e V1 ⟨rfl, hb1⟩
  have B1 := Lib.hid ((((Below.refl w.heap.size w).alloc (Nat.le_refl _) _).alloc (by simp <;> omega) _).trans (hb1.mono (by first | assumption | (simp <;> omega) | (simp; done))))
  have R1 := Lib.hid (row_call hb1 (row_alloc (heap_alloc_new _ _) _))
  have S1 := Lib.hid (row_at (k' := w.heap.size + 1) (by simp) (row_call hb1 (heap_alloc_new _ _)))
  clear hb1
  have R1_0 : V1.cell? ⟨w.heap.size, 0, none⟩ = some (.int .u64 h) := cell_of_row _ _ _ _ _ _ R1.out
  have R1_1 : V1.cell? ⟨w.heap.size, 1, none⟩ = some (.int .u64 l) := cell_of_row _ _ _ _ _ _ R1.out
  have S1_0 : V1.cell? ⟨w.heap.size + 1, 0, none⟩ = some (.int .u64 c) := cell_of_row _ _ _ _ _ _ S1.out
  have S1_1 : V1.cell? ⟨w.heap.size + 1, 1, none⟩ = some (.int .u64 d) := cell_of_row _ _ _ _ _ _ S1.out
  have zR1 := lt_of_heap R1.out
  have zS1 := lt_of_heap S1.out
  go_simp
  go_wp2_with fail
  refine (H2.out _).mono ?_
  rintro e V2 ⟨rfl, hb2⟩
  clear R1_0 R1_1 zR1 S1_0 S1_1 zS1
  have nR1Q1 := Lib.hid (lt_of_heap R1.out)
  have nS1Q1 := Lib.hid (lt_of_heap S1.out)
  have B2 := Lib.hid (((B1.out).alloc (B1.out.size) _).trans (hb2.mono (by have := B1.out.size; first | assumption | (simp <;> omega) | (simp; done))))
  replace R1 := Lib.hid (row_call hb2 (row_alloc R1.out _))
  replace S1 := Lib.hid (row_call hb2 (row_alloc S1.out _))
  have Q1 := Lib.hid (row_call hb2 (heap_alloc_new _ _))
  clear hb2
  have R1_0 : V2.cell? ⟨w.heap.size, 0, none⟩ = some (.int .u64 h) := cell_of_row _ _ _ _ _ _ R1.out
  have R1_1 : V2.cell? ⟨w.heap.size, 1, none⟩ = some (.int .u64 l) := cell_of_row _ _ _ _ _ _ R1.out
  have S1_0 : V2.cell? ⟨w.heap.size + 1, 0, none⟩ = some (.int .u64 c) := cell_of_row _ _ _ _ _ _ S1.out
  have S1_1 : V2.cell? ⟨w.heap.size + 1, 1, none⟩ = some (.int .u64 d) := cell_of_row _ _ _ _ _ _ S1.out
  have Q1_0 : V2.cell? ⟨V1.heap.size, 0, none⟩ = some (.int .u64 q1) := cell_of_row _ _ _ _ _ _ Q1.out
  have Q1_1 : V2.cell? ⟨V1.heap.size, 1, none⟩ = some (.int .u64 q2) := cell_of_row _ _ _ _ _ _ Q1.out
  have zR1 := lt_of_heap R1.out
  have zS1 := lt_of_heap S1.out
  have zQ1 := lt_of_heap Q1.out
  go_simp
  go_wp2_with fail
  refine (H3.out _).mono ?_
  rintro e V3 ⟨rfl, hb3⟩
  clear R1_0 R1_1 zR1 S1_0 S1_1 zS1 Q1_0 Q1_1 zQ1
  have nR1M1 := Lib.hid (lt_of_heap R1.out)
  have nS1M1 := Lib.hid (lt_of_heap S1.out)
  have nQ1M1 := Lib.hid (lt_of_heap Q1.out)
  have B3 := Lib.hid (((B2.out).alloc (B2.out.size) _).trans (hb3.mono (by have := B2.out.size; first | assumption | (simp <;> omega) | (simp; done))))
  replace R1 := Lib.hid (row_call hb3 (row_alloc R1.out _))
  replace S1 := Lib.hid (row_call hb3 (row_alloc S1.out _))
  replace Q1 := Lib.hid (row_call hb3 (row_alloc Q1.out _))
  have M1 := Lib.hid (row_call hb3 (heap_alloc_new _ _))
  clear hb3
  have R1_0 : V3.cell? ⟨w.heap.size, 0, none⟩ = some (.int .u64 h) := cell_of_row _ _ _ _ _ _ R1.out
  have R1_1 : V3.cell? ⟨w.heap.size, 1, none⟩ = some (.int .u64 l) := cell_of_row _ _ _ _ _ _ R1.out
  have S1_0 : V3.cell? ⟨w.heap.size + 1, 0, none⟩ = some (.int .u64 c) := cell_of_row _ _ _ _ _ _ S1.out
  have S1_1 : V3.cell? ⟨w.heap.size + 1, 1, none⟩ = some (.int .u64 d) := cell_of_row _ _ _ _ _ _ S1.out
  have Q1_0 : V3.cell? ⟨V1.heap.size, 0, none⟩ = some (.int .u64 q1) := cell_of_row _ _ _ _ _ _ Q1.out
  have Q1_1 : V3.cell? ⟨V1.heap.size, 1, none⟩ = some (.int .u64 q2) := cell_of_row _ _ _ _ _ _ Q1.out
  have M1_0 : V3.cell? ⟨V2.heap.size, 0, none⟩ = some (.int .u64 m1) := cell_of_row _ _ _ _ _ _ M1.out
  have M1_1 : V3.cell? ⟨V2.heap.size, 1, none⟩ = some (.int .u64 m2) := cell_of_row _ _ _ _ _ _ M1.out
  have zR1 := lt_of_heap R1.out
  have zS1 := lt_of_heap S1.out
  have zQ1 := lt_of_heap Q1.out
  have zM1 := lt_of_heap M1.out
  go_simp
  go_wp2_with fail
  refine (H4.out _).mono ?_
  rintro e V4 ⟨rfl, hb4⟩
  clear R1_0 R1_1 zR1 S1_0 S1_1 zS1 Q1_0 Q1_1 zQ1 M1_0 M1_1 zM1
  have nR1K1 := Lib.hid (lt_of_heap R1.out)
  have nS1K1 := Lib.hid (lt_of_heap S1.out)
  have nQ1K1 := Lib.hid (lt_of_heap Q1.out)
  have nM1K1 := Lib.hid (lt_of_heap M1.out)
  have B4 := Lib.hid (((B3.out).alloc (B3.out.size) _).trans (hb4.mono (by have := B3.out.size; first | assumption | (simp <;> omega) | (simp; done))))
  replace R1 := Lib.hid (row_call hb4 (row_alloc R1.out _))
  replace S1 := Lib.hid (row_call hb4 (row_alloc S1.out _))
  replace Q1 := Lib.hid (row_call hb4 (row_alloc Q1.out _))
  replace M1 := Lib.hid (row_call hb4 (row_alloc M1.out _))
  have K1 := Lib.hid (row_call hb4 (heap_alloc_new _ _))
  clear hb4
  have R1_0 : V4.cell? ⟨w.heap.size, 0, none⟩ = some (.int .u64 h) := cell_of_row _ _ _ _ _ _ R1.out
  have R1_1 : V4.cell? ⟨w.heap.size, 1, none⟩ = some (.int .u64 l) := cell_of_row _ _ _ _ _ _ R1.out
  have S1_0 : V4.cell? ⟨w.heap.size + 1, 0, none⟩ = some (.int .u64 c) := cell_of_row _ _ _ _ _ _ S1.out
  have S1_1 : V4.cell? ⟨w.heap.size + 1, 1, none⟩ = some (.int .u64 d) := cell_of_row _ _ _ _ _ _ S1.out
  have Q1_0 : V4.cell? ⟨V1.heap.size, 0, none⟩ = some (.int .u64 q1) := cell_of_row _ _ _ _ _ _ Q1.out
  have Q1_1 : V4.cell? ⟨V1.heap.size, 1, none⟩ = some (.int .u64 q2) := cell_of_row _ _ _ _ _ _ Q1.out
  have M1_0 : V4.cell? ⟨V2.heap.size, 0, none⟩ = some (.int .u64 m1) := cell_of_row _ _ _ _ _ _ M1.out
  have M1_1 : V4.cell? ⟨V2.heap.size, 1, none⟩ = some (.int .u64 m2) := cell_of_row _ _ _ _ _ _ M1.out
  have K1_0 : V4.cell? ⟨V3.heap.size, 0, none⟩ = some (.int .u64 0) := cell_of_row _ _ _ _ _ _ K1.out
  have K1_1 : V4.cell? ⟨V3.heap.size, 1, none⟩ = some (.int .u64 k) := cell_of_row _ _ _ _ _ _ K1.out
  have zR1 := lt_of_heap R1.out
  have zS1 := lt_of_heap S1.out
  have zQ1 := lt_of_heap Q1.out
  have zM1 := lt_of_heap M1.out
  have zK1 := lt_of_heap K1.out
  go_simp
  go_wp2_with fail
  refine (H5.out _).mono ?_
  rintro e V5 ⟨rfl, hb5⟩
  clear R1_0 R1_1 zR1 S1_0 S1_1 zS1 Q1_0 Q1_1 zQ1 M1_0 M1_1 zM1 K1_0 K1_1 zK1
  have nR1X1 := Lib.hid (lt_of_heap R1.out)
  have nS1X1 := Lib.hid (lt_of_heap S1.out)
  have nQ1X1 := Lib.hid (lt_of_heap Q1.out)
  have nM1X1 := Lib.hid (lt_of_heap M1.out)
  have nK1X1 := Lib.hid (lt_of_heap K1.out)
  have B5 := Lib.hid (((B4.out).alloc (B4.out.size) _).trans (hb5.mono (by have := B4.out.size; first | assumption | (simp <;> omega) | (simp; done))))
  replace R1 := Lib.hid (row_call hb5 (row_alloc R1.out _))
  replace S1 := Lib.hid (row_call hb5 (row_alloc S1.out _))
  replace Q1 := Lib.hid (row_call hb5 (row_alloc Q1.out _))
  replace M1 := Lib.hid (row_call hb5 (row_alloc M1.out _))
  replace K1 := Lib.hid (row_call hb5 (row_alloc K1.out _))
  have X1 := Lib.hid (row_call hb5 (heap_alloc_new _ _))
  clear hb5
  have R1_0 : V5.cell? ⟨w.heap.size, 0, none⟩ = some (.int .u64 h) := cell_of_row _ _ _ _ _ _ R1.out
  have R1_1 : V5.cell? ⟨w.heap.size, 1, none⟩ = some (.int .u64 l) := cell_of_row _ _ _ _ _ _ R1.out
  have S1_0 : V5.cell? ⟨w.heap.size + 1, 0, none⟩ = some (.int .u64 c) := cell_of_row _ _ _ _ _ _ S1.out
  have S1_1 : V5.cell? ⟨w.heap.size + 1, 1, none⟩ = some (.int .u64 d) := cell_of_row _ _ _ _ _ _ S1.out
  have Q1_0 : V5.cell? ⟨V1.heap.size, 0, none⟩ = some (.int .u64 q1) := cell_of_row _ _ _ _ _ _ Q1.out
  have Q1_1 : V5.cell? ⟨V1.heap.size, 1, none⟩ = some (.int .u64 q2) := cell_of_row _ _ _ _ _ _ Q1.out
  have M1_0 : V5.cell? ⟨V2.heap.size, 0, none⟩ = some (.int .u64 m1) := cell_of_row _ _ _ _ _ _ M1.out
  have M1_1 : V5.cell? ⟨V2.heap.size, 1, none⟩ = some (.int .u64 m2) := cell_of_row _ _ _ _ _ _ M1.out
  have K1_0 : V5.cell? ⟨V3.heap.size, 0, none⟩ = some (.int .u64 0) := cell_of_row _ _ _ _ _ _ K1.out
  have K1_1 : V5.cell? ⟨V3.heap.size, 1, none⟩ = some (.int .u64 k) := cell_of_row _ _ _ _ _ _ K1.out
  have X1_0 : V5.cell? ⟨V4.heap.size, 0, none⟩ = some (.int .u64 x1) := cell_of_row _ _ _ _ _ _ X1.out
  have X1_1 : V5.cell? ⟨V4.heap.size, 1, none⟩ = some (.int .u64 x2) := cell_of_row _ _ _ _ _ _ X1.out
  have zR1 := lt_of_heap R1.out
  have zS1 := lt_of_heap S1.out
  have zQ1 := lt_of_heap Q1.out
  have zM1 := lt_of_heap M1.out
  have zK1 := lt_of_heap K1.out
  have zX1 := lt_of_heap X1.out
  go_simp
  go_wp2_with fail
  refine (H6.out _).mono ?_
  rintro e V6 ⟨rfl, hb6⟩
  clear R1_0 R1_1 zR1 S1_0 S1_1 zS1 Q1_0 Q1_1 zQ1 M1_0 M1_1 zM1 K1_0 K1_1 zK1 X1_0 X1_1 zX1
  have nR1Y1 := Lib.hid (lt_of_heap R1.out)
  have nS1Y1 := Lib.hid (lt_of_heap S1.out)
  have nQ1Y1 := Lib.hid (lt_of_heap Q1.out)
  have nM1Y1 := Lib.hid (lt_of_heap M1.out)
  have nK1Y1 := Lib.hid (lt_of_heap K1.out)
  have nX1Y1 := Lib.hid (lt_of_heap X1.out)
  have B6 := Lib.hid (((B5.out).alloc (B5.out.size) _).trans (hb6.mono (by have := B5.out.size; first | assumption | (simp <;> omega) | (simp; done))))
  replace R1 := Lib.hid (row_call hb6 (row_alloc R1.out _))
  replace S1 := Lib.hid (row_call hb6 (row_alloc S1.out _))
  replace Q1 := Lib.hid (row_call hb6 (row_alloc Q1.out _))
  replace M1 := Lib.hid (row_call hb6 (row_alloc M1.out _))
  replace K1 := Lib.hid (row_call hb6 (row_alloc K1.out _))
  clear X1
  have Y1 := Lib.hid (row_call hb6 (heap_alloc_new _ _))
  clear hb6
  have R1_0 : V6.cell? ⟨w.heap.size, 0, none⟩ = some (.int .u64 h) := cell_of_row _ _ _ _ _ _ R1.out
  have R1_1 : V6.cell? ⟨w.heap.size, 1, none⟩ = some (.int .u64 l) := cell_of_row _ _ _ _ _ _ R1.out
  have S1_0 : V6.cell? ⟨w.heap.size + 1, 0, none⟩ = some (.int .u64 c) := cell_of_row _ _ _ _ _ _ S1.out
  have S1_1 : V6.cell? ⟨w.heap.size + 1, 1, none⟩ = some (.int .u64 d) := cell_of_row _ _ _ _ _ _ S1.out
  have Q1_0 : V6.cell? ⟨V1.heap.size, 0, none⟩ = some (.int .u64 q1) := cell_of_row _ _ _ _ _ _ Q1.out
  have Q1_1 : V6.cell? ⟨V1.heap.size, 1, none⟩ = some (.int .u64 q2) := cell_of_row _ _ _ _ _ _ Q1.out
  have M1_0 : V6.cell? ⟨V2.heap.size, 0, none⟩ = some (.int .u64 m1) := cell_of_row _ _ _ _ _ _ M1.out
  have M1_1 : V6.cell? ⟨V2.heap.size, 1, none⟩ = some (.int .u64 m2) := cell_of_row _ _ _ _ _ _ M1.out
  have K1_0 : V6.cell? ⟨V3.heap.size, 0, none⟩ = some (.int .u64 0) := cell_of_row _ _ _ _ _ _ K1.out
  have K1_1 : V6.cell? ⟨V3.heap.size, 1, none⟩ = some (.int .u64 k) := cell_of_row _ _ _ _ _ _ K1.out
  have Y1_0 : V6.cell? ⟨V5.heap.size, 0, none⟩ = some (.int .u64 h) := cell_of_row _ _ _ _ _ _ Y1.out
  have Y1_1 : V6.cell? ⟨V5.heap.size, 1, none⟩ = some (.int .u64 l) := cell_of_row _ _ _ _ _ _ Y1.out
  have zR1 := lt_of_heap R1.out
  have zS1 := lt_of_heap S1.out
  have zQ1 := lt_of_heap Q1.out
  have zM1 := lt_of_heap M1.out
  have zK1 := lt_of_heap K1.out
  have zY1 := lt_of_heap Y1.out
  go_simp
  go_wp2_with fail
  refine (H7.out _).mono ?_
  rintro e V7 ⟨rfl, hb7⟩
  clear R1_0 R1_1 zR1 S1_0 S1_1 zS1 Q1_0 Q1_1 zQ1 M1_0 M1_1 zM1 K1_0 K1_1 zK1 Y1_0 Y1_1 zY1
  have nR1Z1 := Lib.hid (lt_of_heap R1.out)
  have nS1Z1 := Lib.hid (lt_of_heap S1.out)
  have nQ1Z1 := Lib.hid (lt_of_heap Q1.out)
  have nM1Z1 := Lib.hid (lt_of_heap M1.out)
  have nK1Z1 := Lib.hid (lt_of_heap K1.out)
  have nY1Z1 := Lib.hid (lt_of_heap Y1.out)
  have B7 := Lib.hid (((B6.out).alloc (B6.out.size) _).trans (hb7.mono (by have := B6.out.size; first | assumption | (simp <;> omega) | (simp; done))))
  replace R1 := Lib.hid (row_call hb7 (row_alloc R1.out _))
  replace S1 := Lib.hid (row_call hb7 (row_alloc S1.out _))
  replace Q1 := Lib.hid (row_call hb7 (row_alloc Q1.out _))
  replace M1 := Lib.hid (row_call hb7 (row_alloc M1.out _))
  replace K1 := Lib.hid (row_call hb7 (row_alloc K1.out _))
  replace Y1 := Lib.hid (row_call hb7 (row_alloc Y1.out _))
  have Z1 := Lib.hid (row_call hb7 (heap_alloc_new _ _))
  clear hb7
  have R1_0 : V7.cell? ⟨w.heap.size, 0, none⟩ = some (.int .u64 h) := cell_of_row _ _ _ _ _ _ R1.out
  have R1_1 : V7.cell? ⟨w.heap.size, 1, none⟩ = some (.int .u64 l) := cell_of_row _ _ _ _ _ _ R1.out
  have S1_0 : V7.cell? ⟨w.heap.size + 1, 0, none⟩ = some (.int .u64 c) := cell_of_row _ _ _ _ _ _ S1.out
  have S1_1 : V7.cell? ⟨w.heap.size + 1, 1, none⟩ = some (.int .u64 d) := cell_of_row _ _ _ _ _ _ S1.out
  have Q1_0 : V7.cell? ⟨V1.heap.size, 0, none⟩ = some (.int .u64 q1) := cell_of_row _ _ _ _ _ _ Q1.out
  have Q1_1 : V7.cell? ⟨V1.heap.size, 1, none⟩ = some (.int .u64 q2) := cell_of_row _ _ _ _ _ _ Q1.out
  have M1_0 : V7.cell? ⟨V2.heap.size, 0, none⟩ = some (.int .u64 m1) := cell_of_row _ _ _ _ _ _ M1.out
  have M1_1 : V7.cell? ⟨V2.heap.size, 1, none⟩ = some (.int .u64 m2) := cell_of_row _ _ _ _ _ _ M1.out
  have K1_0 : V7.cell? ⟨V3.heap.size, 0, none⟩ = some (.int .u64 0) := cell_of_row _ _ _ _ _ _ K1.out
  have K1_1 : V7.cell? ⟨V3.heap.size, 1, none⟩ = some (.int .u64 k) := cell_of_row _ _ _ _ _ _ K1.out
  have Y1_0 : V7.cell? ⟨V5.heap.size, 0, none⟩ = some (.int .u64 h) := cell_of_row _ _ _ _ _ _ Y1.out
  have Y1_1 : V7.cell? ⟨V5.heap.size, 1, none⟩ = some (.int .u64 l) := cell_of_row _ _ _ _ _ _ Y1.out
  have Z1_0 : V7.cell? ⟨V6.heap.size, 0, none⟩ = some (.int .u64 s1) := cell_of_row _ _ _ _ _ _ Z1.out
  have Z1_1 : V7.cell? ⟨V6.heap.size, 1, none⟩ = some (.int .u64 s2) := cell_of_row _ _ _ _ _ _ Z1.out
  have zR1 := lt_of_heap R1.out
  have zS1 := lt_of_heap S1.out
  have zQ1 := lt_of_heap Q1.out
  have zM1 := lt_of_heap M1.out
  have zK1 := lt_of_heap K1.out
  have zY1 := lt_of_heap Y1.out
  have zZ1 := lt_of_heap Z1.out
  go_simp
  go_wp2_with fail
  refine (H8.out _).mono ?_
  rintro e V8 ⟨rfl, hb8⟩
  clear R1_0 R1_1 zR1 S1_0 S1_1 zS1 Q1_0 Q1_1 zQ1 M1_0 M1_1 zM1 K1_0 K1_1 zK1 Y1_0 Y1_1 zY1 Z1_0 Z1_1 zZ1
  have nR1T1 := Lib.hid (lt_of_heap R1.out)
  have nS1T1 := Lib.hid (lt_of_heap S1.out)
  have nQ1T1 := Lib.hid (lt_of_heap Q1.out)
  have nM1T1 := Lib.hid (lt_of_heap M1.out)
  have nK1T1 := Lib.hid (lt_of_heap K1.out)
  have nY1T1 := Lib.hid (lt_of_heap Y1.out)
  have nZ1T1 := Lib.hid (lt_of_heap Z1.out)
  have B8 := Lib.hid (((B7.out).alloc (B7.out.size) _).trans (hb8.mono (by have := B7.out.size; first | assumption | (simp <;> omega) | (simp; done))))
  replace R1 := Lib.hid (row_call hb8 (row_alloc R1.out _))
  replace S1 := Lib.hid (row_call hb8 (row_alloc S1.out _))
  replace Q1 := Lib.hid (row_call hb8 (row_alloc Q1.out _))
  replace M1 := Lib.hid (row_call hb8 (row_alloc M1.out _))
  replace K1 := Lib.hid (row_call hb8 (row_alloc K1.out _))
  replace Y1 := Lib.hid (row_call hb8 (row_alloc Y1.out _))
  replace Z1 := Lib.hid (row_call hb8 (row_alloc Z1.out _))
  have T1 := Lib.hid (row_call hb8 (heap_alloc_new _ _))
  clear hb8
  have R1_0 : V8.cell? ⟨w.heap.size, 0, none⟩ = some (.int .u64 h) := cell_of_row _ _ _ _ _ _ R1.out
  have R1_1 : V8.cell? ⟨w.heap.size, 1, none⟩ = some (.int .u64 l) := cell_of_row _ _ _ _ _ _ R1.out
  have S1_0 : V8.cell? ⟨w.heap.size + 1, 0, none⟩ = some (.int .u64 c) := cell_of_row _ _ _ _ _ _ S1.out
  have S1_1 : V8.cell? ⟨w.heap.size + 1, 1, none⟩ = some (.int .u64 d) := cell_of_row _ _ _ _ _ _ S1.out
  have Q1_0 : V8.cell? ⟨V1.heap.size, 0, none⟩ = some (.int .u64 q1) := cell_of_row _ _ _ _ _ _ Q1.out
  have Q1_1 : V8.cell? ⟨V1.heap.size, 1, none⟩ = some (.int .u64 q2) := cell_of_row _ _ _ _ _ _ Q1.out
  have M1_0 : V8.cell? ⟨V2.heap.size, 0, none⟩ = some (.int .u64 m1) := cell_of_row _ _ _ _ _ _ M1.out
  have M1_1 : V8.cell? ⟨V2.heap.size, 1, none⟩ = some (.int .u64 m2) := cell_of_row _ _ _ _ _ _ M1.out
  have K1_0 : V8.cell? ⟨V3.heap.size, 0, none⟩ = some (.int .u64 0) := cell_of_row _ _ _ _ _ _ K1.out
  have K1_1 : V8.cell? ⟨V3.heap.size, 1, none⟩ = some (.int .u64 k) := cell_of_row _ _ _ _ _ _ K1.out
  have Y1_0 : V8.cell? ⟨V5.heap.size, 0, none⟩ = some (.int .u64 h) := cell_of_row _ _ _ _ _ _ Y1.out
  have Y1_1 : V8.cell? ⟨V5.heap.size, 1, none⟩ = some (.int .u64 l) := cell_of_row _ _ _ _ _ _ Y1.out
  have Z1_0 : V8.cell? ⟨V6.heap.size, 0, none⟩ = some (.int .u64 s1) := cell_of_row _ _ _ _ _ _ Z1.out
  have Z1_1 : V8.cell? ⟨V6.heap.size, 1, none⟩ = some (.int .u64 s2) := cell_of_row _ _ _ _ _ _ Z1.out
  have T1_0 : V8.cell? ⟨V7.heap.size, 0, none⟩ = some (.int .u64 h) := cell_of_row _ _ _ _ _ _ T1.out
  have T1_1 : V8.cell? ⟨V7.heap.size, 1, none⟩ = some (.int .u64 l) := cell_of_row _ _ _ _ _ _ T1.out
  have zR1 := lt_of_heap R1.out
  have zS1 := lt_of_heap S1.out
  have zQ1 := lt_of_heap Q1.out
  have zM1 := lt_of_heap M1.out
  have zK1 := lt_of_heap K1.out
  have zY1 := lt_of_heap Y1.out
  have zZ1 := lt_of_heap Z1.out
  have zT1 := lt_of_heap T1.out
  go_simp
  go_wp2
  go_ret
  exact ⟨rfl, by first | exact B8.out | exact B8.out.alloc B8.out.size _⟩

theorem wideBack_walk (h l b c d : Nat) (u : U h) (v : U l) (ub : U b) (uc : U c) (ud : U d) (w : World) :
    Calls Try.prog 7 #[.agg #[.int .u64 h, .int .u64 l], .int .u64 b, .agg #[.int .u64 c, .int .u64 d]] w fun e w' => e = .returned (.bool true) ∧ Below w.heap.size w w' := by
  by_cases h0 : 0 < b
  · exact wideBack_pos h l b c d u v ub uc ud h0 w
  · obtain rfl : b = 0 := by omega
    exact wideBack_zero h l c d w
end Go.Proofs.Ytkmhebfahfaokaa
