/- Contracts of package round: a number by integers; numbers of nanoseconds; an instant, a duration. -/
import Derived.Test.YtlfbiidnfheelaaRpkD
import Derived.Test.YtlfbiidnfheelaaRpkE
import Derived.Test.YtlfbiidnfheelaaRndH
namespace Go.Proofs.Ytlfbiidnfheelaa
set_option linter.unusedVariables false
set_option linter.unusedSimpArgs false
open Go.ChangeShapes Go.WideShapes Go.ChangeAt Go.RowKit

theorem roundWide_any (x y m : Int) (bx : in128 x) (by' : in128 y) (w : World) :
    Calls Try.prog 8 #[.agg #[.int .u64 (zh x), .int .u64 (zl x)], .agg #[.int .u64 (zh y), .int .u64 (zl y)], .int .i64 m] w fun e w' => e = .returned (.tuple #[.agg #[.int .u64 (zh (rwV x y m)), .int .u64 (zl (rwV x y m))], .int .i64 (rwE x y m)]) ∧ Below w.heap.size w w' := by
  have XA := zNeg_any 1267650600228229401496703205376
  rw [big100.1, big100.2] at XA
  have HA := Lib.hid XA
  have X1 := within_any x (-1267650600228229401496703205376) 1267650600228229401496703205376 bx (by unfold in128; omega) (by unfold in128; omega)
  rw [big100.1, big100.2] at X1
  have XB := zOf_any 1 (by unfold in64; omega)
  rw [zh_one, zl_one] at XB
  have HB := Lib.hid XB
  have X2 := within_any y 1 1208925819614629174706176 by' (by unfold in128; omega) (by unfold in128; omega)
  rw [big80.1, big80.2, zh_one, zl_one] at X2
  have X3 := known_any m
  have X6 := zSigned_any x 0 bx (by unfold in128; omega)
  rw [zh_zero, zl_zero] at X6
  cases hb : badW x y m
  · obtain ⟨b1, b2, b3, b4, b5⟩ := badW_ok hb
    rw [(rw_ok hb).1, (rw_ok hb).2]
    rw [inB_of (by omega)] at X1
    rw [inB_of ⟨b1, b2⟩] at X2
    rw [knB_of ⟨b4, b5⟩] at X3
    obtain ⟨u, rfl⟩ : ∃ u : Nat, y = (u : Int) := ⟨y.toNat, by omega⟩
    by_cases hx : x < 0
    · obtain ⟨A, rfl⟩ : ∃ A : Nat, x = -(A : Int) := ⟨x.natAbs, by omega⟩
      have X7 := zNeg_any (-(A : Int))
      rw [show - -(A : Int) = (A : Int) by omega] at X7
      have X8 := rndAmt_any A u m true (by omega) (by omega) (by omega) b4 b5
      have X9 := zNeg_any (amtN A u m true : Int)
      rw [amt_neg A u (by omega) (by omega) b4 b5]
      exact wide_neg _ _ _ _ _ _ _ _ _ _ _ _ m w HA (Lib.hid X1) HB (Lib.hid X2) (Lib.hid X3) _ (cmpZ_lt.mpr hx) (Lib.hid X6) (Lib.hid X7) (Lib.hid X8) (Lib.hid X9)
    · obtain ⟨A, rfl⟩ : ∃ A : Nat, x = (A : Int) := ⟨x.toNat, by omega⟩
      have X8 := rndAmt_any A u m false (by omega) (by omega) (by omega) b4 b5
      rw [amt_pos A u (by omega) b4 b5]
      exact wide_pos _ _ _ _ _ _ _ _ m w HA (Lib.hid X1) HB (Lib.hid X2) (Lib.hid X3) _ (decide_eq_false (fun h => hx (cmpZ_lt.mp h))) (Lib.hid X6) (Lib.hid X8)
  · have hn := badW_no hb
    rw [(rw_bad hb).1, (rw_bad hb).2, zh_zero, zl_zero]
    by_cases k1 : -1267650600228229401496703205376 ≤ x ∧ x ≤ 1267650600228229401496703205376
    · rw [inB_of k1] at X1
      by_cases k2 : 1 ≤ y ∧ y ≤ 1208925819614629174706176
      · rw [inB_of k2] at X2
        rw [knB_not (fun h => hn ⟨k2.1, k2.2, by omega, h.1, h.2⟩)] at X3
        exact wide_bad3 _ _ _ _ _ _ m w HA (Lib.hid X1) HB (Lib.hid X2) (Lib.hid X3)
      · rw [inB_not k2] at X2
        exact wide_bad2 _ _ _ _ _ _ m w HA (Lib.hid X1) HB (Lib.hid X2)
    · rw [inB_not k1] at X1
      exact wide_bad1 _ _ _ _ _ _ m w HA (Lib.hid X1)
set_option maxHeartbeats 6400000 in
set_option maxRecDepth 100000 in
theorem nanos_5a (xh xl qh ql rh rl : Nat) (d k m a b c E : Int) (w : World) (f1 : (a == 5) = true)
    (H1 : Hid (∀ w, Calls Try.prog 38 #[.agg #[.int .i64 d, .int .i64 k]] w fun e w' => e = .returned (.tuple #[.agg #[.int .u64 qh, .int .u64 ql], .int .i64 b]) ∧ Below w.heap.size w w'))
    : Calls Try.prog 31 #[.agg #[.int .u64 xh, .int .u64 xl], .int .i64 a, .agg #[.int .i64 d, .int .i64 k], .int .i64 m] w fun e w' => e = .returned (.tuple #[.agg #[.int .u64 0, .int .u64 0], .int .i64 5]) ∧ Below w.heap.size w w' := by
  go_enter Try.func31, Try.ntmps31
  refine wp_shut ?_
  go_wp2_with fail
  
  refine (H1.out _).mono ?_
  rintro e V1 ⟨rfl, hb1⟩
  have B1 := Lib.hid (((((Below.refl w.heap.size w).alloc (Nat.le_refl _) _).alloc (by simp <;> omega) _).alloc (by simp <;> omega) _).trans (hb1.mono (by first | assumption | (simp <;> omega) | (simp; done))))
  have X1 := Lib.hid (row_call hb1 (row_alloc (row_alloc (heap_alloc_new _ _) _) _))
  have D1 := Lib.hid (row_at (k' := w.heap.size + 1) (by simp) (row_call hb1 (row_alloc (heap_alloc_new _ _) _)))
  have Z1 := Lib.hid (row_at (k' := w.heap.size + 1 + 1) (by simp) (row_call hb1 (heap_alloc_new _ _)))
  clear hb1
  have X1_0 : V1.cell? ⟨w.heap.size, 0, none⟩ = some (.int .u64 xh) := cell_of_row _ _ _ _ _ _ X1.out
  have X1_1 : V1.cell? ⟨w.heap.size, 1, none⟩ = some (.int .u64 xl) := cell_of_row _ _ _ _ _ _ X1.out
  have D1_0 : V1.cell? ⟨w.heap.size + 1, 0, none⟩ = some (.int .i64 d) := cell_of_row _ _ _ _ _ _ D1.out
  have D1_1 : V1.cell? ⟨w.heap.size + 1, 1, none⟩ = some (.int .i64 k) := cell_of_row _ _ _ _ _ _ D1.out
  have Z1_0 : V1.cell? ⟨w.heap.size + 1 + 1, 0, none⟩ = some (.int .u64 0) := cell_of_row _ _ _ _ _ _ Z1.out
  have Z1_1 : V1.cell? ⟨w.heap.size + 1 + 1, 1, none⟩ = some (.int .u64 0) := cell_of_row _ _ _ _ _ _ Z1.out
  have Z1_f0 : V1.frozen? ⟨w.heap.size + 1 + 1, 0, none⟩ = false := by simp [World.frozen?, Z1.out]
  have Z1_f1 : V1.frozen? ⟨w.heap.size + 1 + 1, 1, none⟩ = false := by simp [World.frozen?, Z1.out]
  have zX1 := lt_of_heap X1.out
  have zD1 := lt_of_heap D1.out
  have zZ1 := lt_of_heap Z1.out
  go_simp
  go_wp2
  refine shut_ret (v := .tuple #[.agg #[.int .u64 0, .int .u64 0], .int .i64 5]) (by simp [results, Try.results31, go_sem, zZ1, Z1_0, Z1_1]) rfl ⟨rfl, ?_⟩
  exact (keep2 B1.out (by omega) _ _).alloc (by have := B1.out.size; simp; try omega) _
set_option maxHeartbeats 6400000 in
set_option maxRecDepth 100000 in
theorem nanos_5b (xh xl qh ql rh rl : Nat) (d k m a b c E : Int) (w : World) (f1 : (a == 5) = false) (f2 : (b == 5) = true)
    (H1 : Hid (∀ w, Calls Try.prog 38 #[.agg #[.int .i64 d, .int .i64 k]] w fun e w' => e = .returned (.tuple #[.agg #[.int .u64 qh, .int .u64 ql], .int .i64 b]) ∧ Below w.heap.size w w'))
    : Calls Try.prog 31 #[.agg #[.int .u64 xh, .int .u64 xl], .int .i64 a, .agg #[.int .i64 d, .int .i64 k], .int .i64 m] w fun e w' => e = .returned (.tuple #[.agg #[.int .u64 0, .int .u64 0], .int .i64 5]) ∧ Below w.heap.size w w' := by
  go_enter Try.func31, Try.ntmps31
  refine wp_shut ?_
  go_wp2_with fail
  
  refine (H1.out _).mono ?_
  rintro e V1 ⟨rfl, hb1⟩
  have B1 := Lib.hid (((((Below.refl w.heap.size w).alloc (Nat.le_refl _) _).alloc (by simp <;> omega) _).alloc (by simp <;> omega) _).trans (hb1.mono (by first | assumption | (simp <;> omega) | (simp; done))))
  have X1 := Lib.hid (row_call hb1 (row_alloc (row_alloc (heap_alloc_new _ _) _) _))
  have D1 := Lib.hid (row_at (k' := w.heap.size + 1) (by simp) (row_call hb1 (row_alloc (heap_alloc_new _ _) _)))
  have Z1 := Lib.hid (row_at (k' := w.heap.size + 1 + 1) (by simp) (row_call hb1 (heap_alloc_new _ _)))
  clear hb1
  have X1_0 : V1.cell? ⟨w.heap.size, 0, none⟩ = some (.int .u64 xh) := cell_of_row _ _ _ _ _ _ X1.out
  have X1_1 : V1.cell? ⟨w.heap.size, 1, none⟩ = some (.int .u64 xl) := cell_of_row _ _ _ _ _ _ X1.out
  have D1_0 : V1.cell? ⟨w.heap.size + 1, 0, none⟩ = some (.int .i64 d) := cell_of_row _ _ _ _ _ _ D1.out
  have D1_1 : V1.cell? ⟨w.heap.size + 1, 1, none⟩ = some (.int .i64 k) := cell_of_row _ _ _ _ _ _ D1.out
  have Z1_0 : V1.cell? ⟨w.heap.size + 1 + 1, 0, none⟩ = some (.int .u64 0) := cell_of_row _ _ _ _ _ _ Z1.out
  have Z1_1 : V1.cell? ⟨w.heap.size + 1 + 1, 1, none⟩ = some (.int .u64 0) := cell_of_row _ _ _ _ _ _ Z1.out
  have Z1_f0 : V1.frozen? ⟨w.heap.size + 1 + 1, 0, none⟩ = false := by simp [World.frozen?, Z1.out]
  have Z1_f1 : V1.frozen? ⟨w.heap.size + 1 + 1, 1, none⟩ = false := by simp [World.frozen?, Z1.out]
  have zX1 := lt_of_heap X1.out
  have zD1 := lt_of_heap D1.out
  have zZ1 := lt_of_heap Z1.out
  go_simp
  go_wp2
  refine shut_ret (v := .tuple #[.agg #[.int .u64 0, .int .u64 0], .int .i64 5]) (by simp [results, Try.results31, go_sem, zZ1, Z1_0, Z1_1]) rfl ⟨rfl, ?_⟩
  exact (keep2 B1.out (by omega) _ _).alloc (by have := B1.out.size; simp; try omega) _
set_option maxHeartbeats 6400000 in
set_option maxRecDepth 100000 in
theorem nanos_5c (xh xl qh ql rh rl : Nat) (d k m a b c E : Int) (w : World) (f1 : (a == 5) = false) (f2 : (b == 5) = false) (f3 : c ≤ 0)
    (H1 : Hid (∀ w, Calls Try.prog 38 #[.agg #[.int .i64 d, .int .i64 k]] w fun e w' => e = .returned (.tuple #[.agg #[.int .u64 qh, .int .u64 ql], .int .i64 b]) ∧ Below w.heap.size w w'))
    (H2 : Hid (∀ w, Calls Try.prog 51 #[.agg #[.int .i64 d, .int .i64 k], .agg #[.int .i64 0, .int .i64 0]] w fun e w' => e = .returned (.int .i64 c) ∧ Below w.heap.size w w'))
    : Calls Try.prog 31 #[.agg #[.int .u64 xh, .int .u64 xl], .int .i64 a, .agg #[.int .i64 d, .int .i64 k], .int .i64 m] w fun e w' => e = .returned (.tuple #[.agg #[.int .u64 0, .int .u64 0], .int .i64 5]) ∧ Below w.heap.size w w' := by
  go_enter Try.func31, Try.ntmps31
  refine wp_shut ?_
  go_wp2_with fail
  
  refine (H1.out _).mono ?_
  rintro e V1 ⟨rfl, hb1⟩
  have B1 := Lib.hid (((((Below.refl w.heap.size w).alloc (Nat.le_refl _) _).alloc (by simp <;> omega) _).alloc (by simp <;> omega) _).trans (hb1.mono (by first | assumption | (simp <;> omega) | (simp; done))))
  have X1 := Lib.hid (row_call hb1 (row_alloc (row_alloc (heap_alloc_new _ _) _) _))
  have D1 := Lib.hid (row_at (k' := w.heap.size + 1) (by simp) (row_call hb1 (row_alloc (heap_alloc_new _ _) _)))
  have Z1 := Lib.hid (row_at (k' := w.heap.size + 1 + 1) (by simp) (row_call hb1 (heap_alloc_new _ _)))
  clear hb1
  have X1_0 : V1.cell? ⟨w.heap.size, 0, none⟩ = some (.int .u64 xh) := cell_of_row _ _ _ _ _ _ X1.out
  have X1_1 : V1.cell? ⟨w.heap.size, 1, none⟩ = some (.int .u64 xl) := cell_of_row _ _ _ _ _ _ X1.out
  have D1_0 : V1.cell? ⟨w.heap.size + 1, 0, none⟩ = some (.int .i64 d) := cell_of_row _ _ _ _ _ _ D1.out
  have D1_1 : V1.cell? ⟨w.heap.size + 1, 1, none⟩ = some (.int .i64 k) := cell_of_row _ _ _ _ _ _ D1.out
  have Z1_0 : V1.cell? ⟨w.heap.size + 1 + 1, 0, none⟩ = some (.int .u64 0) := cell_of_row _ _ _ _ _ _ Z1.out
  have Z1_1 : V1.cell? ⟨w.heap.size + 1 + 1, 1, none⟩ = some (.int .u64 0) := cell_of_row _ _ _ _ _ _ Z1.out
  have Z1_f0 : V1.frozen? ⟨w.heap.size + 1 + 1, 0, none⟩ = false := by simp [World.frozen?, Z1.out]
  have Z1_f1 : V1.frozen? ⟨w.heap.size + 1 + 1, 1, none⟩ = false := by simp [World.frozen?, Z1.out]
  have zX1 := lt_of_heap X1.out
  have zD1 := lt_of_heap D1.out
  have zZ1 := lt_of_heap Z1.out
  go_simp
  go_wp2_with fail
  refine (H2.out _).mono ?_
  rintro e V2 ⟨rfl, hb2⟩
  clear X1_0 X1_1 zX1 D1_0 D1_1 zD1 Z1_0 Z1_1 Z1_f0 Z1_f1 zZ1
  have nX1Q1 := Lib.hid (lt_of_heap X1.out)
  have nD1Q1 := Lib.hid (lt_of_heap D1.out)
  have nZ1Q1 := Lib.hid (lt_of_heap Z1.out)
  have B2 := Lib.hid (((B1.out).alloc (B1.out.size) _).trans (hb2.mono (by have := B1.out.size; first | assumption | (simp <;> omega) | (simp; done))))
  replace X1 := Lib.hid (row_call hb2 (row_alloc X1.out _))
  replace D1 := Lib.hid (row_call hb2 (row_alloc D1.out _))
  replace Z1 := Lib.hid (row_call hb2 (row_alloc Z1.out _))
  have Q1 := Lib.hid (row_call hb2 (heap_alloc_new _ _))
  clear hb2
  have X1_0 : V2.cell? ⟨w.heap.size, 0, none⟩ = some (.int .u64 xh) := cell_of_row _ _ _ _ _ _ X1.out
  have X1_1 : V2.cell? ⟨w.heap.size, 1, none⟩ = some (.int .u64 xl) := cell_of_row _ _ _ _ _ _ X1.out
  have D1_0 : V2.cell? ⟨w.heap.size + 1, 0, none⟩ = some (.int .i64 d) := cell_of_row _ _ _ _ _ _ D1.out
  have D1_1 : V2.cell? ⟨w.heap.size + 1, 1, none⟩ = some (.int .i64 k) := cell_of_row _ _ _ _ _ _ D1.out
  have Z1_0 : V2.cell? ⟨w.heap.size + 1 + 1, 0, none⟩ = some (.int .u64 0) := cell_of_row _ _ _ _ _ _ Z1.out
  have Z1_1 : V2.cell? ⟨w.heap.size + 1 + 1, 1, none⟩ = some (.int .u64 0) := cell_of_row _ _ _ _ _ _ Z1.out
  have Z1_f0 : V2.frozen? ⟨w.heap.size + 1 + 1, 0, none⟩ = false := by simp [World.frozen?, Z1.out]
  have Z1_f1 : V2.frozen? ⟨w.heap.size + 1 + 1, 1, none⟩ = false := by simp [World.frozen?, Z1.out]
  have Q1_0 : V2.cell? ⟨V1.heap.size, 0, none⟩ = some (.int .u64 qh) := cell_of_row _ _ _ _ _ _ Q1.out
  have Q1_1 : V2.cell? ⟨V1.heap.size, 1, none⟩ = some (.int .u64 ql) := cell_of_row _ _ _ _ _ _ Q1.out
  have zX1 := lt_of_heap X1.out
  have zD1 := lt_of_heap D1.out
  have zZ1 := lt_of_heap Z1.out
  have zQ1 := lt_of_heap Q1.out
  go_simp
  go_wp2
  refine shut_ret (v := .tuple #[.agg #[.int .u64 0, .int .u64 0], .int .i64 5]) (by simp [results, Try.results31, go_sem, zZ1, Z1_0, Z1_1]) rfl ⟨rfl, ?_⟩
  exact keep2 B2.out (by omega) _ _
set_option maxHeartbeats 6400000 in
set_option maxRecDepth 100000 in
theorem nanos_5d (xh xl qh ql rh rl : Nat) (d k m a b c E : Int) (w : World) (f1 : (a == 5) = false) (f2 : (b == 5) = false) (f3 : ¬ c ≤ 0)
    (H1 : Hid (∀ w, Calls Try.prog 38 #[.agg #[.int .i64 d, .int .i64 k]] w fun e w' => e = .returned (.tuple #[.agg #[.int .u64 qh, .int .u64 ql], .int .i64 b]) ∧ Below w.heap.size w w'))
    (H2 : Hid (∀ w, Calls Try.prog 51 #[.agg #[.int .i64 d, .int .i64 k], .agg #[.int .i64 0, .int .i64 0]] w fun e w' => e = .returned (.int .i64 c) ∧ Below w.heap.size w w'))
    (H3 : Hid (∀ w, Calls Try.prog 20 #[.int .i64 m] w fun e w' => e = .returned (.bool false) ∧ Below w.heap.size w w'))
    : Calls Try.prog 31 #[.agg #[.int .u64 xh, .int .u64 xl], .int .i64 a, .agg #[.int .i64 d, .int .i64 k], .int .i64 m] w fun e w' => e = .returned (.tuple #[.agg #[.int .u64 0, .int .u64 0], .int .i64 5]) ∧ Below w.heap.size w w' := by
  go_enter Try.func31, Try.ntmps31
  refine wp_shut ?_
  go_wp2_with fail
  
  refine (H1.out _).mono ?_
  rintro e V1 ⟨rfl, hb1⟩
  have B1 := Lib.hid (((((Below.refl w.heap.size w).alloc (Nat.le_refl _) _).alloc (by simp <;> omega) _).alloc (by simp <;> omega) _).trans (hb1.mono (by first | assumption | (simp <;> omega) | (simp; done))))
  have X1 := Lib.hid (row_call hb1 (row_alloc (row_alloc (heap_alloc_new _ _) _) _))
  have D1 := Lib.hid (row_at (k' := w.heap.size + 1) (by simp) (row_call hb1 (row_alloc (heap_alloc_new _ _) _)))
  have Z1 := Lib.hid (row_at (k' := w.heap.size + 1 + 1) (by simp) (row_call hb1 (heap_alloc_new _ _)))
  clear hb1
  have X1_0 : V1.cell? ⟨w.heap.size, 0, none⟩ = some (.int .u64 xh) := cell_of_row _ _ _ _ _ _ X1.out
  have X1_1 : V1.cell? ⟨w.heap.size, 1, none⟩ = some (.int .u64 xl) := cell_of_row _ _ _ _ _ _ X1.out
  have D1_0 : V1.cell? ⟨w.heap.size + 1, 0, none⟩ = some (.int .i64 d) := cell_of_row _ _ _ _ _ _ D1.out
  have D1_1 : V1.cell? ⟨w.heap.size + 1, 1, none⟩ = some (.int .i64 k) := cell_of_row _ _ _ _ _ _ D1.out
  have Z1_0 : V1.cell? ⟨w.heap.size + 1 + 1, 0, none⟩ = some (.int .u64 0) := cell_of_row _ _ _ _ _ _ Z1.out
  have Z1_1 : V1.cell? ⟨w.heap.size + 1 + 1, 1, none⟩ = some (.int .u64 0) := cell_of_row _ _ _ _ _ _ Z1.out
  have Z1_f0 : V1.frozen? ⟨w.heap.size + 1 + 1, 0, none⟩ = false := by simp [World.frozen?, Z1.out]
  have Z1_f1 : V1.frozen? ⟨w.heap.size + 1 + 1, 1, none⟩ = false := by simp [World.frozen?, Z1.out]
  have zX1 := lt_of_heap X1.out
  have zD1 := lt_of_heap D1.out
  have zZ1 := lt_of_heap Z1.out
  go_simp
  go_wp2_with fail
  refine (H2.out _).mono ?_
  rintro e V2 ⟨rfl, hb2⟩
  clear X1_0 X1_1 zX1 D1_0 D1_1 zD1 Z1_0 Z1_1 Z1_f0 Z1_f1 zZ1
  have nX1Q1 := Lib.hid (lt_of_heap X1.out)
  have nD1Q1 := Lib.hid (lt_of_heap D1.out)
  have nZ1Q1 := Lib.hid (lt_of_heap Z1.out)
  have B2 := Lib.hid (((B1.out).alloc (B1.out.size) _).trans (hb2.mono (by have := B1.out.size; first | assumption | (simp <;> omega) | (simp; done))))
  replace X1 := Lib.hid (row_call hb2 (row_alloc X1.out _))
  replace D1 := Lib.hid (row_call hb2 (row_alloc D1.out _))
  replace Z1 := Lib.hid (row_call hb2 (row_alloc Z1.out _))
  have Q1 := Lib.hid (row_call hb2 (heap_alloc_new _ _))
  clear hb2
  have X1_0 : V2.cell? ⟨w.heap.size, 0, none⟩ = some (.int .u64 xh) := cell_of_row _ _ _ _ _ _ X1.out
  have X1_1 : V2.cell? ⟨w.heap.size, 1, none⟩ = some (.int .u64 xl) := cell_of_row _ _ _ _ _ _ X1.out
  have D1_0 : V2.cell? ⟨w.heap.size + 1, 0, none⟩ = some (.int .i64 d) := cell_of_row _ _ _ _ _ _ D1.out
  have D1_1 : V2.cell? ⟨w.heap.size + 1, 1, none⟩ = some (.int .i64 k) := cell_of_row _ _ _ _ _ _ D1.out
  have Z1_0 : V2.cell? ⟨w.heap.size + 1 + 1, 0, none⟩ = some (.int .u64 0) := cell_of_row _ _ _ _ _ _ Z1.out
  have Z1_1 : V2.cell? ⟨w.heap.size + 1 + 1, 1, none⟩ = some (.int .u64 0) := cell_of_row _ _ _ _ _ _ Z1.out
  have Z1_f0 : V2.frozen? ⟨w.heap.size + 1 + 1, 0, none⟩ = false := by simp [World.frozen?, Z1.out]
  have Z1_f1 : V2.frozen? ⟨w.heap.size + 1 + 1, 1, none⟩ = false := by simp [World.frozen?, Z1.out]
  have Q1_0 : V2.cell? ⟨V1.heap.size, 0, none⟩ = some (.int .u64 qh) := cell_of_row _ _ _ _ _ _ Q1.out
  have Q1_1 : V2.cell? ⟨V1.heap.size, 1, none⟩ = some (.int .u64 ql) := cell_of_row _ _ _ _ _ _ Q1.out
  have zX1 := lt_of_heap X1.out
  have zD1 := lt_of_heap D1.out
  have zZ1 := lt_of_heap Z1.out
  have zQ1 := lt_of_heap Q1.out
  go_simp
  go_wp2_with fail
  refine (H3.out _).mono ?_
  rintro e V3 ⟨rfl, hb3⟩
  clear X1_0 X1_1 zX1 D1_0 D1_1 zD1 Z1_0 Z1_1 Z1_f0 Z1_f1 zZ1 Q1_0 Q1_1 zQ1
  have B3 : Hid (Below w.heap.size w V3) := by first | exact Lib.hid ((B2.out).trans (hb3.mono (by have := B2.out.size; first | assumption | (simp <;> omega) | (simp; done)))) | exact Lib.hid (((B2.out).alloc (B2.out.size) _).trans (hb3.mono (by have := B2.out.size; first | assumption | (simp <;> omega) | (simp; done)))) | exact Lib.hid ((((B2.out).alloc (B2.out.size) _).alloc (by have := B2.out.size; simp <;> omega) _).trans (hb3.mono (by have := B2.out.size; first | assumption | (simp <;> omega) | (simp; done)))) | exact Lib.hid (((((B2.out).alloc (B2.out.size) _).alloc (by have := B2.out.size; simp <;> omega) _).alloc (by have := B2.out.size; simp <;> omega) _).trans (hb3.mono (by have := B2.out.size; first | assumption | (simp <;> omega) | (simp; done))))
  first | replace X1 := Lib.hid (row_call hb3 X1.out) | replace X1 := Lib.hid (row_call hb3 (row_alloc X1.out _)) | replace X1 := Lib.hid (row_call hb3 (row_alloc (row_alloc X1.out _) _)) | replace X1 := Lib.hid (row_call hb3 (row_alloc (row_alloc (row_alloc X1.out _) _) _))
  first | replace D1 := Lib.hid (row_call hb3 D1.out) | replace D1 := Lib.hid (row_call hb3 (row_alloc D1.out _)) | replace D1 := Lib.hid (row_call hb3 (row_alloc (row_alloc D1.out _) _)) | replace D1 := Lib.hid (row_call hb3 (row_alloc (row_alloc (row_alloc D1.out _) _) _))
  first | replace Z1 := Lib.hid (row_call hb3 Z1.out) | replace Z1 := Lib.hid (row_call hb3 (row_alloc Z1.out _)) | replace Z1 := Lib.hid (row_call hb3 (row_alloc (row_alloc Z1.out _) _)) | replace Z1 := Lib.hid (row_call hb3 (row_alloc (row_alloc (row_alloc Z1.out _) _) _))
  first | replace Q1 := Lib.hid (row_call hb3 Q1.out) | replace Q1 := Lib.hid (row_call hb3 (row_alloc Q1.out _)) | replace Q1 := Lib.hid (row_call hb3 (row_alloc (row_alloc Q1.out _) _)) | replace Q1 := Lib.hid (row_call hb3 (row_alloc (row_alloc (row_alloc Q1.out _) _) _))
  clear hb3
  have X1_0 : V3.cell? ⟨w.heap.size, 0, none⟩ = some (.int .u64 xh) := cell_of_row _ _ _ _ _ _ X1.out
  have X1_1 : V3.cell? ⟨w.heap.size, 1, none⟩ = some (.int .u64 xl) := cell_of_row _ _ _ _ _ _ X1.out
  have D1_0 : V3.cell? ⟨w.heap.size + 1, 0, none⟩ = some (.int .i64 d) := cell_of_row _ _ _ _ _ _ D1.out
  have D1_1 : V3.cell? ⟨w.heap.size + 1, 1, none⟩ = some (.int .i64 k) := cell_of_row _ _ _ _ _ _ D1.out
  have Z1_0 : V3.cell? ⟨w.heap.size + 1 + 1, 0, none⟩ = some (.int .u64 0) := cell_of_row _ _ _ _ _ _ Z1.out
  have Z1_1 : V3.cell? ⟨w.heap.size + 1 + 1, 1, none⟩ = some (.int .u64 0) := cell_of_row _ _ _ _ _ _ Z1.out
  have Z1_f0 : V3.frozen? ⟨w.heap.size + 1 + 1, 0, none⟩ = false := by simp [World.frozen?, Z1.out]
  have Z1_f1 : V3.frozen? ⟨w.heap.size + 1 + 1, 1, none⟩ = false := by simp [World.frozen?, Z1.out]
  have Q1_0 : V3.cell? ⟨V1.heap.size, 0, none⟩ = some (.int .u64 qh) := cell_of_row _ _ _ _ _ _ Q1.out
  have Q1_1 : V3.cell? ⟨V1.heap.size, 1, none⟩ = some (.int .u64 ql) := cell_of_row _ _ _ _ _ _ Q1.out
  have zX1 := lt_of_heap X1.out
  have zD1 := lt_of_heap D1.out
  have zZ1 := lt_of_heap Z1.out
  have zQ1 := lt_of_heap Q1.out
  go_simp
  go_wp2
  refine shut_ret (v := .tuple #[.agg #[.int .u64 0, .int .u64 0], .int .i64 5]) (by simp [results, Try.results31, go_sem, zZ1, Z1_0, Z1_1]) rfl ⟨rfl, ?_⟩
  exact keep2 B3.out (by omega) _ _
set_option maxHeartbeats 6400000 in
set_option maxRecDepth 100000 in
theorem nanos_8a (xh xl qh ql rh rl : Nat) (d k m a b c E : Int) (w : World) (f1 : (a == 5) = false) (f2 : (b == 5) = false) (f3 : ¬ c ≤ 0) (f4 : (a != 0) = true)
    (H1 : Hid (∀ w, Calls Try.prog 38 #[.agg #[.int .i64 d, .int .i64 k]] w fun e w' => e = .returned (.tuple #[.agg #[.int .u64 qh, .int .u64 ql], .int .i64 b]) ∧ Below w.heap.size w w'))
    (H2 : Hid (∀ w, Calls Try.prog 51 #[.agg #[.int .i64 d, .int .i64 k], .agg #[.int .i64 0, .int .i64 0]] w fun e w' => e = .returned (.int .i64 c) ∧ Below w.heap.size w w'))
    (H3 : Hid (∀ w, Calls Try.prog 20 #[.int .i64 m] w fun e w' => e = .returned (.bool true) ∧ Below w.heap.size w w'))
    : Calls Try.prog 31 #[.agg #[.int .u64 xh, .int .u64 xl], .int .i64 a, .agg #[.int .i64 d, .int .i64 k], .int .i64 m] w fun e w' => e = .returned (.tuple #[.agg #[.int .u64 0, .int .u64 0], .int .i64 8]) ∧ Below w.heap.size w w' := by
  go_enter Try.func31, Try.ntmps31
  refine wp_shut ?_
  go_wp2_with fail
  
  refine (H1.out _).mono ?_
  rintro e V1 ⟨rfl, hb1⟩
  have B1 := Lib.hid (((((Below.refl w.heap.size w).alloc (Nat.le_refl _) _).alloc (by simp <;> omega) _).alloc (by simp <;> omega) _).trans (hb1.mono (by first | assumption | (simp <;> omega) | (simp; done))))
  have X1 := Lib.hid (row_call hb1 (row_alloc (row_alloc (heap_alloc_new _ _) _) _))
  have D1 := Lib.hid (row_at (k' := w.heap.size + 1) (by simp) (row_call hb1 (row_alloc (heap_alloc_new _ _) _)))
  have Z1 := Lib.hid (row_at (k' := w.heap.size + 1 + 1) (by simp) (row_call hb1 (heap_alloc_new _ _)))
  clear hb1
  have X1_0 : V1.cell? ⟨w.heap.size, 0, none⟩ = some (.int .u64 xh) := cell_of_row _ _ _ _ _ _ X1.out
  have X1_1 : V1.cell? ⟨w.heap.size, 1, none⟩ = some (.int .u64 xl) := cell_of_row _ _ _ _ _ _ X1.out
  have D1_0 : V1.cell? ⟨w.heap.size + 1, 0, none⟩ = some (.int .i64 d) := cell_of_row _ _ _ _ _ _ D1.out
  have D1_1 : V1.cell? ⟨w.heap.size + 1, 1, none⟩ = some (.int .i64 k) := cell_of_row _ _ _ _ _ _ D1.out
  have Z1_0 : V1.cell? ⟨w.heap.size + 1 + 1, 0, none⟩ = some (.int .u64 0) := cell_of_row _ _ _ _ _ _ Z1.out
  have Z1_1 : V1.cell? ⟨w.heap.size + 1 + 1, 1, none⟩ = some (.int .u64 0) := cell_of_row _ _ _ _ _ _ Z1.out
  have Z1_f0 : V1.frozen? ⟨w.heap.size + 1 + 1, 0, none⟩ = false := by simp [World.frozen?, Z1.out]
  have Z1_f1 : V1.frozen? ⟨w.heap.size + 1 + 1, 1, none⟩ = false := by simp [World.frozen?, Z1.out]
  have zX1 := lt_of_heap X1.out
  have zD1 := lt_of_heap D1.out
  have zZ1 := lt_of_heap Z1.out
  go_simp
  go_wp2_with fail
  refine (H2.out _).mono ?_
  rintro e V2 ⟨rfl, hb2⟩
  clear X1_0 X1_1 zX1 D1_0 D1_1 zD1 Z1_0 Z1_1 Z1_f0 Z1_f1 zZ1
  have nX1Q1 := Lib.hid (lt_of_heap X1.out)
  have nD1Q1 := Lib.hid (lt_of_heap D1.out)
  have nZ1Q1 := Lib.hid (lt_of_heap Z1.out)
  have B2 := Lib.hid (((B1.out).alloc (B1.out.size) _).trans (hb2.mono (by have := B1.out.size; first | assumption | (simp <;> omega) | (simp; done))))
  replace X1 := Lib.hid (row_call hb2 (row_alloc X1.out _))
  replace D1 := Lib.hid (row_call hb2 (row_alloc D1.out _))
  replace Z1 := Lib.hid (row_call hb2 (row_alloc Z1.out _))
  have Q1 := Lib.hid (row_call hb2 (heap_alloc_new _ _))
  clear hb2
  have X1_0 : V2.cell? ⟨w.heap.size, 0, none⟩ = some (.int .u64 xh) := cell_of_row _ _ _ _ _ _ X1.out
  have X1_1 : V2.cell? ⟨w.heap.size, 1, none⟩ = some (.int .u64 xl) := cell_of_row _ _ _ _ _ _ X1.out
  have D1_0 : V2.cell? ⟨w.heap.size + 1, 0, none⟩ = some (.int .i64 d) := cell_of_row _ _ _ _ _ _ D1.out
  have D1_1 : V2.cell? ⟨w.heap.size + 1, 1, none⟩ = some (.int .i64 k) := cell_of_row _ _ _ _ _ _ D1.out
  have Z1_0 : V2.cell? ⟨w.heap.size + 1 + 1, 0, none⟩ = some (.int .u64 0) := cell_of_row _ _ _ _ _ _ Z1.out
  have Z1_1 : V2.cell? ⟨w.heap.size + 1 + 1, 1, none⟩ = some (.int .u64 0) := cell_of_row _ _ _ _ _ _ Z1.out
  have Z1_f0 : V2.frozen? ⟨w.heap.size + 1 + 1, 0, none⟩ = false := by simp [World.frozen?, Z1.out]
  have Z1_f1 : V2.frozen? ⟨w.heap.size + 1 + 1, 1, none⟩ = false := by simp [World.frozen?, Z1.out]
  have Q1_0 : V2.cell? ⟨V1.heap.size, 0, none⟩ = some (.int .u64 qh) := cell_of_row _ _ _ _ _ _ Q1.out
  have Q1_1 : V2.cell? ⟨V1.heap.size, 1, none⟩ = some (.int .u64 ql) := cell_of_row _ _ _ _ _ _ Q1.out
  have zX1 := lt_of_heap X1.out
  have zD1 := lt_of_heap D1.out
  have zZ1 := lt_of_heap Z1.out
  have zQ1 := lt_of_heap Q1.out
  go_simp
  go_wp2_with fail
  refine (H3.out _).mono ?_
  rintro e V3 ⟨rfl, hb3⟩
  clear X1_0 X1_1 zX1 D1_0 D1_1 zD1 Z1_0 Z1_1 Z1_f0 Z1_f1 zZ1 Q1_0 Q1_1 zQ1
  have B3 : Hid (Below w.heap.size w V3) := by first | exact Lib.hid ((B2.out).trans (hb3.mono (by have := B2.out.size; first | assumption | (simp <;> omega) | (simp; done)))) | exact Lib.hid (((B2.out).alloc (B2.out.size) _).trans (hb3.mono (by have := B2.out.size; first | assumption | (simp <;> omega) | (simp; done)))) | exact Lib.hid ((((B2.out).alloc (B2.out.size) _).alloc (by have := B2.out.size; simp <;> omega) _).trans (hb3.mono (by have := B2.out.size; first | assumption | (simp <;> omega) | (simp; done)))) | exact Lib.hid (((((B2.out).alloc (B2.out.size) _).alloc (by have := B2.out.size; simp <;> omega) _).alloc (by have := B2.out.size; simp <;> omega) _).trans (hb3.mono (by have := B2.out.size; first | assumption | (simp <;> omega) | (simp; done))))
  first | replace X1 := Lib.hid (row_call hb3 X1.out) | replace X1 := Lib.hid (row_call hb3 (row_alloc X1.out _)) | replace X1 := Lib.hid (row_call hb3 (row_alloc (row_alloc X1.out _) _)) | replace X1 := Lib.hid (row_call hb3 (row_alloc (row_alloc (row_alloc X1.out _) _) _))
  first | replace D1 := Lib.hid (row_call hb3 D1.out) | replace D1 := Lib.hid (row_call hb3 (row_alloc D1.out _)) | replace D1 := Lib.hid (row_call hb3 (row_alloc (row_alloc D1.out _) _)) | replace D1 := Lib.hid (row_call hb3 (row_alloc (row_alloc (row_alloc D1.out _) _) _))
  first | replace Z1 := Lib.hid (row_call hb3 Z1.out) | replace Z1 := Lib.hid (row_call hb3 (row_alloc Z1.out _)) | replace Z1 := Lib.hid (row_call hb3 (row_alloc (row_alloc Z1.out _) _)) | replace Z1 := Lib.hid (row_call hb3 (row_alloc (row_alloc (row_alloc Z1.out _) _) _))
  first | replace Q1 := Lib.hid (row_call hb3 Q1.out) | replace Q1 := Lib.hid (row_call hb3 (row_alloc Q1.out _)) | replace Q1 := Lib.hid (row_call hb3 (row_alloc (row_alloc Q1.out _) _)) | replace Q1 := Lib.hid (row_call hb3 (row_alloc (row_alloc (row_alloc Q1.out _) _) _))
  clear hb3
  have X1_0 : V3.cell? ⟨w.heap.size, 0, none⟩ = some (.int .u64 xh) := cell_of_row _ _ _ _ _ _ X1.out
  have X1_1 : V3.cell? ⟨w.heap.size, 1, none⟩ = some (.int .u64 xl) := cell_of_row _ _ _ _ _ _ X1.out
  have D1_0 : V3.cell? ⟨w.heap.size + 1, 0, none⟩ = some (.int .i64 d) := cell_of_row _ _ _ _ _ _ D1.out
  have D1_1 : V3.cell? ⟨w.heap.size + 1, 1, none⟩ = some (.int .i64 k) := cell_of_row _ _ _ _ _ _ D1.out
  have Z1_0 : V3.cell? ⟨w.heap.size + 1 + 1, 0, none⟩ = some (.int .u64 0) := cell_of_row _ _ _ _ _ _ Z1.out
  have Z1_1 : V3.cell? ⟨w.heap.size + 1 + 1, 1, none⟩ = some (.int .u64 0) := cell_of_row _ _ _ _ _ _ Z1.out
  have Z1_f0 : V3.frozen? ⟨w.heap.size + 1 + 1, 0, none⟩ = false := by simp [World.frozen?, Z1.out]
  have Z1_f1 : V3.frozen? ⟨w.heap.size + 1 + 1, 1, none⟩ = false := by simp [World.frozen?, Z1.out]
  have Q1_0 : V3.cell? ⟨V1.heap.size, 0, none⟩ = some (.int .u64 qh) := cell_of_row _ _ _ _ _ _ Q1.out
  have Q1_1 : V3.cell? ⟨V1.heap.size, 1, none⟩ = some (.int .u64 ql) := cell_of_row _ _ _ _ _ _ Q1.out
  have zX1 := lt_of_heap X1.out
  have zD1 := lt_of_heap D1.out
  have zZ1 := lt_of_heap Z1.out
  have zQ1 := lt_of_heap Q1.out
  go_simp
  go_wp2
  refine shut_ret (v := .tuple #[.agg #[.int .u64 0, .int .u64 0], .int .i64 8]) (by simp [results, Try.results31, go_sem, zZ1, Z1_0, Z1_1]) rfl ⟨rfl, ?_⟩
  exact keep2 B3.out (by omega) _ _
set_option maxHeartbeats 6400000 in
set_option maxRecDepth 100000 in
theorem nanos_8b (xh xl qh ql rh rl : Nat) (d k m a b c E : Int) (w : World) (f1 : (a == 5) = false) (f2 : (b == 5) = false) (f3 : ¬ c ≤ 0) (f4 : (a != 0) = false) (f5 : (b != 0) = true)
    (H1 : Hid (∀ w, Calls Try.prog 38 #[.agg #[.int .i64 d, .int .i64 k]] w fun e w' => e = .returned (.tuple #[.agg #[.int .u64 qh, .int .u64 ql], .int .i64 b]) ∧ Below w.heap.size w w'))
    (H2 : Hid (∀ w, Calls Try.prog 51 #[.agg #[.int .i64 d, .int .i64 k], .agg #[.int .i64 0, .int .i64 0]] w fun e w' => e = .returned (.int .i64 c) ∧ Below w.heap.size w w'))
    (H3 : Hid (∀ w, Calls Try.prog 20 #[.int .i64 m] w fun e w' => e = .returned (.bool true) ∧ Below w.heap.size w w'))
    : Calls Try.prog 31 #[.agg #[.int .u64 xh, .int .u64 xl], .int .i64 a, .agg #[.int .i64 d, .int .i64 k], .int .i64 m] w fun e w' => e = .returned (.tuple #[.agg #[.int .u64 0, .int .u64 0], .int .i64 8]) ∧ Below w.heap.size w w' := by
  go_enter Try.func31, Try.ntmps31
  refine wp_shut ?_
  go_wp2_with fail
  
  refine (H1.out _).mono ?_
  rintro e V1 ⟨rfl, hb1⟩
  have B1 := Lib.hid (((((Below.refl w.heap.size w).alloc (Nat.le_refl _) _).alloc (by simp <;> omega) _).alloc (by simp <;> omega) _).trans (hb1.mono (by first | assumption | (simp <;> omega) | (simp; done))))
  have X1 := Lib.hid (row_call hb1 (row_alloc (row_alloc (heap_alloc_new _ _) _) _))
  have D1 := Lib.hid (row_at (k' := w.heap.size + 1) (by simp) (row_call hb1 (row_alloc (heap_alloc_new _ _) _)))
  have Z1 := Lib.hid (row_at (k' := w.heap.size + 1 + 1) (by simp) (row_call hb1 (heap_alloc_new _ _)))
  clear hb1
  have X1_0 : V1.cell? ⟨w.heap.size, 0, none⟩ = some (.int .u64 xh) := cell_of_row _ _ _ _ _ _ X1.out
  have X1_1 : V1.cell? ⟨w.heap.size, 1, none⟩ = some (.int .u64 xl) := cell_of_row _ _ _ _ _ _ X1.out
  have D1_0 : V1.cell? ⟨w.heap.size + 1, 0, none⟩ = some (.int .i64 d) := cell_of_row _ _ _ _ _ _ D1.out
  have D1_1 : V1.cell? ⟨w.heap.size + 1, 1, none⟩ = some (.int .i64 k) := cell_of_row _ _ _ _ _ _ D1.out
  have Z1_0 : V1.cell? ⟨w.heap.size + 1 + 1, 0, none⟩ = some (.int .u64 0) := cell_of_row _ _ _ _ _ _ Z1.out
  have Z1_1 : V1.cell? ⟨w.heap.size + 1 + 1, 1, none⟩ = some (.int .u64 0) := cell_of_row _ _ _ _ _ _ Z1.out
  have Z1_f0 : V1.frozen? ⟨w.heap.size + 1 + 1, 0, none⟩ = false := by simp [World.frozen?, Z1.out]
  have Z1_f1 : V1.frozen? ⟨w.heap.size + 1 + 1, 1, none⟩ = false := by simp [World.frozen?, Z1.out]
  have zX1 := lt_of_heap X1.out
  have zD1 := lt_of_heap D1.out
  have zZ1 := lt_of_heap Z1.out
  go_simp
  go_wp2_with fail
  refine (H2.out _).mono ?_
  rintro e V2 ⟨rfl, hb2⟩
  clear X1_0 X1_1 zX1 D1_0 D1_1 zD1 Z1_0 Z1_1 Z1_f0 Z1_f1 zZ1
  have nX1Q1 := Lib.hid (lt_of_heap X1.out)
  have nD1Q1 := Lib.hid (lt_of_heap D1.out)
  have nZ1Q1 := Lib.hid (lt_of_heap Z1.out)
  have B2 := Lib.hid (((B1.out).alloc (B1.out.size) _).trans (hb2.mono (by have := B1.out.size; first | assumption | (simp <;> omega) | (simp; done))))
  replace X1 := Lib.hid (row_call hb2 (row_alloc X1.out _))
  replace D1 := Lib.hid (row_call hb2 (row_alloc D1.out _))
  replace Z1 := Lib.hid (row_call hb2 (row_alloc Z1.out _))
  have Q1 := Lib.hid (row_call hb2 (heap_alloc_new _ _))
  clear hb2
  have X1_0 : V2.cell? ⟨w.heap.size, 0, none⟩ = some (.int .u64 xh) := cell_of_row _ _ _ _ _ _ X1.out
  have X1_1 : V2.cell? ⟨w.heap.size, 1, none⟩ = some (.int .u64 xl) := cell_of_row _ _ _ _ _ _ X1.out
  have D1_0 : V2.cell? ⟨w.heap.size + 1, 0, none⟩ = some (.int .i64 d) := cell_of_row _ _ _ _ _ _ D1.out
  have D1_1 : V2.cell? ⟨w.heap.size + 1, 1, none⟩ = some (.int .i64 k) := cell_of_row _ _ _ _ _ _ D1.out
  have Z1_0 : V2.cell? ⟨w.heap.size + 1 + 1, 0, none⟩ = some (.int .u64 0) := cell_of_row _ _ _ _ _ _ Z1.out
  have Z1_1 : V2.cell? ⟨w.heap.size + 1 + 1, 1, none⟩ = some (.int .u64 0) := cell_of_row _ _ _ _ _ _ Z1.out
  have Z1_f0 : V2.frozen? ⟨w.heap.size + 1 + 1, 0, none⟩ = false := by simp [World.frozen?, Z1.out]
  have Z1_f1 : V2.frozen? ⟨w.heap.size + 1 + 1, 1, none⟩ = false := by simp [World.frozen?, Z1.out]
  have Q1_0 : V2.cell? ⟨V1.heap.size, 0, none⟩ = some (.int .u64 qh) := cell_of_row _ _ _ _ _ _ Q1.out
  have Q1_1 : V2.cell? ⟨V1.heap.size, 1, none⟩ = some (.int .u64 ql) := cell_of_row _ _ _ _ _ _ Q1.out
  have zX1 := lt_of_heap X1.out
  have zD1 := lt_of_heap D1.out
  have zZ1 := lt_of_heap Z1.out
  have zQ1 := lt_of_heap Q1.out
  go_simp
  go_wp2_with fail
  refine (H3.out _).mono ?_
  rintro e V3 ⟨rfl, hb3⟩
  clear X1_0 X1_1 zX1 D1_0 D1_1 zD1 Z1_0 Z1_1 Z1_f0 Z1_f1 zZ1 Q1_0 Q1_1 zQ1
  have B3 : Hid (Below w.heap.size w V3) := by first | exact Lib.hid ((B2.out).trans (hb3.mono (by have := B2.out.size; first | assumption | (simp <;> omega) | (simp; done)))) | exact Lib.hid (((B2.out).alloc (B2.out.size) _).trans (hb3.mono (by have := B2.out.size; first | assumption | (simp <;> omega) | (simp; done)))) | exact Lib.hid ((((B2.out).alloc (B2.out.size) _).alloc (by have := B2.out.size; simp <;> omega) _).trans (hb3.mono (by have := B2.out.size; first | assumption | (simp <;> omega) | (simp; done)))) | exact Lib.hid (((((B2.out).alloc (B2.out.size) _).alloc (by have := B2.out.size; simp <;> omega) _).alloc (by have := B2.out.size; simp <;> omega) _).trans (hb3.mono (by have := B2.out.size; first | assumption | (simp <;> omega) | (simp; done))))
  first | replace X1 := Lib.hid (row_call hb3 X1.out) | replace X1 := Lib.hid (row_call hb3 (row_alloc X1.out _)) | replace X1 := Lib.hid (row_call hb3 (row_alloc (row_alloc X1.out _) _)) | replace X1 := Lib.hid (row_call hb3 (row_alloc (row_alloc (row_alloc X1.out _) _) _))
  first | replace D1 := Lib.hid (row_call hb3 D1.out) | replace D1 := Lib.hid (row_call hb3 (row_alloc D1.out _)) | replace D1 := Lib.hid (row_call hb3 (row_alloc (row_alloc D1.out _) _)) | replace D1 := Lib.hid (row_call hb3 (row_alloc (row_alloc (row_alloc D1.out _) _) _))
  first | replace Z1 := Lib.hid (row_call hb3 Z1.out) | replace Z1 := Lib.hid (row_call hb3 (row_alloc Z1.out _)) | replace Z1 := Lib.hid (row_call hb3 (row_alloc (row_alloc Z1.out _) _)) | replace Z1 := Lib.hid (row_call hb3 (row_alloc (row_alloc (row_alloc Z1.out _) _) _))
  first | replace Q1 := Lib.hid (row_call hb3 Q1.out) | replace Q1 := Lib.hid (row_call hb3 (row_alloc Q1.out _)) | replace Q1 := Lib.hid (row_call hb3 (row_alloc (row_alloc Q1.out _) _)) | replace Q1 := Lib.hid (row_call hb3 (row_alloc (row_alloc (row_alloc Q1.out _) _) _))
  clear hb3
  have X1_0 : V3.cell? ⟨w.heap.size, 0, none⟩ = some (.int .u64 xh) := cell_of_row _ _ _ _ _ _ X1.out
  have X1_1 : V3.cell? ⟨w.heap.size, 1, none⟩ = some (.int .u64 xl) := cell_of_row _ _ _ _ _ _ X1.out
  have D1_0 : V3.cell? ⟨w.heap.size + 1, 0, none⟩ = some (.int .i64 d) := cell_of_row _ _ _ _ _ _ D1.out
  have D1_1 : V3.cell? ⟨w.heap.size + 1, 1, none⟩ = some (.int .i64 k) := cell_of_row _ _ _ _ _ _ D1.out
  have Z1_0 : V3.cell? ⟨w.heap.size + 1 + 1, 0, none⟩ = some (.int .u64 0) := cell_of_row _ _ _ _ _ _ Z1.out
  have Z1_1 : V3.cell? ⟨w.heap.size + 1 + 1, 1, none⟩ = some (.int .u64 0) := cell_of_row _ _ _ _ _ _ Z1.out
  have Z1_f0 : V3.frozen? ⟨w.heap.size + 1 + 1, 0, none⟩ = false := by simp [World.frozen?, Z1.out]
  have Z1_f1 : V3.frozen? ⟨w.heap.size + 1 + 1, 1, none⟩ = false := by simp [World.frozen?, Z1.out]
  have Q1_0 : V3.cell? ⟨V1.heap.size, 0, none⟩ = some (.int .u64 qh) := cell_of_row _ _ _ _ _ _ Q1.out
  have Q1_1 : V3.cell? ⟨V1.heap.size, 1, none⟩ = some (.int .u64 ql) := cell_of_row _ _ _ _ _ _ Q1.out
  have zX1 := lt_of_heap X1.out
  have zD1 := lt_of_heap D1.out
  have zZ1 := lt_of_heap Z1.out
  have zQ1 := lt_of_heap Q1.out
  go_simp
  go_wp2
  refine shut_ret (v := .tuple #[.agg #[.int .u64 0, .int .u64 0], .int .i64 8]) (by simp [results, Try.results31, go_sem, zZ1, Z1_0, Z1_1]) rfl ⟨rfl, ?_⟩
  exact keep2 B3.out (by omega) _ _
set_option maxHeartbeats 6400000 in
set_option maxRecDepth 100000 in
theorem nanos_ok (xh xl qh ql rh rl : Nat) (d k m a b c E : Int) (w : World) (f1 : (a == 5) = false) (f2 : (b == 5) = false) (f3 : ¬ c ≤ 0) (f4 : (a != 0) = false) (f5 : (b != 0) = false)
    (H1 : Hid (∀ w, Calls Try.prog 38 #[.agg #[.int .i64 d, .int .i64 k]] w fun e w' => e = .returned (.tuple #[.agg #[.int .u64 qh, .int .u64 ql], .int .i64 b]) ∧ Below w.heap.size w w'))
    (H2 : Hid (∀ w, Calls Try.prog 51 #[.agg #[.int .i64 d, .int .i64 k], .agg #[.int .i64 0, .int .i64 0]] w fun e w' => e = .returned (.int .i64 c) ∧ Below w.heap.size w w'))
    (H3 : Hid (∀ w, Calls Try.prog 20 #[.int .i64 m] w fun e w' => e = .returned (.bool true) ∧ Below w.heap.size w w'))
    (H4 : Hid (∀ w, Calls Try.prog 8 #[.agg #[.int .u64 xh, .int .u64 xl], .agg #[.int .u64 qh, .int .u64 ql], .int .i64 m] w fun e w' => e = .returned (.tuple #[.agg #[.int .u64 rh, .int .u64 rl], .int .i64 E]) ∧ Below w.heap.size w w'))
    : Calls Try.prog 31 #[.agg #[.int .u64 xh, .int .u64 xl], .int .i64 a, .agg #[.int .i64 d, .int .i64 k], .int .i64 m] w fun e w' => e = .returned (.tuple #[.agg #[.int .u64 rh, .int .u64 rl], .int .i64 E]) ∧ Below w.heap.size w w' := by
  go_enter Try.func31, Try.ntmps31
  refine wp_shut ?_
  go_wp2_with fail
  
  refine (H1.out _).mono ?_
  rintro e V1 ⟨rfl, hb1⟩
  have B1 := Lib.hid (((((Below.refl w.heap.size w).alloc (Nat.le_refl _) _).alloc (by simp <;> omega) _).alloc (by simp <;> omega) _).trans (hb1.mono (by first | assumption | (simp <;> omega) | (simp; done))))
  have X1 := Lib.hid (row_call hb1 (row_alloc (row_alloc (heap_alloc_new _ _) _) _))
  have D1 := Lib.hid (row_at (k' := w.heap.size + 1) (by simp) (row_call hb1 (row_alloc (heap_alloc_new _ _) _)))
  have Z1 := Lib.hid (row_at (k' := w.heap.size + 1 + 1) (by simp) (row_call hb1 (heap_alloc_new _ _)))
  clear hb1
  have X1_0 : V1.cell? ⟨w.heap.size, 0, none⟩ = some (.int .u64 xh) := cell_of_row _ _ _ _ _ _ X1.out
  have X1_1 : V1.cell? ⟨w.heap.size, 1, none⟩ = some (.int .u64 xl) := cell_of_row _ _ _ _ _ _ X1.out
  have D1_0 : V1.cell? ⟨w.heap.size + 1, 0, none⟩ = some (.int .i64 d) := cell_of_row _ _ _ _ _ _ D1.out
  have D1_1 : V1.cell? ⟨w.heap.size + 1, 1, none⟩ = some (.int .i64 k) := cell_of_row _ _ _ _ _ _ D1.out
  have Z1_0 : V1.cell? ⟨w.heap.size + 1 + 1, 0, none⟩ = some (.int .u64 0) := cell_of_row _ _ _ _ _ _ Z1.out
  have Z1_1 : V1.cell? ⟨w.heap.size + 1 + 1, 1, none⟩ = some (.int .u64 0) := cell_of_row _ _ _ _ _ _ Z1.out
  have Z1_f0 : V1.frozen? ⟨w.heap.size + 1 + 1, 0, none⟩ = false := by simp [World.frozen?, Z1.out]
  have Z1_f1 : V1.frozen? ⟨w.heap.size + 1 + 1, 1, none⟩ = false := by simp [World.frozen?, Z1.out]
  have zX1 := lt_of_heap X1.out
  have zD1 := lt_of_heap D1.out
  have zZ1 := lt_of_heap Z1.out
  go_simp
  go_wp2_with fail
  refine (H2.out _).mono ?_
  rintro e V2 ⟨rfl, hb2⟩
  clear X1_0 X1_1 zX1 D1_0 D1_1 zD1 Z1_0 Z1_1 Z1_f0 Z1_f1 zZ1
  have nX1Q1 := Lib.hid (lt_of_heap X1.out)
  have nD1Q1 := Lib.hid (lt_of_heap D1.out)
  have nZ1Q1 := Lib.hid (lt_of_heap Z1.out)
  have B2 := Lib.hid (((B1.out).alloc (B1.out.size) _).trans (hb2.mono (by have := B1.out.size; first | assumption | (simp <;> omega) | (simp; done))))
  replace X1 := Lib.hid (row_call hb2 (row_alloc X1.out _))
  replace D1 := Lib.hid (row_call hb2 (row_alloc D1.out _))
  replace Z1 := Lib.hid (row_call hb2 (row_alloc Z1.out _))
  have Q1 := Lib.hid (row_call hb2 (heap_alloc_new _ _))
  clear hb2
  have X1_0 : V2.cell? ⟨w.heap.size, 0, none⟩ = some (.int .u64 xh) := cell_of_row _ _ _ _ _ _ X1.out
  have X1_1 : V2.cell? ⟨w.heap.size, 1, none⟩ = some (.int .u64 xl) := cell_of_row _ _ _ _ _ _ X1.out
  have D1_0 : V2.cell? ⟨w.heap.size + 1, 0, none⟩ = some (.int .i64 d) := cell_of_row _ _ _ _ _ _ D1.out
  have D1_1 : V2.cell? ⟨w.heap.size + 1, 1, none⟩ = some (.int .i64 k) := cell_of_row _ _ _ _ _ _ D1.out
  have Z1_0 : V2.cell? ⟨w.heap.size + 1 + 1, 0, none⟩ = some (.int .u64 0) := cell_of_row _ _ _ _ _ _ Z1.out
  have Z1_1 : V2.cell? ⟨w.heap.size + 1 + 1, 1, none⟩ = some (.int .u64 0) := cell_of_row _ _ _ _ _ _ Z1.out
  have Z1_f0 : V2.frozen? ⟨w.heap.size + 1 + 1, 0, none⟩ = false := by simp [World.frozen?, Z1.out]
  have Z1_f1 : V2.frozen? ⟨w.heap.size + 1 + 1, 1, none⟩ = false := by simp [World.frozen?, Z1.out]
  have Q1_0 : V2.cell? ⟨V1.heap.size, 0, none⟩ = some (.int .u64 qh) := cell_of_row _ _ _ _ _ _ Q1.out
  have Q1_1 : V2.cell? ⟨V1.heap.size, 1, none⟩ = some (.int .u64 ql) := cell_of_row _ _ _ _ _ _ Q1.out
  have zX1 := lt_of_heap X1.out
  have zD1 := lt_of_heap D1.out
  have zZ1 := lt_of_heap Z1.out
  have zQ1 := lt_of_heap Q1.out
  go_simp
  go_wp2_with fail
  refine (H3.out _).mono ?_
  rintro e V3 ⟨rfl, hb3⟩
  clear X1_0 X1_1 zX1 D1_0 D1_1 zD1 Z1_0 Z1_1 Z1_f0 Z1_f1 zZ1 Q1_0 Q1_1 zQ1
  have B3 : Hid (Below w.heap.size w V3) := by first | exact Lib.hid ((B2.out).trans (hb3.mono (by have := B2.out.size; first | assumption | (simp <;> omega) | (simp; done)))) | exact Lib.hid (((B2.out).alloc (B2.out.size) _).trans (hb3.mono (by have := B2.out.size; first | assumption | (simp <;> omega) | (simp; done)))) | exact Lib.hid ((((B2.out).alloc (B2.out.size) _).alloc (by have := B2.out.size; simp <;> omega) _).trans (hb3.mono (by have := B2.out.size; first | assumption | (simp <;> omega) | (simp; done)))) | exact Lib.hid (((((B2.out).alloc (B2.out.size) _).alloc (by have := B2.out.size; simp <;> omega) _).alloc (by have := B2.out.size; simp <;> omega) _).trans (hb3.mono (by have := B2.out.size; first | assumption | (simp <;> omega) | (simp; done))))
  first | replace X1 := Lib.hid (row_call hb3 X1.out) | replace X1 := Lib.hid (row_call hb3 (row_alloc X1.out _)) | replace X1 := Lib.hid (row_call hb3 (row_alloc (row_alloc X1.out _) _)) | replace X1 := Lib.hid (row_call hb3 (row_alloc (row_alloc (row_alloc X1.out _) _) _))
  first | replace D1 := Lib.hid (row_call hb3 D1.out) | replace D1 := Lib.hid (row_call hb3 (row_alloc D1.out _)) | replace D1 := Lib.hid (row_call hb3 (row_alloc (row_alloc D1.out _) _)) | replace D1 := Lib.hid (row_call hb3 (row_alloc (row_alloc (row_alloc D1.out _) _) _))
  first | replace Z1 := Lib.hid (row_call hb3 Z1.out) | replace Z1 := Lib.hid (row_call hb3 (row_alloc Z1.out _)) | replace Z1 := Lib.hid (row_call hb3 (row_alloc (row_alloc Z1.out _) _)) | replace Z1 := Lib.hid (row_call hb3 (row_alloc (row_alloc (row_alloc Z1.out _) _) _))
  first | replace Q1 := Lib.hid (row_call hb3 Q1.out) | replace Q1 := Lib.hid (row_call hb3 (row_alloc Q1.out _)) | replace Q1 := Lib.hid (row_call hb3 (row_alloc (row_alloc Q1.out _) _)) | replace Q1 := Lib.hid (row_call hb3 (row_alloc (row_alloc (row_alloc Q1.out _) _) _))
  clear hb3
  have X1_0 : V3.cell? ⟨w.heap.size, 0, none⟩ = some (.int .u64 xh) := cell_of_row _ _ _ _ _ _ X1.out
  have X1_1 : V3.cell? ⟨w.heap.size, 1, none⟩ = some (.int .u64 xl) := cell_of_row _ _ _ _ _ _ X1.out
  have D1_0 : V3.cell? ⟨w.heap.size + 1, 0, none⟩ = some (.int .i64 d) := cell_of_row _ _ _ _ _ _ D1.out
  have D1_1 : V3.cell? ⟨w.heap.size + 1, 1, none⟩ = some (.int .i64 k) := cell_of_row _ _ _ _ _ _ D1.out
  have Z1_0 : V3.cell? ⟨w.heap.size + 1 + 1, 0, none⟩ = some (.int .u64 0) := cell_of_row _ _ _ _ _ _ Z1.out
  have Z1_1 : V3.cell? ⟨w.heap.size + 1 + 1, 1, none⟩ = some (.int .u64 0) := cell_of_row _ _ _ _ _ _ Z1.out
  have Z1_f0 : V3.frozen? ⟨w.heap.size + 1 + 1, 0, none⟩ = false := by simp [World.frozen?, Z1.out]
  have Z1_f1 : V3.frozen? ⟨w.heap.size + 1 + 1, 1, none⟩ = false := by simp [World.frozen?, Z1.out]
  have Q1_0 : V3.cell? ⟨V1.heap.size, 0, none⟩ = some (.int .u64 qh) := cell_of_row _ _ _ _ _ _ Q1.out
  have Q1_1 : V3.cell? ⟨V1.heap.size, 1, none⟩ = some (.int .u64 ql) := cell_of_row _ _ _ _ _ _ Q1.out
  have zX1 := lt_of_heap X1.out
  have zD1 := lt_of_heap D1.out
  have zZ1 := lt_of_heap Z1.out
  have zQ1 := lt_of_heap Q1.out
  go_simp
  go_wp2_with fail
  refine (H4.out _).mono ?_
  rintro e V4 ⟨rfl, hb4⟩
  clear X1_0 X1_1 zX1 D1_0 D1_1 zD1 Z1_0 Z1_1 Z1_f0 Z1_f1 zZ1 Q1_0 Q1_1 zQ1
  have B4 : Hid (Below w.heap.size w V4) := by first | exact Lib.hid ((B3.out).trans (hb4.mono (by have := B3.out.size; first | assumption | (simp <;> omega) | (simp; done)))) | exact Lib.hid (((B3.out).alloc (B3.out.size) _).trans (hb4.mono (by have := B3.out.size; first | assumption | (simp <;> omega) | (simp; done)))) | exact Lib.hid ((((B3.out).alloc (B3.out.size) _).alloc (by have := B3.out.size; simp <;> omega) _).trans (hb4.mono (by have := B3.out.size; first | assumption | (simp <;> omega) | (simp; done)))) | exact Lib.hid (((((B3.out).alloc (B3.out.size) _).alloc (by have := B3.out.size; simp <;> omega) _).alloc (by have := B3.out.size; simp <;> omega) _).trans (hb4.mono (by have := B3.out.size; first | assumption | (simp <;> omega) | (simp; done))))
  first | replace X1 := Lib.hid (row_call hb4 X1.out) | replace X1 := Lib.hid (row_call hb4 (row_alloc X1.out _)) | replace X1 := Lib.hid (row_call hb4 (row_alloc (row_alloc X1.out _) _)) | replace X1 := Lib.hid (row_call hb4 (row_alloc (row_alloc (row_alloc X1.out _) _) _))
  first | replace D1 := Lib.hid (row_call hb4 D1.out) | replace D1 := Lib.hid (row_call hb4 (row_alloc D1.out _)) | replace D1 := Lib.hid (row_call hb4 (row_alloc (row_alloc D1.out _) _)) | replace D1 := Lib.hid (row_call hb4 (row_alloc (row_alloc (row_alloc D1.out _) _) _))
  first | replace Z1 := Lib.hid (row_call hb4 Z1.out) | replace Z1 := Lib.hid (row_call hb4 (row_alloc Z1.out _)) | replace Z1 := Lib.hid (row_call hb4 (row_alloc (row_alloc Z1.out _) _)) | replace Z1 := Lib.hid (row_call hb4 (row_alloc (row_alloc (row_alloc Z1.out _) _) _))
  first | replace Q1 := Lib.hid (row_call hb4 Q1.out) | replace Q1 := Lib.hid (row_call hb4 (row_alloc Q1.out _)) | replace Q1 := Lib.hid (row_call hb4 (row_alloc (row_alloc Q1.out _) _)) | replace Q1 := Lib.hid (row_call hb4 (row_alloc (row_alloc (row_alloc Q1.out _) _) _))
  clear hb4
  have X1_0 : V4.cell? ⟨w.heap.size, 0, none⟩ = some (.int .u64 xh) := cell_of_row _ _ _ _ _ _ X1.out
  have X1_1 : V4.cell? ⟨w.heap.size, 1, none⟩ = some (.int .u64 xl) := cell_of_row _ _ _ _ _ _ X1.out
  have D1_0 : V4.cell? ⟨w.heap.size + 1, 0, none⟩ = some (.int .i64 d) := cell_of_row _ _ _ _ _ _ D1.out
  have D1_1 : V4.cell? ⟨w.heap.size + 1, 1, none⟩ = some (.int .i64 k) := cell_of_row _ _ _ _ _ _ D1.out
  have Z1_0 : V4.cell? ⟨w.heap.size + 1 + 1, 0, none⟩ = some (.int .u64 0) := cell_of_row _ _ _ _ _ _ Z1.out
  have Z1_1 : V4.cell? ⟨w.heap.size + 1 + 1, 1, none⟩ = some (.int .u64 0) := cell_of_row _ _ _ _ _ _ Z1.out
  have Z1_f0 : V4.frozen? ⟨w.heap.size + 1 + 1, 0, none⟩ = false := by simp [World.frozen?, Z1.out]
  have Z1_f1 : V4.frozen? ⟨w.heap.size + 1 + 1, 1, none⟩ = false := by simp [World.frozen?, Z1.out]
  have Q1_0 : V4.cell? ⟨V1.heap.size, 0, none⟩ = some (.int .u64 qh) := cell_of_row _ _ _ _ _ _ Q1.out
  have Q1_1 : V4.cell? ⟨V1.heap.size, 1, none⟩ = some (.int .u64 ql) := cell_of_row _ _ _ _ _ _ Q1.out
  have zX1 := lt_of_heap X1.out
  have zD1 := lt_of_heap D1.out
  have zZ1 := lt_of_heap Z1.out
  have zQ1 := lt_of_heap Q1.out
  go_simp
  go_wp2
  refine shut_ret (v := .tuple #[.agg #[.int .u64 rh, .int .u64 rl], .int .i64 E]) (by simp [results, Try.results31, go_sem, zZ1, Z1_0, Z1_1]) rfl ⟨rfl, ?_⟩
  exact keep2 B4.out (by omega) _ _
/-- a number of nanoseconds, rounded, with an error ahead. -/
@[irreducible] def nrV (F x y m : Int) : Int := if F = 0 then rwV x y m else 0
theorem ord2_le (d k : Int) : ord2 d k 0 0 ≤ 0 ↔ (d < 0 ∨ (d = 0 ∧ k ≤ 0)) := by
  unfold ord2 ordI; repeat' split
  all_goals omega
theorem ckD_low {d k : Int} (h : k < 0) : ckD d k = 5 := ckD_wm (wmB_low h)
theorem fsI_cases {a b : Int} (ha : a = 0 ∨ a = 5 ∨ a = 8) (hb : b = 0 ∨ b = 5 ∨ b = 8) : fsI a b = if a = 5 ∨ b = 5 then 5 else if a = 8 ∨ b = 8 then 8 else 0 := by
  rcases ha with rfl | rfl | rfl <;> rcases hb with rfl | rfl | rfl <;> unfold fsI <;> decide
theorem agE_three (d k m : Int) : agE d k m = 0 ∨ agE d k m = 5 ∨ agE d k m = 8 := by
  by_cases h : d < 0 ∨ (d = 0 ∧ k = 0) ∨ m < 0 ∨ 8 < m
  · rw [agE_bad h]; omega
  · rw [agE_ok h]; exact ckD_three d k
theorem rnanos_any (x : Int) (a d k m : Int) (bx : in128 x) (ha : a = 0 ∨ a = 5 ∨ a = 8) (hx : a = 0 → -1099511627776000000000 ≤ x ∧ x ≤ 1099511627776000000000) (w : World) :
    Calls Try.prog 31 #[.agg #[.int .u64 (zh x), .int .u64 (zl x)], .int .i64 a, .agg #[.int .i64 d, .int .i64 k], .int .i64 m] w fun e w' => e = .returned (.tuple #[.agg #[.int .u64 (zh (nrV (fsI a (agE d k m)) x (nanos d k) m)), .int .u64 (zl (nrV (fsI a (agE d k m)) x (nanos d k) m))], .int .i64 (fsI a (agE d k m))]) ∧ Below w.heap.size w w' := by
  have H1 := Lib.hid (dNanos_any d k)
  have H2 := Lib.hid (dCmp_any d k 0 0)
  have X3 := known_any m
  have L := ord2_le d k
  have hb := ckD_three d k
  have hF := fsI_cases ha (agE_three d k m)
  have five : fsI a (agE d k m) = 5 → zh (nrV (fsI a (agE d k m)) x (nanos d k) m) = 0 ∧ zl (nrV (fsI a (agE d k m)) x (nanos d k) m) = 0 := fun h => by
    unfold nrV; rw [if_neg (by omega)]; exact ⟨zh_zero, zl_zero⟩
  have eight : fsI a (agE d k m) = 8 → zh (nrV (fsI a (agE d k m)) x (nanos d k) m) = 0 ∧ zl (nrV (fsI a (agE d k m)) x (nanos d k) m) = 0 := fun h => by
    unfold nrV; rw [if_neg (by omega)]; exact ⟨zh_zero, zl_zero⟩
  by_cases h1 : a = 5
  · have e5 : fsI a (agE d k m) = 5 := by rw [hF, if_pos (Or.inl h1)]
    rw [(five e5).1, (five e5).2, e5]
    exact nanos_5a _ _ _ _ 0 0 d k m a _ 0 0 w (by rw [h1]; rfl) H1
  · have f1 : (a == 5) = false := by rw [beq_eq_false_iff_ne]; exact h1
    by_cases h2 : ckD d k = 5
    · have ea : agE d k m = 5 := by
        by_cases h : d < 0 ∨ (d = 0 ∧ k = 0) ∨ m < 0 ∨ 8 < m
        · exact agE_bad h
        · rw [agE_ok h]; exact h2
      have e5 : fsI a (agE d k m) = 5 := by rw [hF, if_pos (Or.inr ea)]
      rw [(five e5).1, (five e5).2, e5]
      exact nanos_5b _ _ _ _ 0 0 d k m a _ 0 0 w f1 (by rw [h2]; rfl) H1
    · have f2 : (ckD d k == 5) = false := by rw [beq_eq_false_iff_ne]; exact h2
      have hk : ¬ k < 0 := fun h => h2 (ckD_low h)
      by_cases h3 : ord2 d k 0 0 ≤ 0
      · have h4 := L.mp h3
        have ea : agE d k m = 5 := agE_bad (by omega)
        have e5 : fsI a (agE d k m) = 5 := by rw [hF, if_pos (Or.inr ea)]
        rw [(five e5).1, (five e5).2, e5]
        exact nanos_5c _ _ _ _ 0 0 d k m a _ _ 0 w f1 f2 h3 H1 H2
      · have h4 : ¬ (d < 0 ∨ (d = 0 ∧ k ≤ 0)) := fun h => h3 (L.mpr h)
        by_cases h5 : 0 ≤ m ∧ m ≤ 8
        · rw [knB_of h5] at X3
          have ea : agE d k m = ckD d k := agE_ok (by omega)
          by_cases h6 : a = 0
          · have f4 : (a != 0) = false := by rw [h6]; rfl
            by_cases h7 : ckD d k = 0
            · have e0 : fsI a (agE d k m) = 0 := by rw [hF, ea, if_neg (by omega), if_neg (by omega)]
              have f5 : (ckD d k != 0) = false := by rw [h7]; rfl
              have ha2 : agE d k m = 0 := by rw [ea, h7]
              obtain ⟨b1, b2⟩ := rw_units (hx h6) ha2
              obtain ⟨j1, j2, j3⟩ := cd_nanos h7
              have X4 := roundWide_any x (nanos d k) m bx (nanos_in j1 j2)
              rw [(rw_ok b1).2] at X4
              rw [show nnD d k = nanos d k from if_pos h7] at H1
              rw [e0]
              have en : nrV 0 x (nanos d k) m = rwV x (nanos d k) m := by unfold nrV; exact if_pos rfl
              rw [en]
              exact nanos_ok _ _ _ _ _ _ d k m a _ _ 0 w f1 f2 h3 f4 f5 H1 H2 (Lib.hid X3) (Lib.hid X4)
            · have f5 : (ckD d k != 0) = true := by rw [bne_iff_ne]; exact h7
              have e8 : fsI a (agE d k m) = 8 := by rw [hF, ea, if_neg (by omega), if_pos (by omega)]
              rw [(eight e8).1, (eight e8).2, e8]
              exact nanos_8b _ _ _ _ 0 0 d k m a _ _ 0 w f1 f2 h3 f4 f5 H1 H2 (Lib.hid X3)
          · have f4 : (a != 0) = true := by rw [bne_iff_ne]; exact h6
            have e8 : fsI a (agE d k m) = 8 := by rw [hF, ea, if_neg (by omega), if_pos (by omega)]
            rw [(eight e8).1, (eight e8).2, e8]
            exact nanos_8a _ _ _ _ 0 0 d k m a _ _ 0 w f1 f2 h3 f4 H1 H2 (Lib.hid X3)
        · rw [knB_not h5] at X3
          have ea : agE d k m = 5 := agE_bad (by omega)
          have e5 : fsI a (agE d k m) = 5 := by rw [hF, if_pos (Or.inr ea)]
          rw [(five e5).1, (five e5).2, e5]
          exact nanos_5d _ _ _ _ 0 0 d k m a _ _ 0 w f1 f2 h3 H1 H2 (Lib.hid X3)
theorem dNanos_in (s n : Int) (_ : in64 s) (_ : in64 n) (w : World) :
    Calls Try.prog 38 #[.agg #[.int .i64 s, .int .i64 n]] w fun e w' => e = .returned (.tuple #[.agg #[.int .u64 (zh (nnD s n)), .int .u64 (zl (nnD s n))], .int .i64 (ckD s n)]) ∧ Below w.heap.size w w' := dNanos_any s n w
set_option maxHeartbeats 16000000 in
set_option maxRecDepth 100000 in
theorem iRound_any (s n d k m : Int) (bs : in64 s) (bn : in64 n) (w : World) :
    Calls Try.prog 11 #[.agg #[.int .i64 s, .int .i64 n], .agg #[.int .i64 d, .int .i64 k], .int .i64 m] w fun e w' => e = .returned (.tuple #[.agg #[.int .i64 (tpS (fsI (ckI s n) (agE d k m)) (rwV (nanos s n) (nanos d k) m)), .int .i64 (tpN (fsI (ckI s n) (agE d k m)) (rwV (nanos s n) (nanos d k) m))], .int .i64 (tpE (fsI (ckI s n) (agE d k m)) (rwV (nanos s n) (nanos d k) m))]) ∧ Below w.heap.size w w' := by
  have X1 := nanos_any s n bs bn
  have bX : in128 (nnI s n) := by
    unfold nnI
    split
    · exact nanos_in bs bn
    · unfold in128; omega
  have X2 := rnanos_any (nnI s n) (ckI s n) d k m bX (ckI_three s n) (fun h => by
    rw [show nnI s n = nanos s n from if_pos h]; exact (ci_nanos h).2.2)
  by_cases hc : fsI (ckI s n) (agE d k m) = 0
  · obtain ⟨c1, c2⟩ := fs_zero hc
    obtain ⟨i1, i2, i3⟩ := ci_nanos c1
    obtain ⟨b1, b2⟩ := rw_units i3 c2
    obtain ⟨u1, u2, u3⟩ := tp_ok (T := rwV (nanos s n) (nanos d k) m) hc
    rw [u1, u2, u3]
    rw [hc, show nrV 0 (nnI s n) (nanos d k) m = rwV (nanos s n) (nanos d k) m by unfold nrV; rw [if_pos rfl, show nnI s n = nanos s n from if_pos c1]] at X2
    have H1 := Lib.hid X1
    have H2 := Lib.hid X2
    have H3 := Lib.hid (ofNanos_any (rwV (nanos s n) (nanos d k) m) b2)
    clear X1 X2 u1 u2 u3 hc c1 c2 i1 i2 i3 b1 b2 bX bs bn
    generalize rwV (nanos s n) (nanos d k) m = T at *
    generalize nnI s n = P at *
    generalize tkS (-377705116800) 253402300799 T = S at *
    generalize tkN (-377705116800) 253402300799 T = N at *
    generalize tkE (-377705116800) 253402300799 T = E at *
    generalize ckI s n = c1 at *
    go_enter Try.func11, Try.ntmps11
    refine wp_shut ?_
    go_wp2_with fail
    
    refine (H1.out _).mono ?_
    rintro e V1 ⟨rfl, hb1⟩
    have B1 := Lib.hid (((((Below.refl w.heap.size w).alloc (Nat.le_refl _) _).alloc (by simp <;> omega) _).alloc (by simp <;> omega) _).trans (hb1.mono (by first | assumption | (simp <;> omega) | (simp; done))))
    have A1 := Lib.hid (row_call hb1 (row_alloc (row_alloc (heap_alloc_new _ _) _) _))
    have D1 := Lib.hid (row_at (k' := w.heap.size + 1) (by simp) (row_call hb1 (row_alloc (heap_alloc_new _ _) _)))
    have Z1 := Lib.hid (row_at (k' := w.heap.size + 1 + 1) (by simp) (row_call hb1 (heap_alloc_new _ _)))
    clear hb1
    have A1_0 : V1.cell? ⟨w.heap.size, 0, none⟩ = some (.int .i64 s) := cell_of_row _ _ _ _ _ _ A1.out
    have A1_1 : V1.cell? ⟨w.heap.size, 1, none⟩ = some (.int .i64 n) := cell_of_row _ _ _ _ _ _ A1.out
    have D1_0 : V1.cell? ⟨w.heap.size + 1, 0, none⟩ = some (.int .i64 d) := cell_of_row _ _ _ _ _ _ D1.out
    have D1_1 : V1.cell? ⟨w.heap.size + 1, 1, none⟩ = some (.int .i64 k) := cell_of_row _ _ _ _ _ _ D1.out
    have Z1_0 : V1.cell? ⟨w.heap.size + 1 + 1, 0, none⟩ = some (.int .i64 0) := cell_of_row _ _ _ _ _ _ Z1.out
    have Z1_1 : V1.cell? ⟨w.heap.size + 1 + 1, 1, none⟩ = some (.int .i64 0) := cell_of_row _ _ _ _ _ _ Z1.out
    have Z1_f0 : V1.frozen? ⟨w.heap.size + 1 + 1, 0, none⟩ = false := by simp [World.frozen?, Z1.out]
    have Z1_f1 : V1.frozen? ⟨w.heap.size + 1 + 1, 1, none⟩ = false := by simp [World.frozen?, Z1.out]
    have zA1 := lt_of_heap A1.out
    have zD1 := lt_of_heap D1.out
    have zZ1 := lt_of_heap Z1.out
    go_simp
    go_wp2_with fail
    refine (H2.out _).mono ?_
    rintro e V2 ⟨rfl, hb2⟩
    clear A1_0 A1_1 zA1 D1_0 D1_1 zD1 Z1_0 Z1_1 Z1_f0 Z1_f1 zZ1
    have nA1N1 := Lib.hid (lt_of_heap A1.out)
    have nD1N1 := Lib.hid (lt_of_heap D1.out)
    have nZ1N1 := Lib.hid (lt_of_heap Z1.out)
    have nlZ1N1 : ¬ (w.heap.size + 1 + 1 = V1.heap.size) := Nat.ne_of_lt (lt_of_heap Z1.out)
    have nrZ1N1 : ¬ (V1.heap.size = w.heap.size + 1 + 1) := Ne.symm (Nat.ne_of_lt (lt_of_heap Z1.out))
    have B2 := Lib.hid (((B1.out).alloc (B1.out.size) _).trans (hb2.mono (by have := B1.out.size; first | assumption | (simp <;> omega) | (simp; done))))
    replace A1 := Lib.hid (row_call hb2 (row_alloc A1.out _))
    replace D1 := Lib.hid (row_call hb2 (row_alloc D1.out _))
    replace Z1 := Lib.hid (row_call hb2 (row_alloc Z1.out _))
    have N1 := Lib.hid (row_call hb2 (heap_alloc_new _ _))
    clear hb2
    have A1_0 : V2.cell? ⟨w.heap.size, 0, none⟩ = some (.int .i64 s) := cell_of_row _ _ _ _ _ _ A1.out
    have A1_1 : V2.cell? ⟨w.heap.size, 1, none⟩ = some (.int .i64 n) := cell_of_row _ _ _ _ _ _ A1.out
    have D1_0 : V2.cell? ⟨w.heap.size + 1, 0, none⟩ = some (.int .i64 d) := cell_of_row _ _ _ _ _ _ D1.out
    have D1_1 : V2.cell? ⟨w.heap.size + 1, 1, none⟩ = some (.int .i64 k) := cell_of_row _ _ _ _ _ _ D1.out
    have Z1_0 : V2.cell? ⟨w.heap.size + 1 + 1, 0, none⟩ = some (.int .i64 0) := cell_of_row _ _ _ _ _ _ Z1.out
    have Z1_1 : V2.cell? ⟨w.heap.size + 1 + 1, 1, none⟩ = some (.int .i64 0) := cell_of_row _ _ _ _ _ _ Z1.out
    have Z1_f0 : V2.frozen? ⟨w.heap.size + 1 + 1, 0, none⟩ = false := by simp [World.frozen?, Z1.out]
    have Z1_f1 : V2.frozen? ⟨w.heap.size + 1 + 1, 1, none⟩ = false := by simp [World.frozen?, Z1.out]
    have N1_0 : V2.cell? ⟨V1.heap.size, 0, none⟩ = some (.int .u64 (zh P)) := cell_of_row _ _ _ _ _ _ N1.out
    have N1_1 : V2.cell? ⟨V1.heap.size, 1, none⟩ = some (.int .u64 (zl P)) := cell_of_row _ _ _ _ _ _ N1.out
    have N1_f0 : V2.frozen? ⟨V1.heap.size, 0, none⟩ = false := by simp [World.frozen?, N1.out]
    have N1_f1 : V2.frozen? ⟨V1.heap.size, 1, none⟩ = false := by simp [World.frozen?, N1.out]
    have zA1 := lt_of_heap A1.out
    have zD1 := lt_of_heap D1.out
    have zZ1 := lt_of_heap Z1.out
    have zN1 := lt_of_heap N1.out
    go_simp
    go_wp2_with fail
    refine (H3.out _).mono ?_
    rintro e V3 ⟨rfl, hb3⟩
    clear A1_0 A1_1 zA1 D1_0 D1_1 zD1 Z1_0 Z1_1 Z1_f0 Z1_f1 zZ1 N1_0 N1_1 N1_f0 N1_f1 zN1
    have B3 : Hid (Below w.heap.size w V3) := by first | exact Lib.hid ((keep2 (B2.out) (by have := B1.out.size; omega) _ _).trans (hb3.mono (by have := B2.out.size; first | assumption | (simp <;> omega) | (simp; done)))) | exact Lib.hid (((keep2 (B2.out) (by have := B1.out.size; omega) _ _).alloc (B2.out.size) _).trans (hb3.mono (by have := B2.out.size; first | assumption | (simp <;> omega) | (simp; done)))) | exact Lib.hid ((((keep2 (B2.out) (by have := B1.out.size; omega) _ _).alloc (B2.out.size) _).alloc (by have := B2.out.size; simp <;> omega) _).trans (hb3.mono (by have := B2.out.size; first | assumption | (simp <;> omega) | (simp; done)))) | exact Lib.hid (((((keep2 (B2.out) (by have := B1.out.size; omega) _ _).alloc (B2.out.size) _).alloc (by have := B2.out.size; simp <;> omega) _).alloc (by have := B2.out.size; simp <;> omega) _).trans (hb3.mono (by have := B2.out.size; first | assumption | (simp <;> omega) | (simp; done))))
    first | replace A1 := Lib.hid (row_call hb3 (row_other (by have := nA1N1.out; omega) A1.out _ _)) | replace A1 := Lib.hid (row_call hb3 (row_alloc (row_other (by have := nA1N1.out; omega) A1.out _ _) _)) | replace A1 := Lib.hid (row_call hb3 (row_alloc (row_alloc (row_other (by have := nA1N1.out; omega) A1.out _ _) _) _)) | replace A1 := Lib.hid (row_call hb3 (row_alloc (row_alloc (row_alloc (row_other (by have := nA1N1.out; omega) A1.out _ _) _) _) _))
    first | replace D1 := Lib.hid (row_call hb3 (row_other (by have := nD1N1.out; omega) D1.out _ _)) | replace D1 := Lib.hid (row_call hb3 (row_alloc (row_other (by have := nD1N1.out; omega) D1.out _ _) _)) | replace D1 := Lib.hid (row_call hb3 (row_alloc (row_alloc (row_other (by have := nD1N1.out; omega) D1.out _ _) _) _)) | replace D1 := Lib.hid (row_call hb3 (row_alloc (row_alloc (row_alloc (row_other (by have := nD1N1.out; omega) D1.out _ _) _) _) _))
    first | replace Z1 := Lib.hid (row_call hb3 (row_other (by have := nZ1N1.out; omega) Z1.out _ _)) | replace Z1 := Lib.hid (row_call hb3 (row_alloc (row_other (by have := nZ1N1.out; omega) Z1.out _ _) _)) | replace Z1 := Lib.hid (row_call hb3 (row_alloc (row_alloc (row_other (by have := nZ1N1.out; omega) Z1.out _ _) _) _)) | replace Z1 := Lib.hid (row_call hb3 (row_alloc (row_alloc (row_alloc (row_other (by have := nZ1N1.out; omega) Z1.out _ _) _) _) _))
    first | replace N1 := Lib.hid (row_call hb3 (row_set N1.out _ _)) | replace N1 := Lib.hid (row_call hb3 (row_alloc (row_set N1.out _ _) _)) | replace N1 := Lib.hid (row_call hb3 (row_alloc (row_alloc (row_set N1.out _ _) _) _)) | replace N1 := Lib.hid (row_call hb3 (row_alloc (row_alloc (row_alloc (row_set N1.out _ _) _) _) _))
    clear hb3
    have A1_0 : V3.cell? ⟨w.heap.size, 0, none⟩ = some (.int .i64 s) := cell_of_row _ _ _ _ _ _ A1.out
    have A1_1 : V3.cell? ⟨w.heap.size, 1, none⟩ = some (.int .i64 n) := cell_of_row _ _ _ _ _ _ A1.out
    have D1_0 : V3.cell? ⟨w.heap.size + 1, 0, none⟩ = some (.int .i64 d) := cell_of_row _ _ _ _ _ _ D1.out
    have D1_1 : V3.cell? ⟨w.heap.size + 1, 1, none⟩ = some (.int .i64 k) := cell_of_row _ _ _ _ _ _ D1.out
    have Z1_0 : V3.cell? ⟨w.heap.size + 1 + 1, 0, none⟩ = some (.int .i64 0) := cell_of_row _ _ _ _ _ _ Z1.out
    have Z1_1 : V3.cell? ⟨w.heap.size + 1 + 1, 1, none⟩ = some (.int .i64 0) := cell_of_row _ _ _ _ _ _ Z1.out
    have Z1_f0 : V3.frozen? ⟨w.heap.size + 1 + 1, 0, none⟩ = false := by simp [World.frozen?, Z1.out]
    have Z1_f1 : V3.frozen? ⟨w.heap.size + 1 + 1, 1, none⟩ = false := by simp [World.frozen?, Z1.out]
    have N1_0 : V3.cell? ⟨V1.heap.size, 0, none⟩ = some (.int .u64 (zh T)) := cell_of_row _ _ _ _ _ _ N1.out
    have N1_1 : V3.cell? ⟨V1.heap.size, 1, none⟩ = some (.int .u64 (zl T)) := cell_of_row _ _ _ _ _ _ N1.out
    have N1_f0 : V3.frozen? ⟨V1.heap.size, 0, none⟩ = false := by simp [World.frozen?, N1.out]
    have N1_f1 : V3.frozen? ⟨V1.heap.size, 1, none⟩ = false := by simp [World.frozen?, N1.out]
    have zA1 := lt_of_heap A1.out
    have zD1 := lt_of_heap D1.out
    have zZ1 := lt_of_heap Z1.out
    have zN1 := lt_of_heap N1.out
    go_simp
    go_wp2
    refine shut_ret (v := .tuple #[.agg #[.int .i64 S, .int .i64 N], .int .i64 E]) (by simp [results, Try.results11, go_sem, zZ1, Z1_0, Z1_1]) rfl ⟨rfl, ?_⟩
    exact keep2 B3.out (by omega) _ _
  · obtain ⟨u1, u2, u3⟩ := tp_no (T := rwV (nanos s n) (nanos d k) m) hc
    rw [u1, u2, u3]
    have H1 := Lib.hid X1
    have H2 := Lib.hid X2
    clear X1 X2 u1 u2 u3 bX bs bn
    generalize nrV (fsI (ckI s n) (agE d k m)) (nnI s n) (nanos d k) m = T at *
    generalize fsI (ckI s n) (agE d k m) = E at *
    generalize nnI s n = P at *
    generalize ckI s n = c1 at *
    have f1 : (E != 0) = true := by rw [bne_iff_ne]; exact hc
    go_enter Try.func11, Try.ntmps11
    refine wp_shut ?_
    go_wp2_with fail
    
    refine (H1.out _).mono ?_
    rintro e V1 ⟨rfl, hb1⟩
    have B1 := Lib.hid (((((Below.refl w.heap.size w).alloc (Nat.le_refl _) _).alloc (by simp <;> omega) _).alloc (by simp <;> omega) _).trans (hb1.mono (by first | assumption | (simp <;> omega) | (simp; done))))
    have A1 := Lib.hid (row_call hb1 (row_alloc (row_alloc (heap_alloc_new _ _) _) _))
    have D1 := Lib.hid (row_at (k' := w.heap.size + 1) (by simp) (row_call hb1 (row_alloc (heap_alloc_new _ _) _)))
    have Z1 := Lib.hid (row_at (k' := w.heap.size + 1 + 1) (by simp) (row_call hb1 (heap_alloc_new _ _)))
    clear hb1
    have A1_0 : V1.cell? ⟨w.heap.size, 0, none⟩ = some (.int .i64 s) := cell_of_row _ _ _ _ _ _ A1.out
    have A1_1 : V1.cell? ⟨w.heap.size, 1, none⟩ = some (.int .i64 n) := cell_of_row _ _ _ _ _ _ A1.out
    have D1_0 : V1.cell? ⟨w.heap.size + 1, 0, none⟩ = some (.int .i64 d) := cell_of_row _ _ _ _ _ _ D1.out
    have D1_1 : V1.cell? ⟨w.heap.size + 1, 1, none⟩ = some (.int .i64 k) := cell_of_row _ _ _ _ _ _ D1.out
    have Z1_0 : V1.cell? ⟨w.heap.size + 1 + 1, 0, none⟩ = some (.int .i64 0) := cell_of_row _ _ _ _ _ _ Z1.out
    have Z1_1 : V1.cell? ⟨w.heap.size + 1 + 1, 1, none⟩ = some (.int .i64 0) := cell_of_row _ _ _ _ _ _ Z1.out
    have Z1_f0 : V1.frozen? ⟨w.heap.size + 1 + 1, 0, none⟩ = false := by simp [World.frozen?, Z1.out]
    have Z1_f1 : V1.frozen? ⟨w.heap.size + 1 + 1, 1, none⟩ = false := by simp [World.frozen?, Z1.out]
    have zA1 := lt_of_heap A1.out
    have zD1 := lt_of_heap D1.out
    have zZ1 := lt_of_heap Z1.out
    go_simp
    go_wp2_with fail
    refine (H2.out _).mono ?_
    rintro e V2 ⟨rfl, hb2⟩
    clear A1_0 A1_1 zA1 D1_0 D1_1 zD1 Z1_0 Z1_1 Z1_f0 Z1_f1 zZ1
    have nA1N1 := Lib.hid (lt_of_heap A1.out)
    have nD1N1 := Lib.hid (lt_of_heap D1.out)
    have nZ1N1 := Lib.hid (lt_of_heap Z1.out)
    have nlZ1N1 : ¬ (w.heap.size + 1 + 1 = V1.heap.size) := Nat.ne_of_lt (lt_of_heap Z1.out)
    have nrZ1N1 : ¬ (V1.heap.size = w.heap.size + 1 + 1) := Ne.symm (Nat.ne_of_lt (lt_of_heap Z1.out))
    have B2 := Lib.hid (((B1.out).alloc (B1.out.size) _).trans (hb2.mono (by have := B1.out.size; first | assumption | (simp <;> omega) | (simp; done))))
    replace A1 := Lib.hid (row_call hb2 (row_alloc A1.out _))
    replace D1 := Lib.hid (row_call hb2 (row_alloc D1.out _))
    replace Z1 := Lib.hid (row_call hb2 (row_alloc Z1.out _))
    have N1 := Lib.hid (row_call hb2 (heap_alloc_new _ _))
    clear hb2
    have A1_0 : V2.cell? ⟨w.heap.size, 0, none⟩ = some (.int .i64 s) := cell_of_row _ _ _ _ _ _ A1.out
    have A1_1 : V2.cell? ⟨w.heap.size, 1, none⟩ = some (.int .i64 n) := cell_of_row _ _ _ _ _ _ A1.out
    have D1_0 : V2.cell? ⟨w.heap.size + 1, 0, none⟩ = some (.int .i64 d) := cell_of_row _ _ _ _ _ _ D1.out
    have D1_1 : V2.cell? ⟨w.heap.size + 1, 1, none⟩ = some (.int .i64 k) := cell_of_row _ _ _ _ _ _ D1.out
    have Z1_0 : V2.cell? ⟨w.heap.size + 1 + 1, 0, none⟩ = some (.int .i64 0) := cell_of_row _ _ _ _ _ _ Z1.out
    have Z1_1 : V2.cell? ⟨w.heap.size + 1 + 1, 1, none⟩ = some (.int .i64 0) := cell_of_row _ _ _ _ _ _ Z1.out
    have Z1_f0 : V2.frozen? ⟨w.heap.size + 1 + 1, 0, none⟩ = false := by simp [World.frozen?, Z1.out]
    have Z1_f1 : V2.frozen? ⟨w.heap.size + 1 + 1, 1, none⟩ = false := by simp [World.frozen?, Z1.out]
    have N1_0 : V2.cell? ⟨V1.heap.size, 0, none⟩ = some (.int .u64 (zh P)) := cell_of_row _ _ _ _ _ _ N1.out
    have N1_1 : V2.cell? ⟨V1.heap.size, 1, none⟩ = some (.int .u64 (zl P)) := cell_of_row _ _ _ _ _ _ N1.out
    have N1_f0 : V2.frozen? ⟨V1.heap.size, 0, none⟩ = false := by simp [World.frozen?, N1.out]
    have N1_f1 : V2.frozen? ⟨V1.heap.size, 1, none⟩ = false := by simp [World.frozen?, N1.out]
    have zA1 := lt_of_heap A1.out
    have zD1 := lt_of_heap D1.out
    have zZ1 := lt_of_heap Z1.out
    have zN1 := lt_of_heap N1.out
    go_simp
    go_wp2
    refine shut_ret (v := .tuple #[.agg #[.int .i64 0, .int .i64 0], .int .i64 E]) (by simp [results, Try.results11, go_sem, zZ1, Z1_0, Z1_1]) rfl ⟨rfl, ?_⟩
    exact keep2 (keep2 B2.out (by have := B1.out.size; omega) _ _) (by have := B1.out.size; omega) _ _
set_option maxHeartbeats 16000000 in
set_option maxRecDepth 100000 in
theorem dRound_any (s n d k m : Int) (bs : in64 s) (bn : in64 n) (w : World) :
    Calls Try.prog 13 #[.agg #[.int .i64 s, .int .i64 n], .agg #[.int .i64 d, .int .i64 k], .int .i64 m] w fun e w' => e = .returned (.tuple #[.agg #[.int .i64 (dpS (fsI (ckD s n) (agE d k m)) (rwV (nanos s n) (nanos d k) m)), .int .i64 (dpN (fsI (ckD s n) (agE d k m)) (rwV (nanos s n) (nanos d k) m))], .int .i64 (dpE (fsI (ckD s n) (agE d k m)) (rwV (nanos s n) (nanos d k) m))]) ∧ Below w.heap.size w w' := by
  have X1 := dNanos_in s n bs bn
  have bX : in128 (nnD s n) := by
    unfold nnD
    split
    · exact nanos_in bs bn
    · unfold in128; omega
  have X2 := rnanos_any (nnD s n) (ckD s n) d k m bX (ckD_three s n) (fun h => by
    rw [show nnD s n = nanos s n from if_pos h]; exact (cd_nanos h).2.2)
  by_cases hc : fsI (ckD s n) (agE d k m) = 0
  · obtain ⟨c1, c2⟩ := fs_zero hc
    obtain ⟨i1, i2, i3⟩ := cd_nanos c1
    obtain ⟨b1, b2⟩ := rw_units i3 c2
    obtain ⟨u1, u2, u3⟩ := pp_ok (T := rwV (nanos s n) (nanos d k) m) hc
    rw [u1, u2, u3]
    rw [hc, show nrV 0 (nnD s n) (nanos d k) m = rwV (nanos s n) (nanos d k) m by unfold nrV; rw [if_pos rfl, show nnD s n = nanos s n from if_pos c1]] at X2
    have H1 := Lib.hid X1
    have H2 := Lib.hid X2
    have H3 := Lib.hid (dOfNanos_any (rwV (nanos s n) (nanos d k) m) b2)
    clear X1 X2 u1 u2 u3 hc c1 c2 i1 i2 i3 b1 b2 bX bs bn
    generalize rwV (nanos s n) (nanos d k) m = T at *
    generalize nnD s n = P at *
    generalize duS T = S at *
    generalize duN T = N at *
    generalize duE T = E at *
    generalize ckD s n = c1 at *
    go_enter Try.func13, Try.ntmps13
    refine wp_shut ?_
    go_wp2_with fail
    
    refine (H1.out _).mono ?_
    rintro e V1 ⟨rfl, hb1⟩
    have B1 := Lib.hid (((((Below.refl w.heap.size w).alloc (Nat.le_refl _) _).alloc (by simp <;> omega) _).alloc (by simp <;> omega) _).trans (hb1.mono (by first | assumption | (simp <;> omega) | (simp; done))))
    have A1 := Lib.hid (row_call hb1 (row_alloc (row_alloc (heap_alloc_new _ _) _) _))
    have D1 := Lib.hid (row_at (k' := w.heap.size + 1) (by simp) (row_call hb1 (row_alloc (heap_alloc_new _ _) _)))
    have Z1 := Lib.hid (row_at (k' := w.heap.size + 1 + 1) (by simp) (row_call hb1 (heap_alloc_new _ _)))
    clear hb1
    have A1_0 : V1.cell? ⟨w.heap.size, 0, none⟩ = some (.int .i64 s) := cell_of_row _ _ _ _ _ _ A1.out
    have A1_1 : V1.cell? ⟨w.heap.size, 1, none⟩ = some (.int .i64 n) := cell_of_row _ _ _ _ _ _ A1.out
    have D1_0 : V1.cell? ⟨w.heap.size + 1, 0, none⟩ = some (.int .i64 d) := cell_of_row _ _ _ _ _ _ D1.out
    have D1_1 : V1.cell? ⟨w.heap.size + 1, 1, none⟩ = some (.int .i64 k) := cell_of_row _ _ _ _ _ _ D1.out
    have Z1_0 : V1.cell? ⟨w.heap.size + 1 + 1, 0, none⟩ = some (.int .i64 0) := cell_of_row _ _ _ _ _ _ Z1.out
    have Z1_1 : V1.cell? ⟨w.heap.size + 1 + 1, 1, none⟩ = some (.int .i64 0) := cell_of_row _ _ _ _ _ _ Z1.out
    have Z1_f0 : V1.frozen? ⟨w.heap.size + 1 + 1, 0, none⟩ = false := by simp [World.frozen?, Z1.out]
    have Z1_f1 : V1.frozen? ⟨w.heap.size + 1 + 1, 1, none⟩ = false := by simp [World.frozen?, Z1.out]
    have zA1 := lt_of_heap A1.out
    have zD1 := lt_of_heap D1.out
    have zZ1 := lt_of_heap Z1.out
    go_simp
    go_wp2_with fail
    refine (H2.out _).mono ?_
    rintro e V2 ⟨rfl, hb2⟩
    clear A1_0 A1_1 zA1 D1_0 D1_1 zD1 Z1_0 Z1_1 Z1_f0 Z1_f1 zZ1
    have nA1N1 := Lib.hid (lt_of_heap A1.out)
    have nD1N1 := Lib.hid (lt_of_heap D1.out)
    have nZ1N1 := Lib.hid (lt_of_heap Z1.out)
    have nlZ1N1 : ¬ (w.heap.size + 1 + 1 = V1.heap.size) := Nat.ne_of_lt (lt_of_heap Z1.out)
    have nrZ1N1 : ¬ (V1.heap.size = w.heap.size + 1 + 1) := Ne.symm (Nat.ne_of_lt (lt_of_heap Z1.out))
    have B2 := Lib.hid (((B1.out).alloc (B1.out.size) _).trans (hb2.mono (by have := B1.out.size; first | assumption | (simp <;> omega) | (simp; done))))
    replace A1 := Lib.hid (row_call hb2 (row_alloc A1.out _))
    replace D1 := Lib.hid (row_call hb2 (row_alloc D1.out _))
    replace Z1 := Lib.hid (row_call hb2 (row_alloc Z1.out _))
    have N1 := Lib.hid (row_call hb2 (heap_alloc_new _ _))
    clear hb2
    have A1_0 : V2.cell? ⟨w.heap.size, 0, none⟩ = some (.int .i64 s) := cell_of_row _ _ _ _ _ _ A1.out
    have A1_1 : V2.cell? ⟨w.heap.size, 1, none⟩ = some (.int .i64 n) := cell_of_row _ _ _ _ _ _ A1.out
    have D1_0 : V2.cell? ⟨w.heap.size + 1, 0, none⟩ = some (.int .i64 d) := cell_of_row _ _ _ _ _ _ D1.out
    have D1_1 : V2.cell? ⟨w.heap.size + 1, 1, none⟩ = some (.int .i64 k) := cell_of_row _ _ _ _ _ _ D1.out
    have Z1_0 : V2.cell? ⟨w.heap.size + 1 + 1, 0, none⟩ = some (.int .i64 0) := cell_of_row _ _ _ _ _ _ Z1.out
    have Z1_1 : V2.cell? ⟨w.heap.size + 1 + 1, 1, none⟩ = some (.int .i64 0) := cell_of_row _ _ _ _ _ _ Z1.out
    have Z1_f0 : V2.frozen? ⟨w.heap.size + 1 + 1, 0, none⟩ = false := by simp [World.frozen?, Z1.out]
    have Z1_f1 : V2.frozen? ⟨w.heap.size + 1 + 1, 1, none⟩ = false := by simp [World.frozen?, Z1.out]
    have N1_0 : V2.cell? ⟨V1.heap.size, 0, none⟩ = some (.int .u64 (zh P)) := cell_of_row _ _ _ _ _ _ N1.out
    have N1_1 : V2.cell? ⟨V1.heap.size, 1, none⟩ = some (.int .u64 (zl P)) := cell_of_row _ _ _ _ _ _ N1.out
    have N1_f0 : V2.frozen? ⟨V1.heap.size, 0, none⟩ = false := by simp [World.frozen?, N1.out]
    have N1_f1 : V2.frozen? ⟨V1.heap.size, 1, none⟩ = false := by simp [World.frozen?, N1.out]
    have zA1 := lt_of_heap A1.out
    have zD1 := lt_of_heap D1.out
    have zZ1 := lt_of_heap Z1.out
    have zN1 := lt_of_heap N1.out
    go_simp
    go_wp2_with fail
    refine (H3.out _).mono ?_
    rintro e V3 ⟨rfl, hb3⟩
    clear A1_0 A1_1 zA1 D1_0 D1_1 zD1 Z1_0 Z1_1 Z1_f0 Z1_f1 zZ1 N1_0 N1_1 N1_f0 N1_f1 zN1
    have B3 : Hid (Below w.heap.size w V3) := by first | exact Lib.hid ((keep2 (B2.out) (by have := B1.out.size; omega) _ _).trans (hb3.mono (by have := B2.out.size; first | assumption | (simp <;> omega) | (simp; done)))) | exact Lib.hid (((keep2 (B2.out) (by have := B1.out.size; omega) _ _).alloc (B2.out.size) _).trans (hb3.mono (by have := B2.out.size; first | assumption | (simp <;> omega) | (simp; done)))) | exact Lib.hid ((((keep2 (B2.out) (by have := B1.out.size; omega) _ _).alloc (B2.out.size) _).alloc (by have := B2.out.size; simp <;> omega) _).trans (hb3.mono (by have := B2.out.size; first | assumption | (simp <;> omega) | (simp; done)))) | exact Lib.hid (((((keep2 (B2.out) (by have := B1.out.size; omega) _ _).alloc (B2.out.size) _).alloc (by have := B2.out.size; simp <;> omega) _).alloc (by have := B2.out.size; simp <;> omega) _).trans (hb3.mono (by have := B2.out.size; first | assumption | (simp <;> omega) | (simp; done))))
    first | replace A1 := Lib.hid (row_call hb3 (row_other (by have := nA1N1.out; omega) A1.out _ _)) | replace A1 := Lib.hid (row_call hb3 (row_alloc (row_other (by have := nA1N1.out; omega) A1.out _ _) _)) | replace A1 := Lib.hid (row_call hb3 (row_alloc (row_alloc (row_other (by have := nA1N1.out; omega) A1.out _ _) _) _)) | replace A1 := Lib.hid (row_call hb3 (row_alloc (row_alloc (row_alloc (row_other (by have := nA1N1.out; omega) A1.out _ _) _) _) _))
    first | replace D1 := Lib.hid (row_call hb3 (row_other (by have := nD1N1.out; omega) D1.out _ _)) | replace D1 := Lib.hid (row_call hb3 (row_alloc (row_other (by have := nD1N1.out; omega) D1.out _ _) _)) | replace D1 := Lib.hid (row_call hb3 (row_alloc (row_alloc (row_other (by have := nD1N1.out; omega) D1.out _ _) _) _)) | replace D1 := Lib.hid (row_call hb3 (row_alloc (row_alloc (row_alloc (row_other (by have := nD1N1.out; omega) D1.out _ _) _) _) _))
    first | replace Z1 := Lib.hid (row_call hb3 (row_other (by have := nZ1N1.out; omega) Z1.out _ _)) | replace Z1 := Lib.hid (row_call hb3 (row_alloc (row_other (by have := nZ1N1.out; omega) Z1.out _ _) _)) | replace Z1 := Lib.hid (row_call hb3 (row_alloc (row_alloc (row_other (by have := nZ1N1.out; omega) Z1.out _ _) _) _)) | replace Z1 := Lib.hid (row_call hb3 (row_alloc (row_alloc (row_alloc (row_other (by have := nZ1N1.out; omega) Z1.out _ _) _) _) _))
    first | replace N1 := Lib.hid (row_call hb3 (row_set N1.out _ _)) | replace N1 := Lib.hid (row_call hb3 (row_alloc (row_set N1.out _ _) _)) | replace N1 := Lib.hid (row_call hb3 (row_alloc (row_alloc (row_set N1.out _ _) _) _)) | replace N1 := Lib.hid (row_call hb3 (row_alloc (row_alloc (row_alloc (row_set N1.out _ _) _) _) _))
    clear hb3
    have A1_0 : V3.cell? ⟨w.heap.size, 0, none⟩ = some (.int .i64 s) := cell_of_row _ _ _ _ _ _ A1.out
    have A1_1 : V3.cell? ⟨w.heap.size, 1, none⟩ = some (.int .i64 n) := cell_of_row _ _ _ _ _ _ A1.out
    have D1_0 : V3.cell? ⟨w.heap.size + 1, 0, none⟩ = some (.int .i64 d) := cell_of_row _ _ _ _ _ _ D1.out
    have D1_1 : V3.cell? ⟨w.heap.size + 1, 1, none⟩ = some (.int .i64 k) := cell_of_row _ _ _ _ _ _ D1.out
    have Z1_0 : V3.cell? ⟨w.heap.size + 1 + 1, 0, none⟩ = some (.int .i64 0) := cell_of_row _ _ _ _ _ _ Z1.out
    have Z1_1 : V3.cell? ⟨w.heap.size + 1 + 1, 1, none⟩ = some (.int .i64 0) := cell_of_row _ _ _ _ _ _ Z1.out
    have Z1_f0 : V3.frozen? ⟨w.heap.size + 1 + 1, 0, none⟩ = false := by simp [World.frozen?, Z1.out]
    have Z1_f1 : V3.frozen? ⟨w.heap.size + 1 + 1, 1, none⟩ = false := by simp [World.frozen?, Z1.out]
    have N1_0 : V3.cell? ⟨V1.heap.size, 0, none⟩ = some (.int .u64 (zh T)) := cell_of_row _ _ _ _ _ _ N1.out
    have N1_1 : V3.cell? ⟨V1.heap.size, 1, none⟩ = some (.int .u64 (zl T)) := cell_of_row _ _ _ _ _ _ N1.out
    have N1_f0 : V3.frozen? ⟨V1.heap.size, 0, none⟩ = false := by simp [World.frozen?, N1.out]
    have N1_f1 : V3.frozen? ⟨V1.heap.size, 1, none⟩ = false := by simp [World.frozen?, N1.out]
    have zA1 := lt_of_heap A1.out
    have zD1 := lt_of_heap D1.out
    have zZ1 := lt_of_heap Z1.out
    have zN1 := lt_of_heap N1.out
    go_simp
    go_wp2
    refine shut_ret (v := .tuple #[.agg #[.int .i64 S, .int .i64 N], .int .i64 E]) (by simp [results, Try.results13, go_sem, zZ1, Z1_0, Z1_1]) rfl ⟨rfl, ?_⟩
    exact keep2 B3.out (by omega) _ _
  · obtain ⟨u1, u2, u3⟩ := pp_no (T := rwV (nanos s n) (nanos d k) m) hc
    rw [u1, u2, u3]
    have H1 := Lib.hid X1
    have H2 := Lib.hid X2
    clear X1 X2 u1 u2 u3 bX bs bn
    generalize nrV (fsI (ckD s n) (agE d k m)) (nnD s n) (nanos d k) m = T at *
    generalize fsI (ckD s n) (agE d k m) = E at *
    generalize nnD s n = P at *
    generalize ckD s n = c1 at *
    have f1 : (E != 0) = true := by rw [bne_iff_ne]; exact hc
    go_enter Try.func13, Try.ntmps13
    refine wp_shut ?_
    go_wp2_with fail
    
    refine (H1.out _).mono ?_
    rintro e V1 ⟨rfl, hb1⟩
    have B1 := Lib.hid (((((Below.refl w.heap.size w).alloc (Nat.le_refl _) _).alloc (by simp <;> omega) _).alloc (by simp <;> omega) _).trans (hb1.mono (by first | assumption | (simp <;> omega) | (simp; done))))
    have A1 := Lib.hid (row_call hb1 (row_alloc (row_alloc (heap_alloc_new _ _) _) _))
    have D1 := Lib.hid (row_at (k' := w.heap.size + 1) (by simp) (row_call hb1 (row_alloc (heap_alloc_new _ _) _)))
    have Z1 := Lib.hid (row_at (k' := w.heap.size + 1 + 1) (by simp) (row_call hb1 (heap_alloc_new _ _)))
    clear hb1
    have A1_0 : V1.cell? ⟨w.heap.size, 0, none⟩ = some (.int .i64 s) := cell_of_row _ _ _ _ _ _ A1.out
    have A1_1 : V1.cell? ⟨w.heap.size, 1, none⟩ = some (.int .i64 n) := cell_of_row _ _ _ _ _ _ A1.out
    have D1_0 : V1.cell? ⟨w.heap.size + 1, 0, none⟩ = some (.int .i64 d) := cell_of_row _ _ _ _ _ _ D1.out
    have D1_1 : V1.cell? ⟨w.heap.size + 1, 1, none⟩ = some (.int .i64 k) := cell_of_row _ _ _ _ _ _ D1.out
    have Z1_0 : V1.cell? ⟨w.heap.size + 1 + 1, 0, none⟩ = some (.int .i64 0) := cell_of_row _ _ _ _ _ _ Z1.out
    have Z1_1 : V1.cell? ⟨w.heap.size + 1 + 1, 1, none⟩ = some (.int .i64 0) := cell_of_row _ _ _ _ _ _ Z1.out
    have Z1_f0 : V1.frozen? ⟨w.heap.size + 1 + 1, 0, none⟩ = false := by simp [World.frozen?, Z1.out]
    have Z1_f1 : V1.frozen? ⟨w.heap.size + 1 + 1, 1, none⟩ = false := by simp [World.frozen?, Z1.out]
    have zA1 := lt_of_heap A1.out
    have zD1 := lt_of_heap D1.out
    have zZ1 := lt_of_heap Z1.out
    go_simp
    go_wp2_with fail
    refine (H2.out _).mono ?_
    rintro e V2 ⟨rfl, hb2⟩
    clear A1_0 A1_1 zA1 D1_0 D1_1 zD1 Z1_0 Z1_1 Z1_f0 Z1_f1 zZ1
    have nA1N1 := Lib.hid (lt_of_heap A1.out)
    have nD1N1 := Lib.hid (lt_of_heap D1.out)
    have nZ1N1 := Lib.hid (lt_of_heap Z1.out)
    have nlZ1N1 : ¬ (w.heap.size + 1 + 1 = V1.heap.size) := Nat.ne_of_lt (lt_of_heap Z1.out)
    have nrZ1N1 : ¬ (V1.heap.size = w.heap.size + 1 + 1) := Ne.symm (Nat.ne_of_lt (lt_of_heap Z1.out))
    have B2 := Lib.hid (((B1.out).alloc (B1.out.size) _).trans (hb2.mono (by have := B1.out.size; first | assumption | (simp <;> omega) | (simp; done))))
    replace A1 := Lib.hid (row_call hb2 (row_alloc A1.out _))
    replace D1 := Lib.hid (row_call hb2 (row_alloc D1.out _))
    replace Z1 := Lib.hid (row_call hb2 (row_alloc Z1.out _))
    have N1 := Lib.hid (row_call hb2 (heap_alloc_new _ _))
    clear hb2
    have A1_0 : V2.cell? ⟨w.heap.size, 0, none⟩ = some (.int .i64 s) := cell_of_row _ _ _ _ _ _ A1.out
    have A1_1 : V2.cell? ⟨w.heap.size, 1, none⟩ = some (.int .i64 n) := cell_of_row _ _ _ _ _ _ A1.out
    have D1_0 : V2.cell? ⟨w.heap.size + 1, 0, none⟩ = some (.int .i64 d) := cell_of_row _ _ _ _ _ _ D1.out
    have D1_1 : V2.cell? ⟨w.heap.size + 1, 1, none⟩ = some (.int .i64 k) := cell_of_row _ _ _ _ _ _ D1.out
    have Z1_0 : V2.cell? ⟨w.heap.size + 1 + 1, 0, none⟩ = some (.int .i64 0) := cell_of_row _ _ _ _ _ _ Z1.out
    have Z1_1 : V2.cell? ⟨w.heap.size + 1 + 1, 1, none⟩ = some (.int .i64 0) := cell_of_row _ _ _ _ _ _ Z1.out
    have Z1_f0 : V2.frozen? ⟨w.heap.size + 1 + 1, 0, none⟩ = false := by simp [World.frozen?, Z1.out]
    have Z1_f1 : V2.frozen? ⟨w.heap.size + 1 + 1, 1, none⟩ = false := by simp [World.frozen?, Z1.out]
    have N1_0 : V2.cell? ⟨V1.heap.size, 0, none⟩ = some (.int .u64 (zh P)) := cell_of_row _ _ _ _ _ _ N1.out
    have N1_1 : V2.cell? ⟨V1.heap.size, 1, none⟩ = some (.int .u64 (zl P)) := cell_of_row _ _ _ _ _ _ N1.out
    have N1_f0 : V2.frozen? ⟨V1.heap.size, 0, none⟩ = false := by simp [World.frozen?, N1.out]
    have N1_f1 : V2.frozen? ⟨V1.heap.size, 1, none⟩ = false := by simp [World.frozen?, N1.out]
    have zA1 := lt_of_heap A1.out
    have zD1 := lt_of_heap D1.out
    have zZ1 := lt_of_heap Z1.out
    have zN1 := lt_of_heap N1.out
    go_simp
    go_wp2
    refine shut_ret (v := .tuple #[.agg #[.int .i64 0, .int .i64 0], .int .i64 E]) (by simp [results, Try.results13, go_sem, zZ1, Z1_0, Z1_1]) rfl ⟨rfl, ?_⟩
    exact keep2 (keep2 B2.out (by have := B1.out.size; omega) _ _) (by have := B1.out.size; omega) _ _
end Go.Proofs.Ytlfbiidnfheelaa
