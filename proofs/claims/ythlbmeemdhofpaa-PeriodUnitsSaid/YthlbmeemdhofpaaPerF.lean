/- Package period: its small functions, three things gone over in one contract. -/
import Derived.Test.YthlbmeemdhofpaaPerEs
import Derived.Test.YthlbmeemdhofpaaPerEn
import Derived.Test.YthlbmeemdhofpaaPerEm
import Derived.Test.YthlbmeemdhofpaaPerEp
import Derived.Test.YthlbmeemdhofpaaLotQ
namespace Go.Proofs.Ythlbmeemdhofpaa
set_option linter.unusedVariables false
set_option linter.unusedSimpArgs false
open Go.ChangeShapes Go.WideShapes Go.ChangeAt Go.RowKit

theorem pSame_any (a : Int) (w : World) : Calls Try.prog 28 #[.int .i64 a] w fun e w' => e = .returned (.tuple #[.int .i64 a, .int .i64 0]) ∧ Below w.heap.size w w' := by
  go_enter Try.func28, Try.ntmps28
  go_wp2
  go_ret2
  exact ⟨rfl, Below.refl _ _⟩
set_option maxHeartbeats 800000 in
theorem pPairSum_any (a b : Int) (ba : in64 a) (bb : in64 b) (w : World) : Calls Try.prog 22 #[.agg #[.int .i64 a, .int .i64 b]] w fun e w' => e = .returned (.tuple #[.int .i64 (iV (a + b)), .int .i64 (iE (a + b))]) ∧ Below w.heap.size w w' := by
  have H1 := Lib.hid (zcAdd_any a b ba bb)
  clear ba bb
  generalize iV (a + b) = v at *
  generalize iE (a + b) = E at *
  go_enter Try.func22, Try.ntmps22
  go_wp2_with fail
  
  refine (H1.out _).mono ?_
  rintro e V1 ⟨rfl, hb1⟩
  have B1 := Lib.hid (((Below.refl w.heap.size w).alloc (Nat.le_refl _) _).trans (hb1.mono (by first | assumption | (simp <;> omega) | (simp; done))))
  have A1 := Lib.hid (row_call hb1 (heap_alloc_new _ _))
  clear hb1
  have A1_0 : V1.cell? ⟨w.heap.size, 0, none⟩ = some (.int .i64 a) := cell_of_row _ _ _ _ _ _ A1.out
  have A1_1 : V1.cell? ⟨w.heap.size, 1, none⟩ = some (.int .i64 b) := cell_of_row _ _ _ _ _ _ A1.out
  have zA1 := lt_of_heap A1.out
  go_simp
  go_wp2
  go_ret2
  exact ⟨rfl, by first | exact B1.out | exact B1.out.alloc B1.out.size _⟩
set_option maxHeartbeats 800000 in
theorem pMul1_any (a n : Int) (ba : in64 a) (bn : in64 n) (x : Nat) (w : World) (c : w.cell? ⟨x, 0, none⟩ = some (.int .i64 n)) : Calls Try.prog 30 #[.int .i64 a, .pointer (some ⟨x, 0, none⟩)] w fun e w' => e = .returned (.tuple #[.int .i64 (iV (a * n)), .int .i64 (iE (a * n))]) ∧ Below w.heap.size w w' := by
  have H1 := Lib.hid (zcMul_any a n ba bn)
  clear ba bn
  generalize iV (a * n) = v at *
  generalize iE (a * n) = E at *
  go_enter Try.func30, Try.ntmps30
  go_wp2_with fail
  
  refine (H1.out _).mono ?_
  rintro e V1 ⟨rfl, hb1⟩
  have B1 : Hid (Below w.heap.size w V1) := by first | exact Lib.hid ((Below.refl w.heap.size w).trans (hb1.mono (by first | assumption | (simp <;> omega) | (simp; done)))) | exact Lib.hid (((Below.refl w.heap.size w).alloc (Nat.le_refl _) _).trans (hb1.mono (by first | assumption | (simp <;> omega) | (simp; done)))) | exact Lib.hid ((((Below.refl w.heap.size w).alloc (Nat.le_refl _) _).alloc (by simp <;> omega) _).trans (hb1.mono (by first | assumption | (simp <;> omega) | (simp; done)))) | exact Lib.hid (((((Below.refl w.heap.size w).alloc (Nat.le_refl _) _).alloc (by simp <;> omega) _).alloc (by simp <;> omega) _).trans (hb1.mono (by first | assumption | (simp <;> omega) | (simp; done))))
  clear hb1
  go_simp
  go_wp2
  go_ret2
  exact ⟨rfl, by first | exact B1.out | exact B1.out.alloc B1.out.size _⟩
set_option maxHeartbeats 800000 in
theorem pFields_any (y m d : Int) (w : World) : Calls Try.prog 25 #[.agg #[.int .i64 y, .int .i64 m, .int .i64 d]] w fun e w' => e = .returned (.agg #[.int .i64 y, .int .i64 m, .int .i64 d]) ∧ Below w.heap.size w w' := by
  go_enter Try.func25, Try.ntmps25
  refine wp_shut ?_
  go_wp2
  refine shut_ret (v := .agg #[.int .i64 y, .int .i64 m, .int .i64 d]) (by simp [results, Try.results25, go_sem]) rfl ⟨rfl, ?_⟩
  exact ((Below.refl w.heap.size w).alloc (Nat.le_refl _) _).alloc (by simp) _
theorem eachs_any (a b c : Int) (w : World) : Calls Try.prog 24 #[.agg #[.int .i64 a, .int .i64 b, .int .i64 c], .func (.func 28) #[] #[]] w fun e w' =>
    e = .returned (.tuple #[.agg #[.int .i64 (fdP (ckP (a) (b) (c)) (a)), .int .i64 (fdP (ckP (a) (b) (c)) (b)), .int .i64 (fdP (ckP (a) (b) (c)) (c))], .int .i64 (ckP (a) (b) (c))]) ∧ Below w.heap.size w w' := by
  have X1 := fun w' (_ : KP w w') => pSame_any a w'
  have X2 := fun w' (_ : KP w w') => pSame_any b w'
  have X3 := fun w' (_ : KP w w') => pSame_any c w'
  by_cases l1 : a < -1000000
  · rw [ckP_out (by omega), fdP_err, fdP_err, fdP_err]
    exact eachs_1lo a b c _ (decide_eq_true l1) w (Lib.hid X1)
  · by_cases u1 : 1000000 < a
    · rw [ckP_out (by omega), fdP_err, fdP_err, fdP_err]
      exact eachs_1hi a b c _ (decide_eq_false l1) (decide_eq_true u1) w (Lib.hid X1)
    · by_cases l2 : b < -1000000
      · rw [ckP_out (by omega), fdP_err, fdP_err, fdP_err]
        exact eachs_2lo a b c _ _ (decide_eq_false l1) (decide_eq_false u1) (decide_eq_true l2) w (Lib.hid X1) (Lib.hid X2)
      · by_cases u2 : 1000000 < b
        · rw [ckP_out (by omega), fdP_err, fdP_err, fdP_err]
          exact eachs_2hi a b c _ _ (decide_eq_false l1) (decide_eq_false u1) (decide_eq_false l2) (decide_eq_true u2) w (Lib.hid X1) (Lib.hid X2)
        · by_cases l3 : c < -1000000
          · rw [ckP_out (by omega), fdP_err, fdP_err, fdP_err]
            exact eachs_3lo a b c _ _ _ (decide_eq_false l1) (decide_eq_false u1) (decide_eq_false l2) (decide_eq_false u2) (decide_eq_true l3) w (Lib.hid X1) (Lib.hid X2) (Lib.hid X3)
          · by_cases u3 : 1000000 < c
            · rw [ckP_out (by omega), fdP_err, fdP_err, fdP_err]
              exact eachs_3hi a b c _ _ _ (decide_eq_false l1) (decide_eq_false u1) (decide_eq_false l2) (decide_eq_false u2) (decide_eq_false l3) (decide_eq_true u3) w (Lib.hid X1) (Lib.hid X2) (Lib.hid X3)
            · rw [ckP_zero (by omega) (by omega) (by omega), fdP_zero, fdP_zero, fdP_zero]
              exact eachs_3ok a b c _ _ _ (decide_eq_false l1) (decide_eq_false u1) (decide_eq_false l2) (decide_eq_false u2) (decide_eq_false l3) (decide_eq_false u3) w (Lib.hid X1) (Lib.hid X2) (Lib.hid X3)
theorem eachn_any (a b c : Int) (w : World) (ba : in64 a) (bb : in64 b) (bc : in64 c) : Calls Try.prog 24 #[.agg #[.int .i64 a, .int .i64 b, .int .i64 c], .func (.func 26) #[] #[]] w fun e w' =>
    e = .returned (.tuple #[.agg #[.int .i64 (fdP (ckP (-a) (-b) (-c)) (-a)), .int .i64 (fdP (ckP (-a) (-b) (-c)) (-b)), .int .i64 (fdP (ckP (-a) (-b) (-c)) (-c))], .int .i64 (ckP (-a) (-b) (-c))]) ∧ Below w.heap.size w w' := by
  have X1 := fun w' (_ : KP w w') => zcNeg_any a ba w'
  have X2 := fun w' (_ : KP w w') => zcNeg_any b bb w'
  have X3 := fun w' (_ : KP w w') => zcNeg_any c bc w'
  rcases iE_two (-a) with ⟨e1, g1⟩ | ⟨e1, g1⟩
  · rw [e1, g1] at X1
    by_cases l1 : -a < -1000000
    · rw [ckP_out (by omega), fdP_err, fdP_err, fdP_err]
      exact eachn_1lo a b c _ (decide_eq_true l1) w (Lib.hid X1)
    · by_cases u1 : 1000000 < -a
      · rw [ckP_out (by omega), fdP_err, fdP_err, fdP_err]
        exact eachn_1hi a b c _ (decide_eq_false l1) (decide_eq_true u1) w (Lib.hid X1)
      · rcases iE_two (-b) with ⟨e2, g2⟩ | ⟨e2, g2⟩
        · rw [e2, g2] at X2
          by_cases l2 : -b < -1000000
          · rw [ckP_out (by omega), fdP_err, fdP_err, fdP_err]
            exact eachn_2lo a b c _ _ (decide_eq_false l1) (decide_eq_false u1) (decide_eq_true l2) w (Lib.hid X1) (Lib.hid X2)
          · by_cases u2 : 1000000 < -b
            · rw [ckP_out (by omega), fdP_err, fdP_err, fdP_err]
              exact eachn_2hi a b c _ _ (decide_eq_false l1) (decide_eq_false u1) (decide_eq_false l2) (decide_eq_true u2) w (Lib.hid X1) (Lib.hid X2)
            · rcases iE_two (-c) with ⟨e3, g3⟩ | ⟨e3, g3⟩
              · rw [e3, g3] at X3
                by_cases l3 : -c < -1000000
                · rw [ckP_out (by omega), fdP_err, fdP_err, fdP_err]
                  exact eachn_3lo a b c _ _ _ (decide_eq_false l1) (decide_eq_false u1) (decide_eq_false l2) (decide_eq_false u2) (decide_eq_true l3) w (Lib.hid X1) (Lib.hid X2) (Lib.hid X3)
                · by_cases u3 : 1000000 < -c
                  · rw [ckP_out (by omega), fdP_err, fdP_err, fdP_err]
                    exact eachn_3hi a b c _ _ _ (decide_eq_false l1) (decide_eq_false u1) (decide_eq_false l2) (decide_eq_false u2) (decide_eq_false l3) (decide_eq_true u3) w (Lib.hid X1) (Lib.hid X2) (Lib.hid X3)
                  · rw [ckP_zero (by omega) (by omega) (by omega), fdP_zero, fdP_zero, fdP_zero]
                    exact eachn_3ok a b c _ _ _ (decide_eq_false l1) (decide_eq_false u1) (decide_eq_false l2) (decide_eq_false u2) (decide_eq_false l3) (decide_eq_false u3) w (Lib.hid X1) (Lib.hid X2) (Lib.hid X3)
              · rw [e3] at X3
                rw [ckP_out (by omega), fdP_err, fdP_err, fdP_err]
                exact eachn_3err a b c _ _ _ 8 (decide_eq_false l1) (decide_eq_false u1) (decide_eq_false l2) (decide_eq_false u2) (by decide) w (Lib.hid X1) (Lib.hid X2) (Lib.hid X3)
        · rw [e2] at X2
          rw [ckP_out (by omega), fdP_err, fdP_err, fdP_err]
          exact eachn_2err a b c _ _ 8 (decide_eq_false l1) (decide_eq_false u1) (by decide) w (Lib.hid X1) (Lib.hid X2)
  · rw [e1] at X1
    rw [ckP_out (by omega), fdP_err, fdP_err, fdP_err]
    exact eachn_1err a b c _ 8 (by decide) w (Lib.hid X1)
theorem eachm_any (a b c n : Int) (w : World) (ba : in64 a) (bb : in64 b) (bc : in64 c) (bn : in64 n) (x : Nat) (hx : x < w.heap.size) (cx : w.cell? ⟨x, 0, none⟩ = some (.int .i64 n)) : Calls Try.prog 24 #[.agg #[.int .i64 a, .int .i64 b, .int .i64 c], .func (.func 30) #[] #[.pointer (some ⟨x, 0, none⟩)]] w fun e w' =>
    e = .returned (.tuple #[.agg #[.int .i64 (fdP (ckP (a * n) (b * n) (c * n)) (a * n)), .int .i64 (fdP (ckP (a * n) (b * n) (c * n)) (b * n)), .int .i64 (fdP (ckP (a * n) (b * n) (c * n)) (c * n))], .int .i64 (ckP (a * n) (b * n) (c * n))]) ∧ Below w.heap.size w w' := by
  have X1 := fun w' (h : KP w w') => pMul1_any a n ba bn x w' ((Below.cell (p := ⟨x, 0, none⟩) h hx).trans cx)
  have X2 := fun w' (h : KP w w') => pMul1_any b n bb bn x w' ((Below.cell (p := ⟨x, 0, none⟩) h hx).trans cx)
  have X3 := fun w' (h : KP w w') => pMul1_any c n bc bn x w' ((Below.cell (p := ⟨x, 0, none⟩) h hx).trans cx)
  rcases iE_two (a * n) with ⟨e1, g1⟩ | ⟨e1, g1⟩
  · rw [e1, g1] at X1
    by_cases l1 : a * n < -1000000
    · rw [ckP_out (by omega), fdP_err, fdP_err, fdP_err]
      exact eachm_1lo x a b c _ (decide_eq_true l1) w (Lib.hid X1)
    · by_cases u1 : 1000000 < a * n
      · rw [ckP_out (by omega), fdP_err, fdP_err, fdP_err]
        exact eachm_1hi x a b c _ (decide_eq_false l1) (decide_eq_true u1) w (Lib.hid X1)
      · rcases iE_two (b * n) with ⟨e2, g2⟩ | ⟨e2, g2⟩
        · rw [e2, g2] at X2
          by_cases l2 : b * n < -1000000
          · rw [ckP_out (by omega), fdP_err, fdP_err, fdP_err]
            exact eachm_2lo x a b c _ _ (decide_eq_false l1) (decide_eq_false u1) (decide_eq_true l2) w (Lib.hid X1) (Lib.hid X2)
          · by_cases u2 : 1000000 < b * n
            · rw [ckP_out (by omega), fdP_err, fdP_err, fdP_err]
              exact eachm_2hi x a b c _ _ (decide_eq_false l1) (decide_eq_false u1) (decide_eq_false l2) (decide_eq_true u2) w (Lib.hid X1) (Lib.hid X2)
            · rcases iE_two (c * n) with ⟨e3, g3⟩ | ⟨e3, g3⟩
              · rw [e3, g3] at X3
                by_cases l3 : c * n < -1000000
                · rw [ckP_out (by omega), fdP_err, fdP_err, fdP_err]
                  exact eachm_3lo x a b c _ _ _ (decide_eq_false l1) (decide_eq_false u1) (decide_eq_false l2) (decide_eq_false u2) (decide_eq_true l3) w (Lib.hid X1) (Lib.hid X2) (Lib.hid X3)
                · by_cases u3 : 1000000 < c * n
                  · rw [ckP_out (by omega), fdP_err, fdP_err, fdP_err]
                    exact eachm_3hi x a b c _ _ _ (decide_eq_false l1) (decide_eq_false u1) (decide_eq_false l2) (decide_eq_false u2) (decide_eq_false l3) (decide_eq_true u3) w (Lib.hid X1) (Lib.hid X2) (Lib.hid X3)
                  · rw [ckP_zero (by omega) (by omega) (by omega), fdP_zero, fdP_zero, fdP_zero]
                    exact eachm_3ok x a b c _ _ _ (decide_eq_false l1) (decide_eq_false u1) (decide_eq_false l2) (decide_eq_false u2) (decide_eq_false l3) (decide_eq_false u3) w (Lib.hid X1) (Lib.hid X2) (Lib.hid X3)
              · rw [e3] at X3
                rw [ckP_out (by omega), fdP_err, fdP_err, fdP_err]
                exact eachm_3err x a b c _ _ _ 8 (decide_eq_false l1) (decide_eq_false u1) (decide_eq_false l2) (decide_eq_false u2) (by decide) w (Lib.hid X1) (Lib.hid X2) (Lib.hid X3)
        · rw [e2] at X2
          rw [ckP_out (by omega), fdP_err, fdP_err, fdP_err]
          exact eachm_2err x a b c _ _ 8 (decide_eq_false l1) (decide_eq_false u1) (by decide) w (Lib.hid X1) (Lib.hid X2)
  · rw [e1] at X1
    rw [ckP_out (by omega), fdP_err, fdP_err, fdP_err]
    exact eachm_1err x a b c _ 8 (by decide) w (Lib.hid X1)
theorem eachp_any (a a' b b' c c' : Int) (ha : -1000000 ≤ a ∧ a ≤ 1000000) (ha' : -1000000 ≤ a' ∧ a' ≤ 1000000) (hb : -1000000 ≤ b ∧ b ≤ 1000000) (hb' : -1000000 ≤ b' ∧ b' ≤ 1000000) (hc : -1000000 ≤ c ∧ c ≤ 1000000) (hc' : -1000000 ≤ c' ∧ c' ≤ 1000000) (w : World) :
    Calls Try.prog 21 #[.agg #[.int .i64 a, .int .i64 a', .int .i64 b, .int .i64 b', .int .i64 c, .int .i64 c'], .func (.func 22) #[] #[]] w fun e w' =>
    e = .returned (.tuple #[.agg #[.int .i64 (fdP (ckP (a + a') (b + b') (c + c')) (a + a')), .int .i64 (fdP (ckP (a + a') (b + b') (c + c')) (b + b')), .int .i64 (fdP (ckP (a + a') (b + b') (c + c')) (c + c'))], .int .i64 (ckP (a + a') (b + b') (c + c'))]) ∧ Below w.heap.size w w' := by
  have X1 := fun w' (_ : KP w w') => pPairSum_any a a' (by unfold in64; omega) (by unfold in64; omega) w'
  rw [iV_of (by unfold in64; omega), iE_of (by unfold in64; omega)] at X1
  have X2 := fun w' (_ : KP w w') => pPairSum_any b b' (by unfold in64; omega) (by unfold in64; omega) w'
  rw [iV_of (by unfold in64; omega), iE_of (by unfold in64; omega)] at X2
  have X3 := fun w' (_ : KP w w') => pPairSum_any c c' (by unfold in64; omega) (by unfold in64; omega) w'
  rw [iV_of (by unfold in64; omega), iE_of (by unfold in64; omega)] at X3
  by_cases l1 : a + a' < -1000000
  · rw [ckP_out (by omega), fdP_err, fdP_err, fdP_err]
    exact eachp_1lo a a' b b' c c' _ (decide_eq_true l1) w (Lib.hid X1)
  · by_cases u1 : 1000000 < a + a'
    · rw [ckP_out (by omega), fdP_err, fdP_err, fdP_err]
      exact eachp_1hi a a' b b' c c' _ (decide_eq_false l1) (decide_eq_true u1) w (Lib.hid X1)
    · by_cases l2 : b + b' < -1000000
      · rw [ckP_out (by omega), fdP_err, fdP_err, fdP_err]
        exact eachp_2lo a a' b b' c c' _ _ (decide_eq_false l1) (decide_eq_false u1) (decide_eq_true l2) w (Lib.hid X1) (Lib.hid X2)
      · by_cases u2 : 1000000 < b + b'
        · rw [ckP_out (by omega), fdP_err, fdP_err, fdP_err]
          exact eachp_2hi a a' b b' c c' _ _ (decide_eq_false l1) (decide_eq_false u1) (decide_eq_false l2) (decide_eq_true u2) w (Lib.hid X1) (Lib.hid X2)
        · by_cases l3 : c + c' < -1000000
          · rw [ckP_out (by omega), fdP_err, fdP_err, fdP_err]
            exact eachp_3lo a a' b b' c c' _ _ _ (decide_eq_false l1) (decide_eq_false u1) (decide_eq_false l2) (decide_eq_false u2) (decide_eq_true l3) w (Lib.hid X1) (Lib.hid X2) (Lib.hid X3)
          · by_cases u3 : 1000000 < c + c'
            · rw [ckP_out (by omega), fdP_err, fdP_err, fdP_err]
              exact eachp_3hi a a' b b' c c' _ _ _ (decide_eq_false l1) (decide_eq_false u1) (decide_eq_false l2) (decide_eq_false u2) (decide_eq_false l3) (decide_eq_true u3) w (Lib.hid X1) (Lib.hid X2) (Lib.hid X3)
            · rw [ckP_zero (by omega) (by omega) (by omega), fdP_zero, fdP_zero, fdP_zero]
              exact eachp_3ok a a' b b' c c' _ _ _ (decide_eq_false l1) (decide_eq_false u1) (decide_eq_false l2) (decide_eq_false u2) (decide_eq_false l3) (decide_eq_false u3) w (Lib.hid X1) (Lib.hid X2) (Lib.hid X3)
end Go.Proofs.Ythlbmeemdhofpaa
