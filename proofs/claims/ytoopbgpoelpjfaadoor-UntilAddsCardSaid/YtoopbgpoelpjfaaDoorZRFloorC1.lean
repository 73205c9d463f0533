/- Several texts in one: RFloorC. -/
import Derived.Test.YtoopbgpoelpjfaaDoorZRFloorA1
import Derived.Test.YtoopbgpoelpjfaaDoorZRFloorB1
import Derived.OwnWalk
namespace Go.Proofs.YtoopbgpoelpjfaaDoor
set_option linter.unusedVariables false
set_option linter.unusedSimpArgs false
open Go.ChangeShapes Go.WideShapes Go.ChangeAt Go.RowKit
theorem zh_one : zh 1 = 0 := by unfold zh hi zw; rfl
theorem zl_one : zl 1 = 1 := by unfold zl lo zw; rfl
theorem sg_t (c : Int) (r : Nat) (hc : c < 0) (h : r < 9223372036854775808) : ∃ t : Nat, IntKind.u64.wrap (-(r : Int)) = (t : Int) ∧ Hid (wrap64 (t : Int) = sg c r) := by
  refine ⟨(18446744073709551616 - r) % 18446744073709551616, ?_, ?_⟩
  · rw [IntKind.wrap_u64]; omega
  · show _ = _
    unfold wrap64 sg; rw [if_pos hc]; omega
theorem sg_f (c : Int) (r : Nat) (hc : ¬ c < 0) (h : r < 9223372036854775808) : Hid (wrap64 (r : Int) = sg c r) := by
  show _ = _
  unfold wrap64 sg; rw [if_neg hc]; omega
theorem rFloor_all (x c : Int) (ix : in128 x) (bc : in64 c) (hc : c ≠ 0) (w : World) :
    Calls Tryd.prog 47 #[.agg #[.int .u64 (zh x), .int .u64 (zl x)], .int .i64 c] w fun e w' => e = .returned (.tuple #[.agg #[.int .u64 (zh (fq x c)), .int .u64 (zl (fq x c))], .int .i64 (fr x c)]) ∧ Below w.heap.size w w' := by
  have bx : x.natAbs ≤ 170141183460469231731687303715884105728 := by unfold in128 at ix; omega
  have HB := Lib.hid (rBelow_any x ix)
  have HN := rNeg_any x
  have HA := Lib.hid (rAmt_any c bc)
  have hd : 0 < c.natAbs := by omega
  have hd2 : c.natAbs ≤ 9223372036854775808 := by unfold in64 at bc; omega
  have HD := rDiv_any x.natAbs c.natAbs (by omega) (natAbs_U bc) hd
  have S : SG x c x.natAbs c.natAbs (!decide (x < 0)) (decide (c < 0)) :=
    ⟨fun h => by have := of_decide_eq_false (by simpa using h : decide (x < 0) = false); omega, fun h => by have := of_decide_eq_true (by simpa using h : decide (x < 0) = true); omega, fun h => by have := of_decide_eq_true h; omega, fun h => by have := of_decide_eq_false h; omega, hd⟩
  have hrd := Nat.mod_lt x.natAbs hd
  have HO : ∀ q : Int, ∀ w, Calls Tryd.prog 44 #[.agg #[.int .u64 (zh q), .int .u64 (zl q)], .agg #[.int .u64 0, .int .u64 1]] w fun e w' => e = .returned (.tuple #[.agg #[.int .u64 (zh (q + 1)), .int .u64 (zl (q + 1))], .bool (cb q 1)]) ∧ Below w.heap.size w w' := fun q w => by
    have := rAdd_any q 1 w
    rw [zh_one, zl_one] at this
    exact this
  by_cases hx : x < 0
  · rw [show -x = (x.natAbs : Int) by omega] at HN
    have px : decide (x < 0) = true := decide_eq_true hx
    rw [px] at HB S
    generalize x.natAbs = m at *
    generalize c.natAbs = d at *
    by_cases hz : c < 0
    · obtain ⟨x1, x2⟩ := S.up (by rw [decide_eq_true hz]; rfl)
      rw [x1, x2]
      obtain ⟨t, ft, kt⟩ := sg_t c (m % d) hz (by omega)
      exact rfloor_up_true x m 0 0 c d (m / d) (m % d) 0 t true true _ w HB (Lib.hid HN) HA (Lib.hid HD) rfl rfl (decide_eq_true hz) ft kt
    · by_cases hr : m % d = 0
      · obtain ⟨x1, x2⟩ := S.zero (by rw [decide_eq_false hz]; rfl) hr
        rw [x1, x2]
        exact rfloor_zero_true x m _ 0 c d (m / d) (m % d) 0 0 true true _ w HB (Lib.hid HN) HA (Lib.hid HD) (Lib.hid (rNeg_any _)) rfl rfl (decide_eq_false hz) hr
      · obtain ⟨x1, x2⟩ := S.down (by rw [decide_eq_false hz]; rfl) hr
        rw [x1, x2]
        exact rfloor_down_true x m _ _ c d (m / d) (m % d) (d - m % d) 0 _ true _ w HB (Lib.hid HN) HA (Lib.hid HD) (Lib.hid (HO _)) (Lib.hid (rNeg_any _)) rfl rfl (decide_eq_false hz) hr (by rw [IntKind.wrap_u64]; omega) (sg_f c _ hz (by omega))
  · rw [show (x.natAbs : Int) = x by omega] at HD
    have px : decide (x < 0) = false := decide_eq_false hx
    rw [px] at HB S
    generalize x.natAbs = m at *
    generalize c.natAbs = d at *
    by_cases hz : c < 0
    · by_cases hr : m % d = 0
      · obtain ⟨x1, x2⟩ := S.zero (by rw [decide_eq_true hz]; rfl) hr
        rw [x1, x2]
        exact rfloor_zero_false x 0 _ 0 c d (m / d) (m % d) 0 0 true false _ w HB HA (Lib.hid HD) (Lib.hid (rNeg_any _)) rfl rfl (decide_eq_true hz) hr
      · obtain ⟨x1, x2⟩ := S.down (by rw [decide_eq_true hz]; rfl) hr
        rw [x1, x2]
        obtain ⟨t, ft, kt⟩ := sg_t c (d - m % d) hz (by omega)
        exact rfloor_down_false x 0 _ _ c d (m / d) (m % d) (d - m % d) t _ false _ w HB HA (Lib.hid HD) (Lib.hid (HO _)) (Lib.hid (rNeg_any _)) rfl rfl (decide_eq_true hz) hr (by rw [IntKind.wrap_u64]; omega) ft kt
    · obtain ⟨x1, x2⟩ := S.up (by rw [decide_eq_false hz]; rfl)
      rw [x1, x2]
      exact rfloor_up_false x 0 0 0 c d (m / d) (m % d) 0 0 true false _ w HB HA (Lib.hid HD) rfl rfl (decide_eq_false hz) (sg_f c _ hz (by omega))
theorem rFloor_any (x c : Int) (bx : x.natAbs ≤ 85070591730234615865843651857942052864) (bc : in64 c) (hc : c ≠ 0) (w : World) :
    Calls Tryd.prog 47 #[.agg #[.int .u64 (zh x), .int .u64 (zl x)], .int .i64 c] w fun e w' => e = .returned (.tuple #[.agg #[.int .u64 (zh (fq x c)), .int .u64 (zl (fq x c))], .int .i64 (fr x c)]) ∧ Below w.heap.size w w' :=
  rFloor_all x c (by unfold in128; omega) bc hc w
theorem rcFloorDiv_any (a b : Int) (ba : in64 a) (bb : in64 b) (w : World) :
    Calls Tryd.prog 29 #[.int .i64 a, .int .i64 b] w fun e w' => e = .returned (.tuple #[.int .i64 (dV a b), .int .i64 (dE a b)]) ∧ Below w.heap.size w w' := by
  unfold dV dE
  by_cases hb : b = 0
  · rw [if_pos hb, if_pos hb]
    clear ba bb
    go_enter Tryd.func29, Tryd.ntmps29
    go_wp2
    go_ret2
    exact ⟨rfl, Below.refl _ _⟩
  · rw [if_neg hb, if_neg hb]
    have ha : a.natAbs ≤ 85070591730234615865843651857942052864 := by unfold in64 at ba; omega
    have H1 := Lib.hid (rOf_any a ba)
    have H2 := Lib.hid (rFloor_any a b ha bb hb)
    have H3 := Lib.hid (rInt_any (fq a b) (fq_in hb ha))
    clear ha ba bb
    generalize fr a b = r at *
    generalize fq a b = q at *
    go_enter Tryd.func29, Tryd.ntmps29
    go_wp2_with fail
    
    refine (H1.out _).mono ?_
    rintro e V1 ⟨rfl, hb1⟩
    have B1 : Hid (Below w.heap.size w V1) := by first | exact Lib.hid ((Below.refl w.heap.size w).trans (hb1.mono (by first | assumption | (simp <;> omega) | (simp; done)))) | exact Lib.hid (((Below.refl w.heap.size w).alloc (Nat.le_refl _) _).trans (hb1.mono (by first | assumption | (simp <;> omega) | (simp; done)))) | exact Lib.hid ((((Below.refl w.heap.size w).alloc (Nat.le_refl _) _).alloc (by simp <;> omega) _).trans (hb1.mono (by first | assumption | (simp <;> omega) | (simp; done)))) | exact Lib.hid (((((Below.refl w.heap.size w).alloc (Nat.le_refl _) _).alloc (by simp <;> omega) _).alloc (by simp <;> omega) _).trans (hb1.mono (by first | assumption | (simp <;> omega) | (simp; done))))
    clear hb1
    go_simp
    go_wp2_with fail
    refine (H2.out _).mono ?_
    rintro e V2 ⟨rfl, hb2⟩
    have B2 : Hid (Below w.heap.size w V2) := by first | exact Lib.hid ((B1.out).trans (hb2.mono (by have := B1.out.size; first | assumption | (simp <;> omega) | (simp; done)))) | exact Lib.hid (((B1.out).alloc (B1.out.size) _).trans (hb2.mono (by have := B1.out.size; first | assumption | (simp <;> omega) | (simp; done)))) | exact Lib.hid ((((B1.out).alloc (B1.out.size) _).alloc (by have := B1.out.size; simp <;> omega) _).trans (hb2.mono (by have := B1.out.size; first | assumption | (simp <;> omega) | (simp; done)))) | exact Lib.hid (((((B1.out).alloc (B1.out.size) _).alloc (by have := B1.out.size; simp <;> omega) _).alloc (by have := B1.out.size; simp <;> omega) _).trans (hb2.mono (by have := B1.out.size; first | assumption | (simp <;> omega) | (simp; done))))
    clear hb2
    go_simp
    go_wp2_with fail
    refine (H3.out _).mono ?_
    rintro e V3 ⟨rfl, hb3⟩
    have B3 : Hid (Below w.heap.size w V3) := by first | exact Lib.hid ((B2.out).trans (hb3.mono (by have := B2.out.size; first | assumption | (simp <;> omega) | (simp; done)))) | exact Lib.hid (((B2.out).alloc (B2.out.size) _).trans (hb3.mono (by have := B2.out.size; first | assumption | (simp <;> omega) | (simp; done)))) | exact Lib.hid ((((B2.out).alloc (B2.out.size) _).alloc (by have := B2.out.size; simp <;> omega) _).trans (hb3.mono (by have := B2.out.size; first | assumption | (simp <;> omega) | (simp; done)))) | exact Lib.hid (((((B2.out).alloc (B2.out.size) _).alloc (by have := B2.out.size; simp <;> omega) _).alloc (by have := B2.out.size; simp <;> omega) _).trans (hb3.mono (by have := B2.out.size; first | assumption | (simp <;> omega) | (simp; done))))
    clear hb3
    go_simp
    go_wp2
    go_ret2
    exact ⟨rfl, by first | exact B3.out | exact B3.out.alloc B3.out.size _⟩
theorem rcFloorMod_any (a b : Int) (ba : in64 a) (bb : in64 b) (w : World) :
    Calls Tryd.prog 30 #[.int .i64 a, .int .i64 b] w fun e w' => e = .returned (.tuple #[.int .i64 (dM a b), .int .i64 (dF b)]) ∧ Below w.heap.size w w' := by
  unfold dM dF
  by_cases hb : b = 0
  · rw [if_pos hb, if_pos hb]
    clear ba bb
    go_enter Tryd.func30, Tryd.ntmps30
    go_wp2
    go_ret2
    exact ⟨rfl, Below.refl _ _⟩
  · rw [if_neg hb, if_neg hb]
    have ha : a.natAbs ≤ 85070591730234615865843651857942052864 := by unfold in64 at ba; omega
    have H1 := Lib.hid (rOf_any a ba)
    have H2 := Lib.hid (rFloor_any a b ha bb hb)
    clear ha ba bb
    generalize fr a b = r at *
    generalize fq a b = q at *
    go_enter Tryd.func30, Tryd.ntmps30
    go_wp2_with fail
    
    refine (H1.out _).mono ?_
    rintro e V1 ⟨rfl, hb1⟩
    have B1 : Hid (Below w.heap.size w V1) := by first | exact Lib.hid ((Below.refl w.heap.size w).trans (hb1.mono (by first | assumption | (simp <;> omega) | (simp; done)))) | exact Lib.hid (((Below.refl w.heap.size w).alloc (Nat.le_refl _) _).trans (hb1.mono (by first | assumption | (simp <;> omega) | (simp; done)))) | exact Lib.hid ((((Below.refl w.heap.size w).alloc (Nat.le_refl _) _).alloc (by simp <;> omega) _).trans (hb1.mono (by first | assumption | (simp <;> omega) | (simp; done)))) | exact Lib.hid (((((Below.refl w.heap.size w).alloc (Nat.le_refl _) _).alloc (by simp <;> omega) _).alloc (by simp <;> omega) _).trans (hb1.mono (by first | assumption | (simp <;> omega) | (simp; done))))
    clear hb1
    go_simp
    go_wp2_with fail
    refine (H2.out _).mono ?_
    rintro e V2 ⟨rfl, hb2⟩
    have B2 : Hid (Below w.heap.size w V2) := by first | exact Lib.hid ((B1.out).trans (hb2.mono (by have := B1.out.size; first | assumption | (simp <;> omega) | (simp; done)))) | exact Lib.hid (((B1.out).alloc (B1.out.size) _).trans (hb2.mono (by have := B1.out.size; first | assumption | (simp <;> omega) | (simp; done)))) | exact Lib.hid ((((B1.out).alloc (B1.out.size) _).alloc (by have := B1.out.size; simp <;> omega) _).trans (hb2.mono (by have := B1.out.size; first | assumption | (simp <;> omega) | (simp; done)))) | exact Lib.hid (((((B1.out).alloc (B1.out.size) _).alloc (by have := B1.out.size; simp <;> omega) _).alloc (by have := B1.out.size; simp <;> omega) _).trans (hb2.mono (by have := B1.out.size; first | assumption | (simp <;> omega) | (simp; done))))
    clear hb2
    go_simp
    go_wp2
    go_ret2
    exact ⟨rfl, by first | exact B2.out | exact B2.out.alloc B2.out.size _⟩
end Go.Proofs.YtoopbgpoelpjfaaDoor
