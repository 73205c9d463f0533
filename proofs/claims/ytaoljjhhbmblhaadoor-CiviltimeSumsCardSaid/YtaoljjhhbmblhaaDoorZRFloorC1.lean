/- Several texts in one: RFloorC. -/
import Derived.Test.YtaoljjhhbmblhaaDoorZRFloorA1
import Derived.Test.YtaoljjhhbmblhaaDoorZRFloorB1
import Derived.OwnWalk
namespace Go.Proofs.YtaoljjhhbmblhaaDoor
set_option linter.unusedVariables false
set_option linter.unusedSimpArgs false
open Go.ChangeShapes Go.WideShapes Go.ChangeAt Go.RowKit
theorem zh_one : zh 1 = 0 := by unfold zh hi zw; rfl
theorem zl_one : zl 1 = 1 := by unfold zl lo zw; rfl
theorem sg_t (c : Int) (r : Nat) (hc : c < 0) (h : r < 9223372036854775808) : ∃ t : Nat, IntKind.u64.wrap (-(r : Int)) = (t : Int) ∧ Hid (wrap64 (t : Int) = sg c r) := by
  refine ⟨(18446744073709551616 - r) % 18446744073709551616, ?_, ?_⟩
  · rw [IntKind.wrap_u64]; omega
  · show _ = _
    unfold wrap64 sg; rw [if_pos hc]; omega
theorem sg_f (c : Int) (r : Nat) (hc : ¬ c < 0) (h : r < 9223372036854775808) : Hid (wrap64 (r : Int) = sg c r) := by
  show _ = _
  unfold wrap64 sg; rw [if_neg hc]; omega
theorem rFloor_all (x c : Int) (ix : in128 x) (bc : in64 c) (hc : c ≠ 0) (w : World) :
    Calls Tryd.prog 89 #[.agg #[.int .u64 (zh x), .int .u64 (zl x)], .int .i64 c] w fun e w' => e = .returned (.tuple #[.agg #[.int .u64 (zh (fq x c)), .int .u64 (zl (fq x c))], .int .i64 (fr x c)]) ∧ Below w.heap.size w w' := by
  have bx : x.natAbs ≤ 170141183460469231731687303715884105728 := by unfold in128 at ix; omega
  have HB := Lib.hid (rBelow_any x ix)
  have HN := rNeg_any x
  have HA := Lib.hid (rAmt_any c bc)
  have hd : 0 < c.natAbs := by omega
  have hd2 : c.natAbs ≤ 9223372036854775808 := by unfold in64 at bc; omega
  have HD := rDiv_any x.natAbs c.natAbs (by omega) (natAbs_U bc) hd
  have S : SG x c x.natAbs c.natAbs (!decide (x < 0)) (decide (c < 0)) :=
    ⟨fun h => by have := of_decide_eq_false (by simpa using h : decide (x < 0) = false); omega, fun h => by have := of_decide_eq_true (by simpa using h : decide (x < 0) = true); omega, fun h => by have := of_decide_eq_true h; omega, fun h => by have := of_decide_eq_false h; omega, hd⟩
  have hrd := Nat.mod_lt x.natAbs hd
  have HO : ∀ q : Int, ∀ w, Calls Tryd.prog 61 #[.agg #[.int .u64 (zh q), .int .u64 (zl q)], .agg #[.int .u64 0, .int .u64 1]] w fun e w' => e = .returned (.tuple #[.agg #[.int .u64 (zh (q + 1)), .int .u64 (zl (q + 1))], .bool (cb q 1)]) ∧ Below w.heap.size w w' := fun q w => by
    have := rAdd_any q 1 w
    rw [zh_one, zl_one] at this
    exact this
  by_cases hx : x < 0
  · rw [show -x = (x.natAbs : Int) by omega] at HN
    have px : decide (x < 0) = true := decide_eq_true hx
    rw [px] at HB S
    generalize x.natAbs = m at *
    generalize c.natAbs = d at *
    by_cases hz : c < 0
    · obtain ⟨x1, x2⟩ := S.up (by rw [decide_eq_true hz]; rfl)
      rw [x1, x2]
      obtain ⟨t, ft, kt⟩ := sg_t c (m % d) hz (by omega)
      exact rfloor_up_true x m 0 0 c d (m / d) (m % d) 0 t true true _ w HB (Lib.hid HN) HA (Lib.hid HD) rfl rfl (decide_eq_true hz) ft kt
    · by_cases hr : m % d = 0
      · obtain ⟨x1, x2⟩ := S.zero (by rw [decide_eq_false hz]; rfl) hr
        rw [x1, x2]
        exact rfloor_zero_true x m _ 0 c d (m / d) (m % d) 0 0 true true _ w HB (Lib.hid HN) HA (Lib.hid HD) (Lib.hid (rNeg_any _)) rfl rfl (decide_eq_false hz) hr
      · obtain ⟨x1, x2⟩ := S.down (by rw [decide_eq_false hz]; rfl) hr
        rw [x1, x2]
        exact rfloor_down_true x m _ _ c d (m / d) (m % d) (d - m % d) 0 _ true _ w HB (Lib.hid HN) HA (Lib.hid HD) (Lib.hid (HO _)) (Lib.hid (rNeg_any _)) rfl rfl (decide_eq_false hz) hr (by rw [IntKind.wrap_u64]; omega) (sg_f c _ hz (by omega))
  · rw [show (x.natAbs : Int) = x by omega] at HD
    have px : decide (x < 0) = false := decide_eq_false hx
    rw [px] at HB S
    generalize x.natAbs = m at *
    generalize c.natAbs = d at *
    by_cases hz : c < 0
    · by_cases hr : m % d = 0
      · obtain ⟨x1, x2⟩ := S.zero (by rw [decide_eq_true hz]; rfl) hr
        rw [x1, x2]
        exact rfloor_zero_false x 0 _ 0 c d (m / d) (m % d) 0 0 true false _ w HB HA (Lib.hid HD) (Lib.hid (rNeg_any _)) rfl rfl (decide_eq_true hz) hr
      · obtain ⟨x1, x2⟩ := S.down (by rw [decide_eq_true hz]; rfl) hr
        rw [x1, x2]
        obtain ⟨t, ft, kt⟩ := sg_t c (d - m % d) hz (by omega)
        exact rfloor_down_false x 0 _ _ c d (m / d) (m % d) (d - m % d) t _ false _ w HB HA (Lib.hid HD) (Lib.hid (HO _)) (Lib.hid (rNeg_any _)) rfl rfl (decide_eq_true hz) hr (by rw [IntKind.wrap_u64]; omega) ft kt
    · obtain ⟨x1, x2⟩ := S.up (by rw [decide_eq_false hz]; rfl)
      rw [x1, x2]
      exact rfloor_up_false x 0 0 0 c d (m / d) (m % d) 0 0 true false _ w HB HA (Lib.hid HD) rfl rfl (decide_eq_false hz) (sg_f c _ hz (by omega))
end Go.Proofs.YtaoljjhhbmblhaaDoor
