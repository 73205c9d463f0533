/- The examples of chapter 1: the law's own function that asks them answers true. -/
import Derived.Test.YtlpbkdihjpceoaaParseF
import Derived.Test.YtlpbkdihjpceoaaTextC
namespace Go.Proofs.Ytlpbkdihjpceoaa
set_option linter.unusedVariables false
open Go.ChangeShapes Go.WideShapes Go.ChangeAt Go.RowKit

def exA : List UInt8 := [45, 49, 55, 48, 49, 52, 49, 49, 56, 51, 52, 54, 48, 52, 54, 57, 50, 51, 49, 55, 51, 49, 54, 56, 55, 51, 48, 51, 55, 49, 53, 56, 56, 52, 49, 48, 53, 55, 50, 56]
theorem exA_err : pErr exA = 0 := by decide +kernel
theorem exA_num : pNum exA = 170141183460469231731687303715884105728 := by decide +kernel
theorem exB_err : pErr [48, 55] = 2 := by decide +kernel
theorem exB_num : pNum [48, 55] = 0 := by decide +kernel
theorem awakeA (w : World) : Calls Try.prog 10 #[.string ⟨exA.toArray⟩] w fun e w' => e = .returned (.tuple #[.agg #[.int .u64 9223372036854775808, .int .u64 0], .int .i64 0]) ∧ Below w.heap.size w w' := by
  have h := parse_any ⟨exA.toArray⟩ w
  rw [show (⟨exA.toArray⟩ : ByteArray).data.toList = exA from rfl, exA_err, exA_num, show hi 170141183460469231731687303715884105728 = 9223372036854775808 by unfold hi; rfl, show lo 170141183460469231731687303715884105728 = 0 by unfold lo; rfl] at h
  exact h
theorem awakeB (w : World) : Calls Try.prog 10 #[.string ⟨#[48, 55]⟩] w fun e w' => e = .returned (.tuple #[.agg #[.int .u64 0, .int .u64 0], .int .i64 2]) ∧ Below w.heap.size w w' := by
  have h := parse_any ⟨#[48, 55]⟩ w
  rw [show (⟨#[48, 55]⟩ : ByteArray).data.toList = [48, 55] from rfl, exB_err, exB_num, hi_zero, lo_zero] at h
  exact h
theorem awakeM (w : World) : Calls Try.prog 43 #[.int .u64 9223372036854775808, .int .u64 4] w fun e w' => e = .returned (.agg #[.int .u64 2, .int .u64 0]) ∧ Below w.heap.size w w' := by
  have h := mul_any 9223372036854775808 4 (by unfold U; omega) (by unfold U; omega) w
  rw [show hi (9223372036854775808 * 4) = 2 by unfold hi; rfl, show lo (9223372036854775808 * 4) = 0 by unfold lo; rfl] at h
  exact h
theorem txt_ones : txt 18446744073709551615 18446744073709551615 = [45, 49] := by
  have h1 : neg 18446744073709551615 = true := by unfold neg; exact decide_eq_true (by omega)
  have h2 : amt 18446744073709551615 18446744073709551615 = 1 := by unfold amt; rw [if_pos h1]; unfold num; rfl
  unfold txt
  rw [if_pos h1, h2]
  rfl
theorem awakeT (w : World) : Calls Try.prog 9 #[.agg #[.int .u64 18446744073709551615, .int .u64 18446744073709551615]] w fun e w' => e = .returned (.string ⟨#[45, 49]⟩) ∧ Below w.heap.size w w' := by
  have h := text_any 18446744073709551615 18446744073709551615 (by unfold U; omega) (by unfold U; omega) w
  rw [txt_ones] at h
  exact h

set_option maxHeartbeats 800000 in
set_option maxRecDepth 100000 in
theorem awake_any (w : World) : Calls Try.prog 13 #[] w fun e w' => e = .returned (.bool true) ∧ Below w.heap.size w w' := by
  have HA := Lib.hid awakeA
  have HB := Lib.hid awakeB
  have HM := Lib.hid awakeM
  have HT := Lib.hid awakeT
  go_enter Try.func13, Try.ntmps13
  go_wp2_with fail
  refine (HA.out _).mono ?_
  rintro e w1 ⟨rfl, hb1⟩
  have HB1 := Lib.hid hb1
  clear hb1
  go_simp
  go_wp2_with fail
  refine (HB.out _).mono ?_
  rintro e w2 ⟨rfl, hb2⟩
  have r2 := row_call hb2 (heap_alloc_new w1 _)
  have HB2 := Lib.hid ((HB1.out.alloc HB1.out.size _).trans (hb2.mono (by have := HB1.out.size; simp; omega)))
  have R2 := Lib.hid r2
  clear hb2 r2
  go_simp
  go_wp2_with fail
  refine (HM.out _).mono ?_
  rintro e w3 ⟨rfl, hb3⟩
  have R3 := Lib.hid (row_call hb3 (row_alloc R2.out _))
  have HB3 := Lib.hid ((HB2.out.alloc HB2.out.size _).trans (hb3.mono (by have := HB2.out.size; simp; omega)))
  clear hb3
  go_simp
  go_wp2_with fail
  refine (HT.out _).mono ?_
  rintro e w4 ⟨rfl, hb4⟩
  have r4 := row_call hb4 R3.out
  have HB4 := Lib.hid (HB3.out.trans (hb4.mono HB3.out.size))
  have k0 : w4.cell? ⟨w1.heap.size, 0, none⟩ = some (.int .u64 9223372036854775808) := cell_of_row _ _ _ _ _ _ r4
  have k1 : w4.cell? ⟨w1.heap.size, 1, none⟩ = some (.int .u64 0) := cell_of_row _ _ _ _ _ _ r4
  clear hb4 r4
  go_simp
  go_wp2
  go_ret
  exact ⟨rfl, HB4.out⟩
end Go.Proofs.Ytlpbkdihjpceoaa
