/- The walk of the law WideInts. -/
import Derived.Test.YtkmhebfahfaokaaAwake
import Derived.Test.YtkmhebfahfaokaaPkgA
namespace Go.Proofs.Ytkmhebfahfaokaa
set_option linter.unusedVariables false
open Go.ChangeShapes Go.WideShapes Go.ChangeAt Go.RowKit

theorem u64_nat {a : Int} (w : (Lit.int .u64 a).wf = true) : ∃ n : Nat, a = (n : Int) ∧ U n := by
  have h := bounds_u64 w
  exact ⟨a.toNat, by omega, by unfold U; omega⟩
theorem int_bd {a : Int} (w : (Lit.int .i64 a).wf = true) : -9223372036854775808 ≤ a ∧ a < 9223372036854775808 := by
  have h := bounds_i64 w
  omega
theorem sgn_of (n : Int) (b : -9223372036854775808 ≤ n ∧ n < 9223372036854775808) : sgn (ofL n) = n := by unfold sgn ofL; rw [IntKind.wrap_i64]; omega
theorem intOk_of (n : Int) (b : -9223372036854775808 ≤ n ∧ n < 9223372036854775808) : intOk (ofH n) (ofL n) = true := by unfold intOk; rw [sgn_of n b]; simp

set_option maxHeartbeats 800000 in
theorem wideInts_walk (n : Int) (h l : Nat) (b : -9223372036854775808 ≤ n ∧ n < 9223372036854775808) (u : U h) (v : U l) (w : World) :
    Calls Try.prog 5 #[.int .i64 n, .agg #[.int .u64 h, .int .u64 l]] w fun e w' => e = .returned (.bool true) ∧ Below w.heap.size w w' := by
  have hi1 := int_any (ofH n) (ofL n) (ofH_U n) (ofL_U n)
  rw [intOk_of n b, if_pos rfl, if_pos rfl, sgn_of n b] at hi1
  have hi2 := int_any h l u v
  have hi3 := refInt_any h l u v
  generalize (if intOk h l = true then sgn l else 0) = m at *
  generalize (if intOk h l = true then (0 : Int) else 8) = f at *
  have H1 := Lib.hid (of_any n b)
  have H2 := Lib.hid hi1
  have H3 := Lib.hid hi2
  have H4 := Lib.hid hi3
  have H5 := Lib.hid (refOf_any n)
  have H6 := Lib.hid awake_any
  clear hi1 hi2 hi3 u v b
  generalize ofH n = x at *
  generalize ofL n = y at *
  go_enter Try.func5, Try.ntmps5
  go_wp2_with fail
  refine (H1.out _).mono ?_
  rintro e w1 ⟨rfl, hb1⟩
  have B1 := Lib.hid (((Below.refl w.heap.size w).alloc (Nat.le_refl _) _).trans (hb1.mono (by simp)))
  have R1 := Lib.hid (row_call hb1 (heap_alloc_new w _))
  clear hb1
  go_simp
  go_wp2_with fail
  refine (H2.out _).mono ?_
  rintro e w2 ⟨rfl, hb2⟩
  have B2 := Lib.hid (B1.out.trans (hb2.mono B1.out.size))
  have R2 := Lib.hid (row_call hb2 R1.out)
  have k0 : w2.cell? ⟨w.heap.size, 0, none⟩ = some (.int .u64 h) := cell_of_row _ _ _ _ _ _ R2.out
  have k1 : w2.cell? ⟨w.heap.size, 1, none⟩ = some (.int .u64 l) := cell_of_row _ _ _ _ _ _ R2.out
  clear hb2
  go_simp
  go_wp2_with fail
  refine (H3.out _).mono ?_
  rintro e w3 ⟨rfl, hb3⟩
  have B3 := Lib.hid (B2.out.trans (hb3.mono B2.out.size))
  have R3 := Lib.hid (row_call hb3 R2.out)
  have k0' : w3.cell? ⟨w.heap.size, 0, none⟩ = some (.int .u64 h) := cell_of_row _ _ _ _ _ _ R3.out
  have k1' : w3.cell? ⟨w.heap.size, 1, none⟩ = some (.int .u64 l) := cell_of_row _ _ _ _ _ _ R3.out
  clear hb3 k0 k1
  go_simp
  go_wp2_with fail
  refine (H4.out _).mono ?_
  rintro e w4 ⟨rfl, hb4⟩
  have B4 := Lib.hid (B3.out.trans (hb4.mono B3.out.size))
  clear hb4 k0' k1'
  go_simp
  go_wp2_with fail
  refine (H1.out _).mono ?_
  rintro e w5 ⟨rfl, hb5⟩
  have B5 := Lib.hid (B4.out.trans (hb5.mono B4.out.size))
  clear hb5
  go_simp
  go_wp2_with fail
  refine (H5.out _).mono ?_
  rintro e w6 ⟨rfl, hb6⟩
  have B6 := Lib.hid (B5.out.trans (hb6.mono B5.out.size))
  clear hb6
  go_simp
  go_wp2_with fail
  refine (H6.out _).mono ?_
  rintro e w7 ⟨rfl, hb7⟩
  have B7 := Lib.hid (B6.out.trans (hb7.mono B6.out.size))
  clear hb7
  go_simp
  go_wp2
  go_ret
  exact ⟨rfl, B7.out⟩
end Go.Proofs.Ytkmhebfahfaokaa
