/- The walk of the law WideMuls. -/
import Derived.Test.YtkmhebfahfaokaaLawInts
import Derived.Test.YtkmhebfahfaokaaPkgD
import Derived.Test.YtkmhebfahfaokaaRefN
namespace Go.Proofs.Ytkmhebfahfaokaa
set_option linter.unusedVariables false
open Go.ChangeShapes Go.WideShapes Go.ChangeAt Go.RowKit

/-- what both Divs answer. -/
structure DivR (h l b : Nat) where
  q1 : Nat
  q2 : Nat
  r : Nat
  e : Int
theorem div_both (h l b : Nat) (u : U h) (v : U l) (ub : U b) : ∃ (q1 q2 r : Nat) (e : Int),
    (∀ w, Calls Try.prog 24 #[.agg #[.int .u64 h, .int .u64 l], .int .u64 b] w fun x w' => x = .returned (.tuple #[.agg #[.int .u64 q1, .int .u64 q2], .int .u64 r, .int .i64 e]) ∧ Below w.heap.size w w') ∧
    (∀ w, Calls Try.prog 25 #[.agg #[.int .u64 h, .int .u64 l], .int .u64 b] w fun x w' => x = .returned (.tuple #[.agg #[.int .u64 q1, .int .u64 q2], .int .u64 r, .int .i64 e]) ∧ Below w.heap.size w w') := by
  by_cases hb : 0 < b
  · exact ⟨_, _, _, _, fun w => div_any h l b u v ub hb w, fun w => refDiv_any h l b u v ub hb w⟩
  · obtain rfl : b = 0 := by omega
    exact ⟨0, 0, 0, 5, fun w => div_zero h l w, fun w => refDiv_zero h l w⟩

set_option maxHeartbeats 800000 in
theorem wideMuls_walk (h l b c : Nat) (u : U h) (v : U l) (ub : U b) (uc : U c) (w : World) :
    Calls Try.prog 4 #[.agg #[.int .u64 h, .int .u64 l], .int .u64 b, .int .u64 c] w fun e w' => e = .returned (.bool true) ∧ Below w.heap.size w w' := by
  obtain ⟨q1, q2, r, er, d1, d2⟩ := div_both h l b u v ub
  have H1 := Lib.hid d1
  have H2 := Lib.hid d2
  have H3 := Lib.hid (mul_any b c ub uc)
  have H4 := Lib.hid (refMul_any b c ub uc)
  have H6 := Lib.hid awake_any
  generalize hi (b * c) = x at *
  generalize lo (b * c) = y at *
  clear d1 d2 u v ub uc
  go_enter Try.func4, Try.ntmps4
  go_wp2_with fail
  refine (H1.out _).mono ?_
  rintro e w1 ⟨rfl, hb1⟩
  have B1 := Lib.hid (((Below.refl w.heap.size w).alloc (Nat.le_refl _) _).trans (hb1.mono (by simp)))
  have R1 := Lib.hid (row_call hb1 (heap_alloc_new w _))
  have k0 : w1.cell? ⟨w.heap.size, 0, none⟩ = some (.int .u64 h) := cell_of_row _ _ _ _ _ _ R1.out
  have k1 : w1.cell? ⟨w.heap.size, 1, none⟩ = some (.int .u64 l) := cell_of_row _ _ _ _ _ _ R1.out
  have s1 := lt_of_heap R1.out
  clear hb1
  go_simp
  go_wp2_with fail
  refine (H2.out _).mono ?_
  rintro e w2 ⟨rfl, hb2⟩
  have B2 := Lib.hid ((B1.out.alloc B1.out.size _).trans (hb2.mono (by have := B1.out.size; simp; omega)))
  have R2 := Lib.hid (row_call hb2 (heap_alloc_new w1 _))
  have s2 := lt_of_heap R2.out
  clear hb2 k0 k1
  go_simp
  go_wp2_with fail
  refine (H3.out _).mono ?_
  rintro e w3 ⟨rfl, hb3⟩
  have B3 := Lib.hid ((B2.out.alloc B2.out.size _).trans (hb3.mono (by have := B2.out.size; simp; omega)))
  have R3 := Lib.hid (row_call hb3 (row_alloc R2.out _))
  have S3 := Lib.hid (row_call hb3 (heap_alloc_new w2 _))
  clear hb3
  go_simp
  go_wp2_with fail
  refine (H4.out _).mono ?_
  rintro e w4 ⟨rfl, hb4⟩
  have B4 := Lib.hid (B3.out.trans (hb4.mono B3.out.size))
  have R4 := Lib.hid (row_call hb4 R3.out)
  have S4 := Lib.hid (row_call hb4 S3.out)
  have a0 : w4.cell? ⟨w1.heap.size, 0, none⟩ = some (.int .u64 q1) := cell_of_row _ _ _ _ _ _ R4.out
  have a1 : w4.cell? ⟨w1.heap.size, 1, none⟩ = some (.int .u64 q2) := cell_of_row _ _ _ _ _ _ R4.out
  have c0 : w4.cell? ⟨w2.heap.size, 0, none⟩ = some (.int .u64 q1) := cell_of_row _ _ _ _ _ _ S4.out
  have c1 : w4.cell? ⟨w2.heap.size, 1, none⟩ = some (.int .u64 q2) := cell_of_row _ _ _ _ _ _ S4.out
  clear hb4
  go_simp
  go_wp2_with fail
  refine (H6.out _).mono ?_
  rintro e w7 ⟨rfl, hb7⟩
  have B7 := Lib.hid (B4.out.trans (hb7.mono B4.out.size))
  clear hb7
  go_simp
  go_wp2
  go_ret
  exact ⟨rfl, B7.out⟩
end Go.Proofs.Ytkmhebfahfaokaa
