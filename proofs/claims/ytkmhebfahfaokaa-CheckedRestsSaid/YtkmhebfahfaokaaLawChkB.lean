/- The walk of the law CheckedRests. -/
import Derived.Test.YtkmhebfahfaokaaAwake2
import Derived.Test.YtkmhebfahfaokaaLawInts
namespace Go.Proofs.Ytkmhebfahfaokaa
set_option linter.unusedVariables false
set_option linter.unusedSimpArgs false
open Go.ChangeShapes Go.WideShapes Go.ChangeAt Go.RowKit

theorem fq_64 {a b : Int} (ba : in64 a) (hb : b ≠ 0) (h : ¬ (a = -9223372036854775808 ∧ b = -1)) : in64 (fq a b) := by
  unfold fq
  unfold in64 at ba
  by_cases h2 : 0 < b
  · rw [if_pos h2]
    constructor
    · exact (Int.le_ediv_iff_mul_le h2).2 (by omega)
    · exact Int.ediv_lt_of_lt_mul h2 (by omega)
  · rw [if_neg h2]
    by_cases h3 : b = -1
    · subst h3
      show in64 (-a / 1)
      rw [Int.ediv_one]
      unfold in64; omega
    · constructor
      · exact (Int.le_ediv_iff_mul_le (by omega)).2 (by omega)
      · exact Int.ediv_lt_of_lt_mul (by omega) (by omega)
set_option maxHeartbeats 1600000 in
theorem rests_pos (a b q r t : Int) (hb : 0 < b) (s1 : 0 ≤ r) (s2 : r < b) (hn : ¬ (a = -9223372036854775808 ∧ b = -1))
    (H1 : Hid (∀ w, Calls Try.prog 46 #[.int .i64 a, .int .i64 b] w fun e w' => e = .returned (.tuple #[.int .i64 q, .int .i64 0]) ∧ Below w.heap.size w w'))
    (H2 : Hid (∀ w, Calls Try.prog 48 #[.int .i64 a, .int .i64 b] w fun e w' => e = .returned (.tuple #[.int .i64 r, .int .i64 0]) ∧ Below w.heap.size w w'))
    (g1 : IntKind.i64.wrap (q * b) = t) (g2 : IntKind.i64.wrap (t + r) = a) (w : World) :
    Calls Try.prog 12 #[.int .i64 a, .int .i64 b] w fun e w' => e = .returned (.bool true) ∧ Below w.heap.size w w' := by
  have H5 := Lib.hid awake2_any
  have b0 : ¬ (b = 0) := by omega
  have f1 : wrap64 (q * b) = t := by unfold wrap64; exact (IntKind.wrap_i64 _).symm.trans g1
  have f2 : wrap64 (t + r) = a := by unfold wrap64; exact (IntKind.wrap_i64 _).symm.trans g2
  have hb1 : b = -1 → ¬ (a = -9223372036854775808) := fun h1 h2 => hn ⟨h2, h1⟩
  by_cases ha : a = -9223372036854775808
  · have hb2 : ¬ (b = -1) := fun h => hb1 h ha
    clear hn hb1
    subst ha
    go_enter Try.func12, Try.ntmps12
    go_wp2_with fail
    
    refine (H1.out _).mono ?_
    rintro e V1 ⟨rfl, hb1⟩
    have B1 : Hid (Below w.heap.size w V1) := by first | exact Lib.hid ((Below.refl w.heap.size w).trans (hb1.mono (by first | assumption | (simp <;> omega) | (simp; done)))) | exact Lib.hid (((Below.refl w.heap.size w).alloc (Nat.le_refl _) _).trans (hb1.mono (by first | assumption | (simp <;> omega) | (simp; done)))) | exact Lib.hid ((((Below.refl w.heap.size w).alloc (Nat.le_refl _) _).alloc (by simp <;> omega) _).trans (hb1.mono (by first | assumption | (simp <;> omega) | (simp; done)))) | exact Lib.hid (((((Below.refl w.heap.size w).alloc (Nat.le_refl _) _).alloc (by simp <;> omega) _).alloc (by simp <;> omega) _).trans (hb1.mono (by first | assumption | (simp <;> omega) | (simp; done))))
    clear hb1
    go_simp
    go_wp2_with fail
    refine (H2.out _).mono ?_
    rintro e V2 ⟨rfl, hb2⟩
    have B2 : Hid (Below w.heap.size w V2) := by first | exact Lib.hid ((B1.out).trans (hb2.mono (by have := B1.out.size; first | assumption | (simp <;> omega) | (simp; done)))) | exact Lib.hid (((B1.out).alloc (B1.out.size) _).trans (hb2.mono (by have := B1.out.size; first | assumption | (simp <;> omega) | (simp; done)))) | exact Lib.hid ((((B1.out).alloc (B1.out.size) _).alloc (by have := B1.out.size; simp <;> omega) _).trans (hb2.mono (by have := B1.out.size; first | assumption | (simp <;> omega) | (simp; done)))) | exact Lib.hid (((((B1.out).alloc (B1.out.size) _).alloc (by have := B1.out.size; simp <;> omega) _).alloc (by have := B1.out.size; simp <;> omega) _).trans (hb2.mono (by have := B1.out.size; first | assumption | (simp <;> omega) | (simp; done))))
    clear hb2
    go_simp
    go_wp2_with fail
    refine (H5.out _).mono ?_
    rintro e V3 ⟨rfl, hb3⟩
    have B3 : Hid (Below w.heap.size w V3) := by first | exact Lib.hid ((B2.out).trans (hb3.mono (by have := B2.out.size; first | assumption | (simp <;> omega) | (simp; done)))) | exact Lib.hid (((B2.out).alloc (B2.out.size) _).trans (hb3.mono (by have := B2.out.size; first | assumption | (simp <;> omega) | (simp; done)))) | exact Lib.hid ((((B2.out).alloc (B2.out.size) _).alloc (by have := B2.out.size; simp <;> omega) _).trans (hb3.mono (by have := B2.out.size; first | assumption | (simp <;> omega) | (simp; done)))) | exact Lib.hid (((((B2.out).alloc (B2.out.size) _).alloc (by have := B2.out.size; simp <;> omega) _).alloc (by have := B2.out.size; simp <;> omega) _).trans (hb3.mono (by have := B2.out.size; first | assumption | (simp <;> omega) | (simp; done))))
    clear hb3
    go_simp
    go_wp2
    go_ret
    exact ⟨rfl, by first | exact B3.out | exact B3.out.alloc B3.out.size _⟩
  · clear hn hb1
    go_enter Try.func12, Try.ntmps12
    go_wp2_with fail
    
    refine (H1.out _).mono ?_
    rintro e V1 ⟨rfl, hb1⟩
    have B1 : Hid (Below w.heap.size w V1) := by first | exact Lib.hid ((Below.refl w.heap.size w).trans (hb1.mono (by first | assumption | (simp <;> omega) | (simp; done)))) | exact Lib.hid (((Below.refl w.heap.size w).alloc (Nat.le_refl _) _).trans (hb1.mono (by first | assumption | (simp <;> omega) | (simp; done)))) | exact Lib.hid ((((Below.refl w.heap.size w).alloc (Nat.le_refl _) _).alloc (by simp <;> omega) _).trans (hb1.mono (by first | assumption | (simp <;> omega) | (simp; done)))) | exact Lib.hid (((((Below.refl w.heap.size w).alloc (Nat.le_refl _) _).alloc (by simp <;> omega) _).alloc (by simp <;> omega) _).trans (hb1.mono (by first | assumption | (simp <;> omega) | (simp; done))))
    clear hb1
    go_simp
    go_wp2_with fail
    refine (H2.out _).mono ?_
    rintro e V2 ⟨rfl, hb2⟩
    have B2 : Hid (Below w.heap.size w V2) := by first | exact Lib.hid ((B1.out).trans (hb2.mono (by have := B1.out.size; first | assumption | (simp <;> omega) | (simp; done)))) | exact Lib.hid (((B1.out).alloc (B1.out.size) _).trans (hb2.mono (by have := B1.out.size; first | assumption | (simp <;> omega) | (simp; done)))) | exact Lib.hid ((((B1.out).alloc (B1.out.size) _).alloc (by have := B1.out.size; simp <;> omega) _).trans (hb2.mono (by have := B1.out.size; first | assumption | (simp <;> omega) | (simp; done)))) | exact Lib.hid (((((B1.out).alloc (B1.out.size) _).alloc (by have := B1.out.size; simp <;> omega) _).alloc (by have := B1.out.size; simp <;> omega) _).trans (hb2.mono (by have := B1.out.size; first | assumption | (simp <;> omega) | (simp; done))))
    clear hb2
    go_simp
    go_wp2_with fail
    refine (H5.out _).mono ?_
    rintro e V3 ⟨rfl, hb3⟩
    have B3 : Hid (Below w.heap.size w V3) := by first | exact Lib.hid ((B2.out).trans (hb3.mono (by have := B2.out.size; first | assumption | (simp <;> omega) | (simp; done)))) | exact Lib.hid (((B2.out).alloc (B2.out.size) _).trans (hb3.mono (by have := B2.out.size; first | assumption | (simp <;> omega) | (simp; done)))) | exact Lib.hid ((((B2.out).alloc (B2.out.size) _).alloc (by have := B2.out.size; simp <;> omega) _).trans (hb3.mono (by have := B2.out.size; first | assumption | (simp <;> omega) | (simp; done)))) | exact Lib.hid (((((B2.out).alloc (B2.out.size) _).alloc (by have := B2.out.size; simp <;> omega) _).alloc (by have := B2.out.size; simp <;> omega) _).trans (hb3.mono (by have := B2.out.size; first | assumption | (simp <;> omega) | (simp; done))))
    clear hb3
    go_simp
    go_wp2
    go_ret
    exact ⟨rfl, by first | exact B3.out | exact B3.out.alloc B3.out.size _⟩
set_option maxHeartbeats 1600000 in
theorem rests_neg (a b q r t : Int) (hb : b < 0) (s1 : r ≤ 0) (s2 : b < r) (hn : ¬ (a = -9223372036854775808 ∧ b = -1))
    (H1 : Hid (∀ w, Calls Try.prog 46 #[.int .i64 a, .int .i64 b] w fun e w' => e = .returned (.tuple #[.int .i64 q, .int .i64 0]) ∧ Below w.heap.size w w'))
    (H2 : Hid (∀ w, Calls Try.prog 48 #[.int .i64 a, .int .i64 b] w fun e w' => e = .returned (.tuple #[.int .i64 r, .int .i64 0]) ∧ Below w.heap.size w w'))
    (g1 : IntKind.i64.wrap (q * b) = t) (g2 : IntKind.i64.wrap (t + r) = a) (w : World) :
    Calls Try.prog 12 #[.int .i64 a, .int .i64 b] w fun e w' => e = .returned (.bool true) ∧ Below w.heap.size w w' := by
  have H5 := Lib.hid awake2_any
  have b0 : ¬ (b = 0) := by omega
  have f1 : wrap64 (q * b) = t := by unfold wrap64; exact (IntKind.wrap_i64 _).symm.trans g1
  have f2 : wrap64 (t + r) = a := by unfold wrap64; exact (IntKind.wrap_i64 _).symm.trans g2
  have hb1 : b = -1 → ¬ (a = -9223372036854775808) := fun h1 h2 => hn ⟨h2, h1⟩
  by_cases ha : a = -9223372036854775808
  · have hb2 : ¬ (b = -1) := fun h => hb1 h ha
    clear hn hb1
    subst ha
    go_enter Try.func12, Try.ntmps12
    go_wp2_with fail
    
    refine (H1.out _).mono ?_
    rintro e V1 ⟨rfl, hb1⟩
    have B1 : Hid (Below w.heap.size w V1) := by first | exact Lib.hid ((Below.refl w.heap.size w).trans (hb1.mono (by first | assumption | (simp <;> omega) | (simp; done)))) | exact Lib.hid (((Below.refl w.heap.size w).alloc (Nat.le_refl _) _).trans (hb1.mono (by first | assumption | (simp <;> omega) | (simp; done)))) | exact Lib.hid ((((Below.refl w.heap.size w).alloc (Nat.le_refl _) _).alloc (by simp <;> omega) _).trans (hb1.mono (by first | assumption | (simp <;> omega) | (simp; done)))) | exact Lib.hid (((((Below.refl w.heap.size w).alloc (Nat.le_refl _) _).alloc (by simp <;> omega) _).alloc (by simp <;> omega) _).trans (hb1.mono (by first | assumption | (simp <;> omega) | (simp; done))))
    clear hb1
    go_simp
    go_wp2_with fail
    refine (H2.out _).mono ?_
    rintro e V2 ⟨rfl, hb2⟩
    have B2 : Hid (Below w.heap.size w V2) := by first | exact Lib.hid ((B1.out).trans (hb2.mono (by have := B1.out.size; first | assumption | (simp <;> omega) | (simp; done)))) | exact Lib.hid (((B1.out).alloc (B1.out.size) _).trans (hb2.mono (by have := B1.out.size; first | assumption | (simp <;> omega) | (simp; done)))) | exact Lib.hid ((((B1.out).alloc (B1.out.size) _).alloc (by have := B1.out.size; simp <;> omega) _).trans (hb2.mono (by have := B1.out.size; first | assumption | (simp <;> omega) | (simp; done)))) | exact Lib.hid (((((B1.out).alloc (B1.out.size) _).alloc (by have := B1.out.size; simp <;> omega) _).alloc (by have := B1.out.size; simp <;> omega) _).trans (hb2.mono (by have := B1.out.size; first | assumption | (simp <;> omega) | (simp; done))))
    clear hb2
    go_simp
    go_wp2_with fail
    refine (H5.out _).mono ?_
    rintro e V3 ⟨rfl, hb3⟩
    have B3 : Hid (Below w.heap.size w V3) := by first | exact Lib.hid ((B2.out).trans (hb3.mono (by have := B2.out.size; first | assumption | (simp <;> omega) | (simp; done)))) | exact Lib.hid (((B2.out).alloc (B2.out.size) _).trans (hb3.mono (by have := B2.out.size; first | assumption | (simp <;> omega) | (simp; done)))) | exact Lib.hid ((((B2.out).alloc (B2.out.size) _).alloc (by have := B2.out.size; simp <;> omega) _).trans (hb3.mono (by have := B2.out.size; first | assumption | (simp <;> omega) | (simp; done)))) | exact Lib.hid (((((B2.out).alloc (B2.out.size) _).alloc (by have := B2.out.size; simp <;> omega) _).alloc (by have := B2.out.size; simp <;> omega) _).trans (hb3.mono (by have := B2.out.size; first | assumption | (simp <;> omega) | (simp; done))))
    clear hb3
    go_simp
    go_wp2
    go_ret
    exact ⟨rfl, by first | exact B3.out | exact B3.out.alloc B3.out.size _⟩
  · clear hn hb1
    go_enter Try.func12, Try.ntmps12
    go_wp2_with fail
    
    refine (H1.out _).mono ?_
    rintro e V1 ⟨rfl, hb1⟩
    have B1 : Hid (Below w.heap.size w V1) := by first | exact Lib.hid ((Below.refl w.heap.size w).trans (hb1.mono (by first | assumption | (simp <;> omega) | (simp; done)))) | exact Lib.hid (((Below.refl w.heap.size w).alloc (Nat.le_refl _) _).trans (hb1.mono (by first | assumption | (simp <;> omega) | (simp; done)))) | exact Lib.hid ((((Below.refl w.heap.size w).alloc (Nat.le_refl _) _).alloc (by simp <;> omega) _).trans (hb1.mono (by first | assumption | (simp <;> omega) | (simp; done)))) | exact Lib.hid (((((Below.refl w.heap.size w).alloc (Nat.le_refl _) _).alloc (by simp <;> omega) _).alloc (by simp <;> omega) _).trans (hb1.mono (by first | assumption | (simp <;> omega) | (simp; done))))
    clear hb1
    go_simp
    go_wp2_with fail
    refine (H2.out _).mono ?_
    rintro e V2 ⟨rfl, hb2⟩
    have B2 : Hid (Below w.heap.size w V2) := by first | exact Lib.hid ((B1.out).trans (hb2.mono (by have := B1.out.size; first | assumption | (simp <;> omega) | (simp; done)))) | exact Lib.hid (((B1.out).alloc (B1.out.size) _).trans (hb2.mono (by have := B1.out.size; first | assumption | (simp <;> omega) | (simp; done)))) | exact Lib.hid ((((B1.out).alloc (B1.out.size) _).alloc (by have := B1.out.size; simp <;> omega) _).trans (hb2.mono (by have := B1.out.size; first | assumption | (simp <;> omega) | (simp; done)))) | exact Lib.hid (((((B1.out).alloc (B1.out.size) _).alloc (by have := B1.out.size; simp <;> omega) _).alloc (by have := B1.out.size; simp <;> omega) _).trans (hb2.mono (by have := B1.out.size; first | assumption | (simp <;> omega) | (simp; done))))
    clear hb2
    go_simp
    go_wp2_with fail
    refine (H5.out _).mono ?_
    rintro e V3 ⟨rfl, hb3⟩
    have B3 : Hid (Below w.heap.size w V3) := by first | exact Lib.hid ((B2.out).trans (hb3.mono (by have := B2.out.size; first | assumption | (simp <;> omega) | (simp; done)))) | exact Lib.hid (((B2.out).alloc (B2.out.size) _).trans (hb3.mono (by have := B2.out.size; first | assumption | (simp <;> omega) | (simp; done)))) | exact Lib.hid ((((B2.out).alloc (B2.out.size) _).alloc (by have := B2.out.size; simp <;> omega) _).trans (hb3.mono (by have := B2.out.size; first | assumption | (simp <;> omega) | (simp; done)))) | exact Lib.hid (((((B2.out).alloc (B2.out.size) _).alloc (by have := B2.out.size; simp <;> omega) _).alloc (by have := B2.out.size; simp <;> omega) _).trans (hb3.mono (by have := B2.out.size; first | assumption | (simp <;> omega) | (simp; done))))
    clear hb3
    go_simp
    go_wp2
    go_ret
    exact ⟨rfl, by first | exact B3.out | exact B3.out.alloc B3.out.size _⟩
set_option maxHeartbeats 1600000 in
theorem rests_least (w : World) (a b : Int) (ea : a = -9223372036854775808) (eb : b = -1)
    (H1 : Hid (∀ w, Calls Try.prog 46 #[.int .i64 a, .int .i64 b] w fun e w' => e = .returned (.tuple #[.int .i64 0, .int .i64 8]) ∧ Below w.heap.size w w'))
    (H2 : Hid (∀ w, Calls Try.prog 48 #[.int .i64 a, .int .i64 b] w fun e w' => e = .returned (.tuple #[.int .i64 0, .int .i64 0]) ∧ Below w.heap.size w w')) :
    Calls Try.prog 12 #[.int .i64 a, .int .i64 b] w fun e w' => e = .returned (.bool true) ∧ Below w.heap.size w w' := by
  have H5 := Lib.hid awake2_any
  subst ea eb
  go_enter Try.func12, Try.ntmps12
  go_wp2_with fail
  
  refine (H1.out _).mono ?_
  rintro e V1 ⟨rfl, hb1⟩
  have B1 : Hid (Below w.heap.size w V1) := by first | exact Lib.hid ((Below.refl w.heap.size w).trans (hb1.mono (by first | assumption | (simp <;> omega) | (simp; done)))) | exact Lib.hid (((Below.refl w.heap.size w).alloc (Nat.le_refl _) _).trans (hb1.mono (by first | assumption | (simp <;> omega) | (simp; done)))) | exact Lib.hid ((((Below.refl w.heap.size w).alloc (Nat.le_refl _) _).alloc (by simp <;> omega) _).trans (hb1.mono (by first | assumption | (simp <;> omega) | (simp; done)))) | exact Lib.hid (((((Below.refl w.heap.size w).alloc (Nat.le_refl _) _).alloc (by simp <;> omega) _).alloc (by simp <;> omega) _).trans (hb1.mono (by first | assumption | (simp <;> omega) | (simp; done))))
  clear hb1
  go_simp
  go_wp2_with fail
  refine (H2.out _).mono ?_
  rintro e V2 ⟨rfl, hb2⟩
  have B2 : Hid (Below w.heap.size w V2) := by first | exact Lib.hid ((B1.out).trans (hb2.mono (by have := B1.out.size; first | assumption | (simp <;> omega) | (simp; done)))) | exact Lib.hid (((B1.out).alloc (B1.out.size) _).trans (hb2.mono (by have := B1.out.size; first | assumption | (simp <;> omega) | (simp; done)))) | exact Lib.hid ((((B1.out).alloc (B1.out.size) _).alloc (by have := B1.out.size; simp <;> omega) _).trans (hb2.mono (by have := B1.out.size; first | assumption | (simp <;> omega) | (simp; done)))) | exact Lib.hid (((((B1.out).alloc (B1.out.size) _).alloc (by have := B1.out.size; simp <;> omega) _).alloc (by have := B1.out.size; simp <;> omega) _).trans (hb2.mono (by have := B1.out.size; first | assumption | (simp <;> omega) | (simp; done))))
  clear hb2
  go_simp
  go_wp2_with fail
  refine (H5.out _).mono ?_
  rintro e V3 ⟨rfl, hb3⟩
  have B3 : Hid (Below w.heap.size w V3) := by first | exact Lib.hid ((B2.out).trans (hb3.mono (by have := B2.out.size; first | assumption | (simp <;> omega) | (simp; done)))) | exact Lib.hid (((B2.out).alloc (B2.out.size) _).trans (hb3.mono (by have := B2.out.size; first | assumption | (simp <;> omega) | (simp; done)))) | exact Lib.hid ((((B2.out).alloc (B2.out.size) _).alloc (by have := B2.out.size; simp <;> omega) _).trans (hb3.mono (by have := B2.out.size; first | assumption | (simp <;> omega) | (simp; done)))) | exact Lib.hid (((((B2.out).alloc (B2.out.size) _).alloc (by have := B2.out.size; simp <;> omega) _).alloc (by have := B2.out.size; simp <;> omega) _).trans (hb3.mono (by have := B2.out.size; first | assumption | (simp <;> omega) | (simp; done))))
  clear hb3
  go_simp
  go_wp2
  go_ret
  exact ⟨rfl, by first | exact B3.out | exact B3.out.alloc B3.out.size _⟩
set_option maxHeartbeats 1600000 in
theorem rests_zero (w : World) (a : Int)
    (H1 : Hid (∀ w, Calls Try.prog 46 #[.int .i64 a, .int .i64 0] w fun e w' => e = .returned (.tuple #[.int .i64 0, .int .i64 5]) ∧ Below w.heap.size w w'))
    (H2 : Hid (∀ w, Calls Try.prog 48 #[.int .i64 a, .int .i64 0] w fun e w' => e = .returned (.tuple #[.int .i64 0, .int .i64 5]) ∧ Below w.heap.size w w')) :
    Calls Try.prog 12 #[.int .i64 a, .int .i64 0] w fun e w' => e = .returned (.bool true) ∧ Below w.heap.size w w' := by
  have H5 := Lib.hid awake2_any
  go_enter Try.func12, Try.ntmps12
  go_wp2_with fail
  
  refine (H1.out _).mono ?_
  rintro e V1 ⟨rfl, hb1⟩
  have B1 : Hid (Below w.heap.size w V1) := by first | exact Lib.hid ((Below.refl w.heap.size w).trans (hb1.mono (by first | assumption | (simp <;> omega) | (simp; done)))) | exact Lib.hid (((Below.refl w.heap.size w).alloc (Nat.le_refl _) _).trans (hb1.mono (by first | assumption | (simp <;> omega) | (simp; done)))) | exact Lib.hid ((((Below.refl w.heap.size w).alloc (Nat.le_refl _) _).alloc (by simp <;> omega) _).trans (hb1.mono (by first | assumption | (simp <;> omega) | (simp; done)))) | exact Lib.hid (((((Below.refl w.heap.size w).alloc (Nat.le_refl _) _).alloc (by simp <;> omega) _).alloc (by simp <;> omega) _).trans (hb1.mono (by first | assumption | (simp <;> omega) | (simp; done))))
  clear hb1
  go_simp
  go_wp2_with fail
  refine (H2.out _).mono ?_
  rintro e V2 ⟨rfl, hb2⟩
  have B2 : Hid (Below w.heap.size w V2) := by first | exact Lib.hid ((B1.out).trans (hb2.mono (by have := B1.out.size; first | assumption | (simp <;> omega) | (simp; done)))) | exact Lib.hid (((B1.out).alloc (B1.out.size) _).trans (hb2.mono (by have := B1.out.size; first | assumption | (simp <;> omega) | (simp; done)))) | exact Lib.hid ((((B1.out).alloc (B1.out.size) _).alloc (by have := B1.out.size; simp <;> omega) _).trans (hb2.mono (by have := B1.out.size; first | assumption | (simp <;> omega) | (simp; done)))) | exact Lib.hid (((((B1.out).alloc (B1.out.size) _).alloc (by have := B1.out.size; simp <;> omega) _).alloc (by have := B1.out.size; simp <;> omega) _).trans (hb2.mono (by have := B1.out.size; first | assumption | (simp <;> omega) | (simp; done))))
  clear hb2
  go_simp
  go_wp2_with fail
  refine (H5.out _).mono ?_
  rintro e V3 ⟨rfl, hb3⟩
  have B3 : Hid (Below w.heap.size w V3) := by first | exact Lib.hid ((B2.out).trans (hb3.mono (by have := B2.out.size; first | assumption | (simp <;> omega) | (simp; done)))) | exact Lib.hid (((B2.out).alloc (B2.out.size) _).trans (hb3.mono (by have := B2.out.size; first | assumption | (simp <;> omega) | (simp; done)))) | exact Lib.hid ((((B2.out).alloc (B2.out.size) _).alloc (by have := B2.out.size; simp <;> omega) _).trans (hb3.mono (by have := B2.out.size; first | assumption | (simp <;> omega) | (simp; done)))) | exact Lib.hid (((((B2.out).alloc (B2.out.size) _).alloc (by have := B2.out.size; simp <;> omega) _).alloc (by have := B2.out.size; simp <;> omega) _).trans (hb3.mono (by have := B2.out.size; first | assumption | (simp <;> omega) | (simp; done))))
  clear hb3
  go_simp
  go_wp2
  go_ret
  exact ⟨rfl, by first | exact B3.out | exact B3.out.alloc B3.out.size _⟩
theorem checkedRests_walk (a b : Int) (ba : in64 a) (bb : in64 b) (w : World) :
    Calls Try.prog 12 #[.int .i64 a, .int .i64 b] w fun e w' => e = .returned (.bool true) ∧ Below w.heap.size w w' := by
  have X1 := zcFloorDiv_any a b ba bb
  have X2 := zcFloorMod_any a b ba bb
  by_cases h0 : b = 0
  · subst h0
    rw [show dV a 0 = 0 from if_pos rfl, show dE a 0 = 5 from if_pos rfl] at X1
    rw [show dM a 0 = 0 from if_pos rfl, show dF 0 = 5 from if_pos rfl] at X2
    exact rests_zero w a (Lib.hid X1) (Lib.hid X2)
  · by_cases hn : a = -9223372036854775808 ∧ b = -1
    · obtain ⟨ea, eb⟩ := hn
      rw [show dV a b = 0 by rw [ea, eb]; decide +kernel, show dE a b = 8 by rw [ea, eb]; decide +kernel] at X1
      rw [show dM a b = 0 by rw [ea, eb]; decide +kernel, show dF b = 0 by rw [eb]; decide +kernel] at X2
      exact rests_least w a b ea eb (Lib.hid X1) (Lib.hid X2)
    · have hq := fq_64 ba h0 hn
      have e1 : dV a b = fq a b := (if_neg h0).trans (iV_of hq)
      have e2 : dE a b = 0 := (if_neg h0).trans (iE_of hq)
      have e3 : dM a b = fr a b := if_neg h0
      have e4 : dF b = 0 := if_neg h0
      rw [e1, e2] at X1
      rw [e3, e4] at X2
      have hr := fr_bd (n := a) h0
      have hg : IntKind.i64.wrap (IntKind.i64.wrap (fq a b * b) + fr a b) = a := by
        unfold fr
        rw [Int.mul_comm b, IntKind.wrap_i64, IntKind.wrap_i64]
        unfold in64 at ba
        generalize fq a b * b = t
        omega
      by_cases hp : 0 < b
      · exact rests_pos a b _ _ _ hp (hr.1 hp).1 (hr.1 hp).2 hn (Lib.hid X1) (Lib.hid X2) rfl hg w
      · exact rests_neg a b _ _ _ (by omega) (hr.2 (by omega)).2 (hr.2 (by omega)).1 hn (Lib.hid X1) (Lib.hid X2) rfl hg w
end Go.Proofs.Ytkmhebfahfaokaa
