/- Contracts of package checked's MulDiv, FloorDiv, FloorMod. -/
import Derived.Test.YtkmhebfahfaokaaChkD
import Derived.OwnWalk
namespace Go.Proofs.Ytkmhebfahfaokaa
set_option linter.unusedVariables false
set_option linter.unusedSimpArgs false
open Go.ChangeShapes Go.WideShapes Go.ChangeAt Go.RowKit

theorem fq_in {n c : Int} (hc : c ≠ 0) (h : n.natAbs ≤ 85070591730234615865843651857942052864) : in128 (fq n c) := by
  unfold fq in128
  have h1 : ∀ m d : Int, 0 < d → m.natAbs ≤ 85070591730234615865843651857942052864 → -170141183460469231731687303715884105728 ≤ m / d ∧ m / d < 170141183460469231731687303715884105728 := fun m d hd hm => by
    constructor
    · refine Int.le_trans ?_ ((Int.le_ediv_iff_mul_le hd).2 (show (-85070591730234615865843651857942052864) * d ≤ m by omega))
      omega
    · refine Int.ediv_lt_of_lt_mul hd ?_
      omega
  by_cases h2 : 0 < c
  · rw [if_pos h2]; exact h1 n c h2 h
  · rw [if_neg h2]; exact h1 (-n) (-c) (by omega) (by omega)
theorem fr_bd {n c : Int} (hc : c ≠ 0) : (0 < c → 0 ≤ fr n c ∧ fr n c < c) ∧ (c < 0 → c < fr n c ∧ fr n c ≤ 0) := by
  unfold fr fq
  constructor
  · intro h
    rw [if_pos h]
    have h1 := Int.emod_nonneg n hc
    have h2 := Int.emod_lt_of_pos n h
    have h3 := Int.emod_def n c
    omega
  · intro h
    rw [if_neg (by omega)]
    have h1 := Int.emod_nonneg (-n) (show -c ≠ 0 by omega)
    have h2 := Int.emod_lt_of_pos (-n) (show 0 < -c by omega)
    have h3 := Int.emod_def (-n) (-c)
    rw [Int.neg_mul] at h3
    omega
def oV (q r : Int) : Int := if -9223372036854775808 ≤ q ∧ q < 9223372036854775808 then r else 0
set_option maxHeartbeats 1600000 in
theorem mulDiv_any (a b c : Int) (ba : in64 a) (bb : in64 b) (bc : in64 c) (hc : c ≠ 0) (w : World) :
    Calls Try.prog 50 #[.int .i64 a, .int .i64 b, .int .i64 c] w fun e w' => e = .returned (.tuple #[.int .i64 (iV (fq (a * b) c)), .int .i64 (oV (fq (a * b) c) (fr (a * b) c)), .int .i64 (iE (fq (a * b) c))]) ∧ Below w.heap.size w w' := by
  have H1 := Lib.hid (floor_any a b c ba bb bc hc)
  have hn : (a * b).natAbs ≤ 85070591730234615865843651857942052864 := by rw [Int.natAbs_mul]; exact prod_U ba bb
  have H2 := Lib.hid (zInt_any (fq (a * b) c) (fq_in hc hn))
  clear hn hc ba bb bc
  generalize fr (a * b) c = r at *
  generalize fq (a * b) c = q at *
  by_cases hq : in64 q
  · have h1 := iE_of hq
    have h2 := iV_of hq
    have h3 : oV q r = r := if_pos hq
    rw [h1, h2] at H2
    rw [h1, h2, h3]
    clear hq h1 h2 h3
    go_enter Try.func50, Try.ntmps50
    go_wp2_with fail
    
    refine (H1.out _).mono ?_
    rintro e V1 ⟨rfl, hb1⟩
    have B1 : Hid (Below w.heap.size w V1) := by first | exact Lib.hid ((Below.refl w.heap.size w).trans (hb1.mono (by first | assumption | (simp <;> omega) | (simp; done)))) | exact Lib.hid (((Below.refl w.heap.size w).alloc (Nat.le_refl _) _).trans (hb1.mono (by first | assumption | (simp <;> omega) | (simp; done)))) | exact Lib.hid ((((Below.refl w.heap.size w).alloc (Nat.le_refl _) _).alloc (by simp <;> omega) _).trans (hb1.mono (by first | assumption | (simp <;> omega) | (simp; done)))) | exact Lib.hid (((((Below.refl w.heap.size w).alloc (Nat.le_refl _) _).alloc (by simp <;> omega) _).alloc (by simp <;> omega) _).trans (hb1.mono (by first | assumption | (simp <;> omega) | (simp; done))))
    clear hb1
    go_simp
    go_wp2_with fail
    refine (H2.out _).mono ?_
    rintro e V2 ⟨rfl, hb2⟩
    have B2 := Lib.hid (((B1.out).alloc (B1.out.size) _).trans (hb2.mono (by have := B1.out.size; first | assumption | (simp <;> omega) | (simp; done))))
    have Q1 := Lib.hid (row_call hb2 (heap_alloc_new _ _))
    clear hb2
    have Q1_0 : V2.cell? ⟨V1.heap.size, 0, none⟩ = some (.int .u64 (zh q)) := cell_of_row _ _ _ _ _ _ Q1.out
    have Q1_1 : V2.cell? ⟨V1.heap.size, 1, none⟩ = some (.int .u64 (zl q)) := cell_of_row _ _ _ _ _ _ Q1.out
    have zQ1 := lt_of_heap Q1.out
    go_simp
    go_wp2
    go_ret3
    exact ⟨rfl, B2.out⟩
  · have h1 := iE_not hq
    have h2 := iV_not hq
    have h3 : oV q r = 0 := if_neg hq
    rw [h1, h2] at H2
    rw [h1, h2, h3]
    clear hq h1 h2 h3
    go_enter Try.func50, Try.ntmps50
    go_wp2_with fail
    
    refine (H1.out _).mono ?_
    rintro e V1 ⟨rfl, hb1⟩
    have B1 : Hid (Below w.heap.size w V1) := by first | exact Lib.hid ((Below.refl w.heap.size w).trans (hb1.mono (by first | assumption | (simp <;> omega) | (simp; done)))) | exact Lib.hid (((Below.refl w.heap.size w).alloc (Nat.le_refl _) _).trans (hb1.mono (by first | assumption | (simp <;> omega) | (simp; done)))) | exact Lib.hid ((((Below.refl w.heap.size w).alloc (Nat.le_refl _) _).alloc (by simp <;> omega) _).trans (hb1.mono (by first | assumption | (simp <;> omega) | (simp; done)))) | exact Lib.hid (((((Below.refl w.heap.size w).alloc (Nat.le_refl _) _).alloc (by simp <;> omega) _).alloc (by simp <;> omega) _).trans (hb1.mono (by first | assumption | (simp <;> omega) | (simp; done))))
    clear hb1
    go_simp
    go_wp2_with fail
    refine (H2.out _).mono ?_
    rintro e V2 ⟨rfl, hb2⟩
    have B2 := Lib.hid (((B1.out).alloc (B1.out.size) _).trans (hb2.mono (by have := B1.out.size; first | assumption | (simp <;> omega) | (simp; done))))
    have Q1 := Lib.hid (row_call hb2 (heap_alloc_new _ _))
    clear hb2
    have Q1_0 : V2.cell? ⟨V1.heap.size, 0, none⟩ = some (.int .u64 (zh q)) := cell_of_row _ _ _ _ _ _ Q1.out
    have Q1_1 : V2.cell? ⟨V1.heap.size, 1, none⟩ = some (.int .u64 (zl q)) := cell_of_row _ _ _ _ _ _ Q1.out
    have zQ1 := lt_of_heap Q1.out
    go_simp
    go_wp2
    go_ret3
    exact ⟨rfl, B2.out⟩
theorem mulDiv_none (a b : Int) (ba : in64 a) (bb : in64 b) (w : World) :
    Calls Try.prog 50 #[.int .i64 a, .int .i64 b, .int .i64 0] w fun e w' => e = .returned (.tuple #[.int .i64 0, .int .i64 0, .int .i64 5]) ∧ Below w.heap.size w w' := by
  have H1 := Lib.hid (floor_none a b ba bb)
  clear ba bb
  go_enter Try.func50, Try.ntmps50
  go_wp2_with fail
  
  refine (H1.out _).mono ?_
  rintro e V1 ⟨rfl, hb1⟩
  have B1 : Hid (Below w.heap.size w V1) := by first | exact Lib.hid ((Below.refl w.heap.size w).trans (hb1.mono (by first | assumption | (simp <;> omega) | (simp; done)))) | exact Lib.hid (((Below.refl w.heap.size w).alloc (Nat.le_refl _) _).trans (hb1.mono (by first | assumption | (simp <;> omega) | (simp; done)))) | exact Lib.hid ((((Below.refl w.heap.size w).alloc (Nat.le_refl _) _).alloc (by simp <;> omega) _).trans (hb1.mono (by first | assumption | (simp <;> omega) | (simp; done)))) | exact Lib.hid (((((Below.refl w.heap.size w).alloc (Nat.le_refl _) _).alloc (by simp <;> omega) _).alloc (by simp <;> omega) _).trans (hb1.mono (by first | assumption | (simp <;> omega) | (simp; done))))
  clear hb1
  go_simp
  go_wp2
  go_ret3
  exact ⟨rfl, by first | exact B1.out | exact B1.out.alloc B1.out.size _⟩
/-- the answers by a divisor that may be 0. -/
def dV (n c : Int) : Int := if c = 0 then 0 else iV (fq n c)
def dR (n c : Int) : Int := if c = 0 then 0 else oV (fq n c) (fr n c)
def dM (n c : Int) : Int := if c = 0 then 0 else fr n c
def dE (n c : Int) : Int := if c = 0 then 5 else iE (fq n c)
def dF (c : Int) : Int := if c = 0 then 5 else 0
theorem zcMulDiv_any (a b c : Int) (ba : in64 a) (bb : in64 b) (bc : in64 c) (w : World) :
    Calls Try.prog 50 #[.int .i64 a, .int .i64 b, .int .i64 c] w fun e w' => e = .returned (.tuple #[.int .i64 (dV (a * b) c), .int .i64 (dR (a * b) c), .int .i64 (dE (a * b) c)]) ∧ Below w.heap.size w w' := by
  unfold dV dR dE
  by_cases hc : c = 0
  · subst hc; exact mulDiv_none a b ba bb w
  · rw [if_neg hc, if_neg hc, if_neg hc]; exact mulDiv_any a b c ba bb bc hc w
theorem zcFloorDiv_any (a b : Int) (ba : in64 a) (bb : in64 b) (w : World) :
    Calls Try.prog 46 #[.int .i64 a, .int .i64 b] w fun e w' => e = .returned (.tuple #[.int .i64 (dV a b), .int .i64 (dE a b)]) ∧ Below w.heap.size w w' := by
  have X := zcMulDiv_any a 1 b ba (by unfold in64; omega) bb
  rw [Int.mul_one] at X
  have H1 := Lib.hid X
  clear X ba bb
  generalize dV a b = q at *
  generalize dR a b = r at *
  generalize dE a b = f at *
  go_enter Try.func46, Try.ntmps46
  go_wp2_with fail
  
  refine (H1.out _).mono ?_
  rintro e V1 ⟨rfl, hb1⟩
  have B1 : Hid (Below w.heap.size w V1) := by first | exact Lib.hid ((Below.refl w.heap.size w).trans (hb1.mono (by first | assumption | (simp <;> omega) | (simp; done)))) | exact Lib.hid (((Below.refl w.heap.size w).alloc (Nat.le_refl _) _).trans (hb1.mono (by first | assumption | (simp <;> omega) | (simp; done)))) | exact Lib.hid ((((Below.refl w.heap.size w).alloc (Nat.le_refl _) _).alloc (by simp <;> omega) _).trans (hb1.mono (by first | assumption | (simp <;> omega) | (simp; done)))) | exact Lib.hid (((((Below.refl w.heap.size w).alloc (Nat.le_refl _) _).alloc (by simp <;> omega) _).alloc (by simp <;> omega) _).trans (hb1.mono (by first | assumption | (simp <;> omega) | (simp; done))))
  clear hb1
  go_simp
  go_wp2
  go_ret2
  exact ⟨rfl, by first | exact B1.out | exact B1.out.alloc B1.out.size _⟩
theorem zcFloorMod_any (a b : Int) (ba : in64 a) (bb : in64 b) (w : World) :
    Calls Try.prog 48 #[.int .i64 a, .int .i64 b] w fun e w' => e = .returned (.tuple #[.int .i64 (dM a b), .int .i64 (dF b)]) ∧ Below w.heap.size w w' := by
  have X : ∃ x y : Nat, ∀ w, Calls Try.prog 70 #[.int .i64 a, .int .i64 1, .int .i64 b] w fun e w' => e = .returned (.tuple #[.agg #[.int .u64 x, .int .u64 y], .int .i64 (dM a b), .int .i64 (dF b)]) ∧ Below w.heap.size w w' := by
    unfold dM dF
    by_cases hc : b = 0
    · subst hc; exact ⟨0, 0, floor_none a 1 ba (by unfold in64; omega)⟩
    · rw [if_neg hc, if_neg hc]
      refine ⟨zh (fq (a * 1) b), zl (fq (a * 1) b), ?_⟩
      have := floor_any a 1 b ba (by unfold in64; omega) bb hc
      rw [Int.mul_one] at this ⊢
      exact this
  obtain ⟨x, y, X⟩ := X
  have H1 := Lib.hid X
  clear X ba bb
  generalize dM a b = r at *
  generalize dF b = f at *
  go_enter Try.func48, Try.ntmps48
  go_wp2_with fail
  
  refine (H1.out _).mono ?_
  rintro e V1 ⟨rfl, hb1⟩
  have B1 : Hid (Below w.heap.size w V1) := by first | exact Lib.hid ((Below.refl w.heap.size w).trans (hb1.mono (by first | assumption | (simp <;> omega) | (simp; done)))) | exact Lib.hid (((Below.refl w.heap.size w).alloc (Nat.le_refl _) _).trans (hb1.mono (by first | assumption | (simp <;> omega) | (simp; done)))) | exact Lib.hid ((((Below.refl w.heap.size w).alloc (Nat.le_refl _) _).alloc (by simp <;> omega) _).trans (hb1.mono (by first | assumption | (simp <;> omega) | (simp; done)))) | exact Lib.hid (((((Below.refl w.heap.size w).alloc (Nat.le_refl _) _).alloc (by simp <;> omega) _).alloc (by simp <;> omega) _).trans (hb1.mono (by first | assumption | (simp <;> omega) | (simp; done))))
  clear hb1
  go_simp
  go_wp2
  go_ret2
  exact ⟨rfl, by first | exact B1.out | exact B1.out.alloc B1.out.size _⟩
end Go.Proofs.Ytkmhebfahfaokaa
