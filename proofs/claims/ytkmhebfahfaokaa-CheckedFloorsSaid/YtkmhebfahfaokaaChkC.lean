/- Contracts of package checked's division. -/
import Derived.Test.YtkmhebfahfaokaaChkB
namespace Go.Proofs.Ytkmhebfahfaokaa
set_option linter.unusedVariables false
set_option linter.unusedSimpArgs false
open Go.ChangeShapes Go.WideShapes Go.ChangeAt Go.RowKit

/-- the quotient, rounded down; the rest. -/
def fq (n c : Int) : Int := if 0 < c then n / c else (-n) / (-c)
def fr (n c : Int) : Int := n - c * fq n c

def sg (c : Int) (r : Nat) : Int := if c < 0 then -(r : Int) else (r : Int)
theorem sg_neg {c : Int} {r : Nat} (h : c < 0) : sg c r = -(r : Int) := if_pos h
theorem sg_pos {c : Int} {r : Nat} (h : ¬ c < 0) : sg c r = (r : Int) := if_neg h
theorem wneg (r : Nat) (h : r < 9223372036854775808) : wrap64 (-wrap64 (r : Int)) = -(r : Int) := by unfold wrap64; omega
theorem wpos (r : Nat) (h : r < 9223372036854775808) : wrap64 (r : Int) = (r : Int) := by unfold wrap64; omega
set_option maxHeartbeats 1600000 in
theorem floor_up (a b c : Int) (m1 m2 d q r : Nat) (M : Int) (w : World)
    (H1 : Hid (∀ w, Calls Try.prog 67 #[.int .i64 c] w fun e w' => e = .returned (.int .u64 d) ∧ Below w.heap.size w w'))
    (H2 : Hid (∀ w, Calls Try.prog 67 #[.int .i64 a] w fun e w' => e = .returned (.int .u64 m1) ∧ Below w.heap.size w w'))
    (H3 : Hid (∀ w, Calls Try.prog 67 #[.int .i64 b] w fun e w' => e = .returned (.int .u64 m2) ∧ Below w.heap.size w w'))
    (H4 : Hid (∀ w, Calls Try.prog 26 #[.int .u64 m1, .int .u64 m2] w fun e w' => e = .returned (.agg #[.int .u64 (zh M), .int .u64 (zl M)]) ∧ Below w.heap.size w w'))
    (H5 : Hid (∀ w, Calls Try.prog 24 #[.agg #[.int .u64 (zh M), .int .u64 (zl M)], .int .u64 d] w fun e w' => e = .returned (.tuple #[.agg #[.int .u64 (zh q), .int .u64 (zl q)], .int .u64 r, .int .i64 0]) ∧ Below w.heap.size w w'))
    (x y z p : Bool) (da : decide (a < 0) = x) (db : decide (b < 0) = y) (dc : decide (c < 0) = z) (e1 : (x == y) = p) (h63 : r < 9223372036854775808) (e2 : ((!p) == z) = true) :
    Calls Try.prog 70 #[.int .i64 a, .int .i64 b, .int .i64 c] w fun e w' => e = .returned (.tuple #[.agg #[.int .u64 (zh (q)), .int .u64 (zl (q))], .int .i64 (sg c r), .int .i64 0]) ∧ Below w.heap.size w w' := by
  have k1 := wneg r h63
  have k2 := wpos r h63
  have K1 := Lib.hid k1
  have K2 := Lib.hid k2
  have K3 := Lib.hid (@sg_neg c r)
  have K4 := Lib.hid (@sg_pos c r)
  clear k1 k2 h63
  go_enter Try.func70, Try.ntmps70
  go_wp2_with fail
  
  refine (H1.out _).mono ?_
  rintro e V1 ⟨rfl, hb1⟩
  have B1 := Lib.hid (((Below.refl w.heap.size w).alloc (Nat.le_refl _) _).trans (hb1.mono (by first | assumption | (simp <;> omega) | (simp; done))))
  have Z1 := Lib.hid (row_call hb1 (heap_alloc_new _ _))
  clear hb1
  have Z1_0 : V1.cell? ⟨w.heap.size, 0, none⟩ = some (.int .u64 0) := cell_of_row _ _ _ _ _ _ Z1.out
  have Z1_1 : V1.cell? ⟨w.heap.size, 1, none⟩ = some (.int .u64 0) := cell_of_row _ _ _ _ _ _ Z1.out
  have Z1_f0 : V1.frozen? ⟨w.heap.size, 0, none⟩ = false := by simp [World.frozen?, Z1.out]
  have Z1_f1 : V1.frozen? ⟨w.heap.size, 1, none⟩ = false := by simp [World.frozen?, Z1.out]
  have zZ1 := lt_of_heap Z1.out
  go_simp
  go_wp2_with fail
  refine (H2.out _).mono ?_
  rintro e V2 ⟨rfl, hb2⟩
  clear Z1_0 Z1_1 Z1_f0 Z1_f1 zZ1
  have B2 : Hid (Below w.heap.size w V2) := by first | exact Lib.hid ((B1.out).trans (hb2.mono (by have := B1.out.size; first | assumption | (simp <;> omega) | (simp; done)))) | exact Lib.hid (((B1.out).alloc (B1.out.size) _).trans (hb2.mono (by have := B1.out.size; first | assumption | (simp <;> omega) | (simp; done)))) | exact Lib.hid ((((B1.out).alloc (B1.out.size) _).alloc (by have := B1.out.size; simp <;> omega) _).trans (hb2.mono (by have := B1.out.size; first | assumption | (simp <;> omega) | (simp; done)))) | exact Lib.hid (((((B1.out).alloc (B1.out.size) _).alloc (by have := B1.out.size; simp <;> omega) _).alloc (by have := B1.out.size; simp <;> omega) _).trans (hb2.mono (by have := B1.out.size; first | assumption | (simp <;> omega) | (simp; done))))
  first | replace Z1 := Lib.hid (row_call hb2 Z1.out) | replace Z1 := Lib.hid (row_call hb2 (row_alloc Z1.out _)) | replace Z1 := Lib.hid (row_call hb2 (row_alloc (row_alloc Z1.out _) _)) | replace Z1 := Lib.hid (row_call hb2 (row_alloc (row_alloc (row_alloc Z1.out _) _) _))
  clear hb2
  have Z1_0 : V2.cell? ⟨w.heap.size, 0, none⟩ = some (.int .u64 0) := cell_of_row _ _ _ _ _ _ Z1.out
  have Z1_1 : V2.cell? ⟨w.heap.size, 1, none⟩ = some (.int .u64 0) := cell_of_row _ _ _ _ _ _ Z1.out
  have Z1_f0 : V2.frozen? ⟨w.heap.size, 0, none⟩ = false := by simp [World.frozen?, Z1.out]
  have Z1_f1 : V2.frozen? ⟨w.heap.size, 1, none⟩ = false := by simp [World.frozen?, Z1.out]
  have zZ1 := lt_of_heap Z1.out
  go_simp
  go_wp2_with fail
  refine (H3.out _).mono ?_
  rintro e V3 ⟨rfl, hb3⟩
  clear Z1_0 Z1_1 Z1_f0 Z1_f1 zZ1
  have B3 : Hid (Below w.heap.size w V3) := by first | exact Lib.hid ((B2.out).trans (hb3.mono (by have := B2.out.size; first | assumption | (simp <;> omega) | (simp; done)))) | exact Lib.hid (((B2.out).alloc (B2.out.size) _).trans (hb3.mono (by have := B2.out.size; first | assumption | (simp <;> omega) | (simp; done)))) | exact Lib.hid ((((B2.out).alloc (B2.out.size) _).alloc (by have := B2.out.size; simp <;> omega) _).trans (hb3.mono (by have := B2.out.size; first | assumption | (simp <;> omega) | (simp; done)))) | exact Lib.hid (((((B2.out).alloc (B2.out.size) _).alloc (by have := B2.out.size; simp <;> omega) _).alloc (by have := B2.out.size; simp <;> omega) _).trans (hb3.mono (by have := B2.out.size; first | assumption | (simp <;> omega) | (simp; done))))
  first | replace Z1 := Lib.hid (row_call hb3 Z1.out) | replace Z1 := Lib.hid (row_call hb3 (row_alloc Z1.out _)) | replace Z1 := Lib.hid (row_call hb3 (row_alloc (row_alloc Z1.out _) _)) | replace Z1 := Lib.hid (row_call hb3 (row_alloc (row_alloc (row_alloc Z1.out _) _) _))
  clear hb3
  have Z1_0 : V3.cell? ⟨w.heap.size, 0, none⟩ = some (.int .u64 0) := cell_of_row _ _ _ _ _ _ Z1.out
  have Z1_1 : V3.cell? ⟨w.heap.size, 1, none⟩ = some (.int .u64 0) := cell_of_row _ _ _ _ _ _ Z1.out
  have Z1_f0 : V3.frozen? ⟨w.heap.size, 0, none⟩ = false := by simp [World.frozen?, Z1.out]
  have Z1_f1 : V3.frozen? ⟨w.heap.size, 1, none⟩ = false := by simp [World.frozen?, Z1.out]
  have zZ1 := lt_of_heap Z1.out
  go_simp
  go_wp2_with fail
  refine (H4.out _).mono ?_
  rintro e V4 ⟨rfl, hb4⟩
  clear Z1_0 Z1_1 Z1_f0 Z1_f1 zZ1
  have B4 : Hid (Below w.heap.size w V4) := by first | exact Lib.hid ((B3.out).trans (hb4.mono (by have := B3.out.size; first | assumption | (simp <;> omega) | (simp; done)))) | exact Lib.hid (((B3.out).alloc (B3.out.size) _).trans (hb4.mono (by have := B3.out.size; first | assumption | (simp <;> omega) | (simp; done)))) | exact Lib.hid ((((B3.out).alloc (B3.out.size) _).alloc (by have := B3.out.size; simp <;> omega) _).trans (hb4.mono (by have := B3.out.size; first | assumption | (simp <;> omega) | (simp; done)))) | exact Lib.hid (((((B3.out).alloc (B3.out.size) _).alloc (by have := B3.out.size; simp <;> omega) _).alloc (by have := B3.out.size; simp <;> omega) _).trans (hb4.mono (by have := B3.out.size; first | assumption | (simp <;> omega) | (simp; done))))
  first | replace Z1 := Lib.hid (row_call hb4 Z1.out) | replace Z1 := Lib.hid (row_call hb4 (row_alloc Z1.out _)) | replace Z1 := Lib.hid (row_call hb4 (row_alloc (row_alloc Z1.out _) _)) | replace Z1 := Lib.hid (row_call hb4 (row_alloc (row_alloc (row_alloc Z1.out _) _) _))
  clear hb4
  have Z1_0 : V4.cell? ⟨w.heap.size, 0, none⟩ = some (.int .u64 0) := cell_of_row _ _ _ _ _ _ Z1.out
  have Z1_1 : V4.cell? ⟨w.heap.size, 1, none⟩ = some (.int .u64 0) := cell_of_row _ _ _ _ _ _ Z1.out
  have Z1_f0 : V4.frozen? ⟨w.heap.size, 0, none⟩ = false := by simp [World.frozen?, Z1.out]
  have Z1_f1 : V4.frozen? ⟨w.heap.size, 1, none⟩ = false := by simp [World.frozen?, Z1.out]
  have zZ1 := lt_of_heap Z1.out
  go_simp
  go_wp2_with fail
  refine (H5.out _).mono ?_
  rintro e V5 ⟨rfl, hb5⟩
  clear Z1_0 Z1_1 Z1_f0 Z1_f1 zZ1
  have B5 : Hid (Below w.heap.size w V5) := by first | exact Lib.hid ((B4.out).trans (hb5.mono (by have := B4.out.size; first | assumption | (simp <;> omega) | (simp; done)))) | exact Lib.hid (((B4.out).alloc (B4.out.size) _).trans (hb5.mono (by have := B4.out.size; first | assumption | (simp <;> omega) | (simp; done)))) | exact Lib.hid ((((B4.out).alloc (B4.out.size) _).alloc (by have := B4.out.size; simp <;> omega) _).trans (hb5.mono (by have := B4.out.size; first | assumption | (simp <;> omega) | (simp; done)))) | exact Lib.hid (((((B4.out).alloc (B4.out.size) _).alloc (by have := B4.out.size; simp <;> omega) _).alloc (by have := B4.out.size; simp <;> omega) _).trans (hb5.mono (by have := B4.out.size; first | assumption | (simp <;> omega) | (simp; done))))
  first | replace Z1 := Lib.hid (row_call hb5 Z1.out) | replace Z1 := Lib.hid (row_call hb5 (row_alloc Z1.out _)) | replace Z1 := Lib.hid (row_call hb5 (row_alloc (row_alloc Z1.out _) _)) | replace Z1 := Lib.hid (row_call hb5 (row_alloc (row_alloc (row_alloc Z1.out _) _) _))
  clear hb5
  have Z1_0 : V5.cell? ⟨w.heap.size, 0, none⟩ = some (.int .u64 0) := cell_of_row _ _ _ _ _ _ Z1.out
  have Z1_1 : V5.cell? ⟨w.heap.size, 1, none⟩ = some (.int .u64 0) := cell_of_row _ _ _ _ _ _ Z1.out
  have Z1_f0 : V5.frozen? ⟨w.heap.size, 0, none⟩ = false := by simp [World.frozen?, Z1.out]
  have Z1_f1 : V5.frozen? ⟨w.heap.size, 1, none⟩ = false := by simp [World.frozen?, Z1.out]
  have zZ1 := lt_of_heap Z1.out
  go_simp
  go_wp2
  · rename_i hc
    refine bodyPost_ret (v := .tuple #[.agg #[.int .u64 (zh (q)), .int .u64 (zl (q))], .int .i64 (wrap64 (-wrap64 (r : Int))), .int .i64 0]) (by simp [results, Try.results70, go_sem, Z1_0, Z1_1, zZ1]) rfl ⟨by rw [K1.out, K3.out (of_decide_eq_true (dc.trans hc))], ?_⟩
    exact (keep2 B5.out (Nat.le_refl _) _ _).alloc (by have := B5.out.size; simp; omega) _
  · rename_i hc
    refine bodyPost_ret (v := .tuple #[.agg #[.int .u64 (zh (q)), .int .u64 (zl (q))], .int .i64 (wrap64 (r : Int)), .int .i64 0]) (by simp [results, Try.results70, go_sem, Z1_0, Z1_1, zZ1]) rfl ⟨by rw [K2.out, K4.out (by have := of_decide_eq_false (dc.trans (by simpa using hc)); omega)], ?_⟩
    exact (keep2 B5.out (Nat.le_refl _) _ _).alloc (by have := B5.out.size; simp; omega) _
set_option maxHeartbeats 1600000 in
theorem floor_zero (a b c : Int) (m1 m2 d q r : Nat) (M : Int) (w : World)
    (H1 : Hid (∀ w, Calls Try.prog 67 #[.int .i64 c] w fun e w' => e = .returned (.int .u64 d) ∧ Below w.heap.size w w'))
    (H2 : Hid (∀ w, Calls Try.prog 67 #[.int .i64 a] w fun e w' => e = .returned (.int .u64 m1) ∧ Below w.heap.size w w'))
    (H3 : Hid (∀ w, Calls Try.prog 67 #[.int .i64 b] w fun e w' => e = .returned (.int .u64 m2) ∧ Below w.heap.size w w'))
    (H4 : Hid (∀ w, Calls Try.prog 26 #[.int .u64 m1, .int .u64 m2] w fun e w' => e = .returned (.agg #[.int .u64 (zh M), .int .u64 (zl M)]) ∧ Below w.heap.size w w'))
    (H5 : Hid (∀ w, Calls Try.prog 24 #[.agg #[.int .u64 (zh M), .int .u64 (zl M)], .int .u64 d] w fun e w' => e = .returned (.tuple #[.agg #[.int .u64 (zh q), .int .u64 (zl q)], .int .u64 r, .int .i64 0]) ∧ Below w.heap.size w w'))
    (x y z p : Bool) (da : decide (a < 0) = x) (db : decide (b < 0) = y) (dc : decide (c < 0) = z) (e1 : (x == y) = p) (h63 : r < 9223372036854775808) (e2 : ((!p) == z) = false) (hr : r = 0) (Q : Int)
    (H8 : Hid (∀ w, Calls Try.prog 17 #[.agg #[.int .u64 (zh q), .int .u64 (zl q)]] w fun e w' => e = .returned (.agg #[.int .u64 (zh Q), .int .u64 (zl Q)]) ∧ Below w.heap.size w w')) :
    Calls Try.prog 70 #[.int .i64 a, .int .i64 b, .int .i64 c] w fun e w' => e = .returned (.tuple #[.agg #[.int .u64 (zh (Q)), .int .u64 (zl (Q))], .int .i64 (sg c r), .int .i64 0]) ∧ Below w.heap.size w w' := by
  have hsg := Lib.hid (show sg c r = 0 by unfold sg; split <;> omega)
  have k1 := wneg r h63
  have k2 := wpos r h63
  have K1 := Lib.hid k1
  have K2 := Lib.hid k2
  have K3 := Lib.hid (@sg_neg c r)
  have K4 := Lib.hid (@sg_pos c r)
  clear k1 k2 h63
  go_enter Try.func70, Try.ntmps70
  go_wp2_with fail
  
  refine (H1.out _).mono ?_
  rintro e V1 ⟨rfl, hb1⟩
  have B1 := Lib.hid (((Below.refl w.heap.size w).alloc (Nat.le_refl _) _).trans (hb1.mono (by first | assumption | (simp <;> omega) | (simp; done))))
  have Z1 := Lib.hid (row_call hb1 (heap_alloc_new _ _))
  clear hb1
  have Z1_0 : V1.cell? ⟨w.heap.size, 0, none⟩ = some (.int .u64 0) := cell_of_row _ _ _ _ _ _ Z1.out
  have Z1_1 : V1.cell? ⟨w.heap.size, 1, none⟩ = some (.int .u64 0) := cell_of_row _ _ _ _ _ _ Z1.out
  have Z1_f0 : V1.frozen? ⟨w.heap.size, 0, none⟩ = false := by simp [World.frozen?, Z1.out]
  have Z1_f1 : V1.frozen? ⟨w.heap.size, 1, none⟩ = false := by simp [World.frozen?, Z1.out]
  have zZ1 := lt_of_heap Z1.out
  go_simp
  go_wp2_with fail
  refine (H2.out _).mono ?_
  rintro e V2 ⟨rfl, hb2⟩
  clear Z1_0 Z1_1 Z1_f0 Z1_f1 zZ1
  have B2 : Hid (Below w.heap.size w V2) := by first | exact Lib.hid ((B1.out).trans (hb2.mono (by have := B1.out.size; first | assumption | (simp <;> omega) | (simp; done)))) | exact Lib.hid (((B1.out).alloc (B1.out.size) _).trans (hb2.mono (by have := B1.out.size; first | assumption | (simp <;> omega) | (simp; done)))) | exact Lib.hid ((((B1.out).alloc (B1.out.size) _).alloc (by have := B1.out.size; simp <;> omega) _).trans (hb2.mono (by have := B1.out.size; first | assumption | (simp <;> omega) | (simp; done)))) | exact Lib.hid (((((B1.out).alloc (B1.out.size) _).alloc (by have := B1.out.size; simp <;> omega) _).alloc (by have := B1.out.size; simp <;> omega) _).trans (hb2.mono (by have := B1.out.size; first | assumption | (simp <;> omega) | (simp; done))))
  first | replace Z1 := Lib.hid (row_call hb2 Z1.out) | replace Z1 := Lib.hid (row_call hb2 (row_alloc Z1.out _)) | replace Z1 := Lib.hid (row_call hb2 (row_alloc (row_alloc Z1.out _) _)) | replace Z1 := Lib.hid (row_call hb2 (row_alloc (row_alloc (row_alloc Z1.out _) _) _))
  clear hb2
  have Z1_0 : V2.cell? ⟨w.heap.size, 0, none⟩ = some (.int .u64 0) := cell_of_row _ _ _ _ _ _ Z1.out
  have Z1_1 : V2.cell? ⟨w.heap.size, 1, none⟩ = some (.int .u64 0) := cell_of_row _ _ _ _ _ _ Z1.out
  have Z1_f0 : V2.frozen? ⟨w.heap.size, 0, none⟩ = false := by simp [World.frozen?, Z1.out]
  have Z1_f1 : V2.frozen? ⟨w.heap.size, 1, none⟩ = false := by simp [World.frozen?, Z1.out]
  have zZ1 := lt_of_heap Z1.out
  go_simp
  go_wp2_with fail
  refine (H3.out _).mono ?_
  rintro e V3 ⟨rfl, hb3⟩
  clear Z1_0 Z1_1 Z1_f0 Z1_f1 zZ1
  have B3 : Hid (Below w.heap.size w V3) := by first | exact Lib.hid ((B2.out).trans (hb3.mono (by have := B2.out.size; first | assumption | (simp <;> omega) | (simp; done)))) | exact Lib.hid (((B2.out).alloc (B2.out.size) _).trans (hb3.mono (by have := B2.out.size; first | assumption | (simp <;> omega) | (simp; done)))) | exact Lib.hid ((((B2.out).alloc (B2.out.size) _).alloc (by have := B2.out.size; simp <;> omega) _).trans (hb3.mono (by have := B2.out.size; first | assumption | (simp <;> omega) | (simp; done)))) | exact Lib.hid (((((B2.out).alloc (B2.out.size) _).alloc (by have := B2.out.size; simp <;> omega) _).alloc (by have := B2.out.size; simp <;> omega) _).trans (hb3.mono (by have := B2.out.size; first | assumption | (simp <;> omega) | (simp; done))))
  first | replace Z1 := Lib.hid (row_call hb3 Z1.out) | replace Z1 := Lib.hid (row_call hb3 (row_alloc Z1.out _)) | replace Z1 := Lib.hid (row_call hb3 (row_alloc (row_alloc Z1.out _) _)) | replace Z1 := Lib.hid (row_call hb3 (row_alloc (row_alloc (row_alloc Z1.out _) _) _))
  clear hb3
  have Z1_0 : V3.cell? ⟨w.heap.size, 0, none⟩ = some (.int .u64 0) := cell_of_row _ _ _ _ _ _ Z1.out
  have Z1_1 : V3.cell? ⟨w.heap.size, 1, none⟩ = some (.int .u64 0) := cell_of_row _ _ _ _ _ _ Z1.out
  have Z1_f0 : V3.frozen? ⟨w.heap.size, 0, none⟩ = false := by simp [World.frozen?, Z1.out]
  have Z1_f1 : V3.frozen? ⟨w.heap.size, 1, none⟩ = false := by simp [World.frozen?, Z1.out]
  have zZ1 := lt_of_heap Z1.out
  go_simp
  go_wp2_with fail
  refine (H4.out _).mono ?_
  rintro e V4 ⟨rfl, hb4⟩
  clear Z1_0 Z1_1 Z1_f0 Z1_f1 zZ1
  have B4 : Hid (Below w.heap.size w V4) := by first | exact Lib.hid ((B3.out).trans (hb4.mono (by have := B3.out.size; first | assumption | (simp <;> omega) | (simp; done)))) | exact Lib.hid (((B3.out).alloc (B3.out.size) _).trans (hb4.mono (by have := B3.out.size; first | assumption | (simp <;> omega) | (simp; done)))) | exact Lib.hid ((((B3.out).alloc (B3.out.size) _).alloc (by have := B3.out.size; simp <;> omega) _).trans (hb4.mono (by have := B3.out.size; first | assumption | (simp <;> omega) | (simp; done)))) | exact Lib.hid (((((B3.out).alloc (B3.out.size) _).alloc (by have := B3.out.size; simp <;> omega) _).alloc (by have := B3.out.size; simp <;> omega) _).trans (hb4.mono (by have := B3.out.size; first | assumption | (simp <;> omega) | (simp; done))))
  first | replace Z1 := Lib.hid (row_call hb4 Z1.out) | replace Z1 := Lib.hid (row_call hb4 (row_alloc Z1.out _)) | replace Z1 := Lib.hid (row_call hb4 (row_alloc (row_alloc Z1.out _) _)) | replace Z1 := Lib.hid (row_call hb4 (row_alloc (row_alloc (row_alloc Z1.out _) _) _))
  clear hb4
  have Z1_0 : V4.cell? ⟨w.heap.size, 0, none⟩ = some (.int .u64 0) := cell_of_row _ _ _ _ _ _ Z1.out
  have Z1_1 : V4.cell? ⟨w.heap.size, 1, none⟩ = some (.int .u64 0) := cell_of_row _ _ _ _ _ _ Z1.out
  have Z1_f0 : V4.frozen? ⟨w.heap.size, 0, none⟩ = false := by simp [World.frozen?, Z1.out]
  have Z1_f1 : V4.frozen? ⟨w.heap.size, 1, none⟩ = false := by simp [World.frozen?, Z1.out]
  have zZ1 := lt_of_heap Z1.out
  go_simp
  go_wp2_with fail
  have hr1 : (r : Int) = 0 := by omega
  refine (H5.out _).mono ?_
  rintro e V5 ⟨rfl, hb5⟩
  clear Z1_0 Z1_1 Z1_f0 Z1_f1 zZ1
  have B5 : Hid (Below w.heap.size w V5) := by first | exact Lib.hid ((B4.out).trans (hb5.mono (by have := B4.out.size; first | assumption | (simp <;> omega) | (simp; done)))) | exact Lib.hid (((B4.out).alloc (B4.out.size) _).trans (hb5.mono (by have := B4.out.size; first | assumption | (simp <;> omega) | (simp; done)))) | exact Lib.hid ((((B4.out).alloc (B4.out.size) _).alloc (by have := B4.out.size; simp <;> omega) _).trans (hb5.mono (by have := B4.out.size; first | assumption | (simp <;> omega) | (simp; done)))) | exact Lib.hid (((((B4.out).alloc (B4.out.size) _).alloc (by have := B4.out.size; simp <;> omega) _).alloc (by have := B4.out.size; simp <;> omega) _).trans (hb5.mono (by have := B4.out.size; first | assumption | (simp <;> omega) | (simp; done))))
  first | replace Z1 := Lib.hid (row_call hb5 Z1.out) | replace Z1 := Lib.hid (row_call hb5 (row_alloc Z1.out _)) | replace Z1 := Lib.hid (row_call hb5 (row_alloc (row_alloc Z1.out _) _)) | replace Z1 := Lib.hid (row_call hb5 (row_alloc (row_alloc (row_alloc Z1.out _) _) _))
  clear hb5
  have Z1_0 : V5.cell? ⟨w.heap.size, 0, none⟩ = some (.int .u64 0) := cell_of_row _ _ _ _ _ _ Z1.out
  have Z1_1 : V5.cell? ⟨w.heap.size, 1, none⟩ = some (.int .u64 0) := cell_of_row _ _ _ _ _ _ Z1.out
  have Z1_f0 : V5.frozen? ⟨w.heap.size, 0, none⟩ = false := by simp [World.frozen?, Z1.out]
  have Z1_f1 : V5.frozen? ⟨w.heap.size, 1, none⟩ = false := by simp [World.frozen?, Z1.out]
  have zZ1 := lt_of_heap Z1.out
  go_simp
  go_wp2_with fail
  refine (H8.out _).mono ?_
  rintro e V6 ⟨rfl, hb6⟩
  clear Z1_0 Z1_1 Z1_f0 Z1_f1 zZ1
  have nZ1Q1 := Lib.hid (lt_of_heap Z1.out)
  have nlZ1Q1 : ¬ (w.heap.size = V5.heap.size) := Nat.ne_of_lt (lt_of_heap Z1.out)
  have nrZ1Q1 : ¬ (V5.heap.size = w.heap.size) := Ne.symm (Nat.ne_of_lt (lt_of_heap Z1.out))
  have B6 := Lib.hid (((B5.out).alloc (B5.out.size) _).trans (hb6.mono (by have := B5.out.size; first | assumption | (simp <;> omega) | (simp; done))))
  replace Z1 := Lib.hid (row_call hb6 (row_alloc Z1.out _))
  have Q1 := Lib.hid (row_call hb6 (heap_alloc_new _ _))
  clear hb6
  have Z1_0 : V6.cell? ⟨w.heap.size, 0, none⟩ = some (.int .u64 0) := cell_of_row _ _ _ _ _ _ Z1.out
  have Z1_1 : V6.cell? ⟨w.heap.size, 1, none⟩ = some (.int .u64 0) := cell_of_row _ _ _ _ _ _ Z1.out
  have Z1_f0 : V6.frozen? ⟨w.heap.size, 0, none⟩ = false := by simp [World.frozen?, Z1.out]
  have Z1_f1 : V6.frozen? ⟨w.heap.size, 1, none⟩ = false := by simp [World.frozen?, Z1.out]
  have Q1_0 : V6.cell? ⟨V5.heap.size, 0, none⟩ = some (.int .u64 (zh q)) := cell_of_row _ _ _ _ _ _ Q1.out
  have Q1_1 : V6.cell? ⟨V5.heap.size, 1, none⟩ = some (.int .u64 (zl q)) := cell_of_row _ _ _ _ _ _ Q1.out
  have Q1_f0 : V6.frozen? ⟨V5.heap.size, 0, none⟩ = false := by simp [World.frozen?, Q1.out]
  have Q1_f1 : V6.frozen? ⟨V5.heap.size, 1, none⟩ = false := by simp [World.frozen?, Q1.out]
  have zZ1 := lt_of_heap Z1.out
  have zQ1 := lt_of_heap Q1.out
  go_simp
  go_wp2
  all_goals
    refine bodyPost_ret (v := .tuple #[.agg #[.int .u64 (zh (Q)), .int .u64 (zl (Q))], .int .i64 0, .int .i64 0]) (by simp [results, Try.results70, go_sem, Z1_0, Z1_1, zZ1, nlZ1Q1, nrZ1Q1]) rfl ⟨by rw [hsg.out], ?_⟩
    exact keep2 (keep2 B6.out (by have := B5.out.size; omega) _ _) (Nat.le_refl _) _ _
set_option maxHeartbeats 1600000 in
theorem floor_down (a b c : Int) (m1 m2 d q r s : Nat) (M : Int) (w : World)
    (H1 : Hid (∀ w, Calls Try.prog 67 #[.int .i64 c] w fun e w' => e = .returned (.int .u64 d) ∧ Below w.heap.size w w'))
    (H2 : Hid (∀ w, Calls Try.prog 67 #[.int .i64 a] w fun e w' => e = .returned (.int .u64 m1) ∧ Below w.heap.size w w'))
    (H3 : Hid (∀ w, Calls Try.prog 67 #[.int .i64 b] w fun e w' => e = .returned (.int .u64 m2) ∧ Below w.heap.size w w'))
    (H4 : Hid (∀ w, Calls Try.prog 26 #[.int .u64 m1, .int .u64 m2] w fun e w' => e = .returned (.agg #[.int .u64 (zh M), .int .u64 (zl M)]) ∧ Below w.heap.size w w'))
    (H5 : Hid (∀ w, Calls Try.prog 24 #[.agg #[.int .u64 (zh M), .int .u64 (zl M)], .int .u64 d] w fun e w' => e = .returned (.tuple #[.agg #[.int .u64 (zh q), .int .u64 (zl q)], .int .u64 r, .int .i64 0]) ∧ Below w.heap.size w w'))
    (x y z p : Bool) (da : decide (a < 0) = x) (db : decide (b < 0) = y) (dc : decide (c < 0) = z) (e1 : (x == y) = p) (h63 : s < 9223372036854775808) (e2 : ((!p) == z) = false) (hr : ¬ r = 0) (f : IntKind.u64.wrap ((d : Int) - (r : Int)) = (s : Int)) (q1 Q : Int) (o : Bool)
    (H6 : Hid (∀ w, Calls Try.prog 29 #[.int .i64 1] w fun e w' => e = .returned (.agg #[.int .u64 (zh 1), .int .u64 (zl 1)]) ∧ Below w.heap.size w w'))
    (H7 : Hid (∀ w, Calls Try.prog 13 #[.agg #[.int .u64 (zh q), .int .u64 (zl q)], .agg #[.int .u64 (zh 1), .int .u64 (zl 1)]] w fun e w' => e = .returned (.tuple #[.agg #[.int .u64 (zh q1), .int .u64 (zl q1)], .bool o]) ∧ Below w.heap.size w w'))
    (H8 : Hid (∀ w, Calls Try.prog 17 #[.agg #[.int .u64 (zh q1), .int .u64 (zl q1)]] w fun e w' => e = .returned (.agg #[.int .u64 (zh Q), .int .u64 (zl Q)]) ∧ Below w.heap.size w w')) :
    Calls Try.prog 70 #[.int .i64 a, .int .i64 b, .int .i64 c] w fun e w' => e = .returned (.tuple #[.agg #[.int .u64 (zh (Q)), .int .u64 (zl (Q))], .int .i64 (sg c s), .int .i64 0]) ∧ Below w.heap.size w w' := by
  have k1 := wneg s h63
  have k2 := wpos s h63
  have K1 := Lib.hid k1
  have K2 := Lib.hid k2
  have K3 := Lib.hid (@sg_neg c s)
  have K4 := Lib.hid (@sg_pos c s)
  clear k1 k2 h63
  go_enter Try.func70, Try.ntmps70
  go_wp2_with fail
  
  refine (H1.out _).mono ?_
  rintro e V1 ⟨rfl, hb1⟩
  have B1 := Lib.hid (((Below.refl w.heap.size w).alloc (Nat.le_refl _) _).trans (hb1.mono (by first | assumption | (simp <;> omega) | (simp; done))))
  have Z1 := Lib.hid (row_call hb1 (heap_alloc_new _ _))
  clear hb1
  have Z1_0 : V1.cell? ⟨w.heap.size, 0, none⟩ = some (.int .u64 0) := cell_of_row _ _ _ _ _ _ Z1.out
  have Z1_1 : V1.cell? ⟨w.heap.size, 1, none⟩ = some (.int .u64 0) := cell_of_row _ _ _ _ _ _ Z1.out
  have Z1_f0 : V1.frozen? ⟨w.heap.size, 0, none⟩ = false := by simp [World.frozen?, Z1.out]
  have Z1_f1 : V1.frozen? ⟨w.heap.size, 1, none⟩ = false := by simp [World.frozen?, Z1.out]
  have zZ1 := lt_of_heap Z1.out
  go_simp
  go_wp2_with fail
  refine (H2.out _).mono ?_
  rintro e V2 ⟨rfl, hb2⟩
  clear Z1_0 Z1_1 Z1_f0 Z1_f1 zZ1
  have B2 : Hid (Below w.heap.size w V2) := by first | exact Lib.hid ((B1.out).trans (hb2.mono (by have := B1.out.size; first | assumption | (simp <;> omega) | (simp; done)))) | exact Lib.hid (((B1.out).alloc (B1.out.size) _).trans (hb2.mono (by have := B1.out.size; first | assumption | (simp <;> omega) | (simp; done)))) | exact Lib.hid ((((B1.out).alloc (B1.out.size) _).alloc (by have := B1.out.size; simp <;> omega) _).trans (hb2.mono (by have := B1.out.size; first | assumption | (simp <;> omega) | (simp; done)))) | exact Lib.hid (((((B1.out).alloc (B1.out.size) _).alloc (by have := B1.out.size; simp <;> omega) _).alloc (by have := B1.out.size; simp <;> omega) _).trans (hb2.mono (by have := B1.out.size; first | assumption | (simp <;> omega) | (simp; done))))
  first | replace Z1 := Lib.hid (row_call hb2 Z1.out) | replace Z1 := Lib.hid (row_call hb2 (row_alloc Z1.out _)) | replace Z1 := Lib.hid (row_call hb2 (row_alloc (row_alloc Z1.out _) _)) | replace Z1 := Lib.hid (row_call hb2 (row_alloc (row_alloc (row_alloc Z1.out _) _) _))
  clear hb2
  have Z1_0 : V2.cell? ⟨w.heap.size, 0, none⟩ = some (.int .u64 0) := cell_of_row _ _ _ _ _ _ Z1.out
  have Z1_1 : V2.cell? ⟨w.heap.size, 1, none⟩ = some (.int .u64 0) := cell_of_row _ _ _ _ _ _ Z1.out
  have Z1_f0 : V2.frozen? ⟨w.heap.size, 0, none⟩ = false := by simp [World.frozen?, Z1.out]
  have Z1_f1 : V2.frozen? ⟨w.heap.size, 1, none⟩ = false := by simp [World.frozen?, Z1.out]
  have zZ1 := lt_of_heap Z1.out
  go_simp
  go_wp2_with fail
  refine (H3.out _).mono ?_
  rintro e V3 ⟨rfl, hb3⟩
  clear Z1_0 Z1_1 Z1_f0 Z1_f1 zZ1
  have B3 : Hid (Below w.heap.size w V3) := by first | exact Lib.hid ((B2.out).trans (hb3.mono (by have := B2.out.size; first | assumption | (simp <;> omega) | (simp; done)))) | exact Lib.hid (((B2.out).alloc (B2.out.size) _).trans (hb3.mono (by have := B2.out.size; first | assumption | (simp <;> omega) | (simp; done)))) | exact Lib.hid ((((B2.out).alloc (B2.out.size) _).alloc (by have := B2.out.size; simp <;> omega) _).trans (hb3.mono (by have := B2.out.size; first | assumption | (simp <;> omega) | (simp; done)))) | exact Lib.hid (((((B2.out).alloc (B2.out.size) _).alloc (by have := B2.out.size; simp <;> omega) _).alloc (by have := B2.out.size; simp <;> omega) _).trans (hb3.mono (by have := B2.out.size; first | assumption | (simp <;> omega) | (simp; done))))
  first | replace Z1 := Lib.hid (row_call hb3 Z1.out) | replace Z1 := Lib.hid (row_call hb3 (row_alloc Z1.out _)) | replace Z1 := Lib.hid (row_call hb3 (row_alloc (row_alloc Z1.out _) _)) | replace Z1 := Lib.hid (row_call hb3 (row_alloc (row_alloc (row_alloc Z1.out _) _) _))
  clear hb3
  have Z1_0 : V3.cell? ⟨w.heap.size, 0, none⟩ = some (.int .u64 0) := cell_of_row _ _ _ _ _ _ Z1.out
  have Z1_1 : V3.cell? ⟨w.heap.size, 1, none⟩ = some (.int .u64 0) := cell_of_row _ _ _ _ _ _ Z1.out
  have Z1_f0 : V3.frozen? ⟨w.heap.size, 0, none⟩ = false := by simp [World.frozen?, Z1.out]
  have Z1_f1 : V3.frozen? ⟨w.heap.size, 1, none⟩ = false := by simp [World.frozen?, Z1.out]
  have zZ1 := lt_of_heap Z1.out
  go_simp
  go_wp2_with fail
  refine (H4.out _).mono ?_
  rintro e V4 ⟨rfl, hb4⟩
  clear Z1_0 Z1_1 Z1_f0 Z1_f1 zZ1
  have B4 : Hid (Below w.heap.size w V4) := by first | exact Lib.hid ((B3.out).trans (hb4.mono (by have := B3.out.size; first | assumption | (simp <;> omega) | (simp; done)))) | exact Lib.hid (((B3.out).alloc (B3.out.size) _).trans (hb4.mono (by have := B3.out.size; first | assumption | (simp <;> omega) | (simp; done)))) | exact Lib.hid ((((B3.out).alloc (B3.out.size) _).alloc (by have := B3.out.size; simp <;> omega) _).trans (hb4.mono (by have := B3.out.size; first | assumption | (simp <;> omega) | (simp; done)))) | exact Lib.hid (((((B3.out).alloc (B3.out.size) _).alloc (by have := B3.out.size; simp <;> omega) _).alloc (by have := B3.out.size; simp <;> omega) _).trans (hb4.mono (by have := B3.out.size; first | assumption | (simp <;> omega) | (simp; done))))
  first | replace Z1 := Lib.hid (row_call hb4 Z1.out) | replace Z1 := Lib.hid (row_call hb4 (row_alloc Z1.out _)) | replace Z1 := Lib.hid (row_call hb4 (row_alloc (row_alloc Z1.out _) _)) | replace Z1 := Lib.hid (row_call hb4 (row_alloc (row_alloc (row_alloc Z1.out _) _) _))
  clear hb4
  have Z1_0 : V4.cell? ⟨w.heap.size, 0, none⟩ = some (.int .u64 0) := cell_of_row _ _ _ _ _ _ Z1.out
  have Z1_1 : V4.cell? ⟨w.heap.size, 1, none⟩ = some (.int .u64 0) := cell_of_row _ _ _ _ _ _ Z1.out
  have Z1_f0 : V4.frozen? ⟨w.heap.size, 0, none⟩ = false := by simp [World.frozen?, Z1.out]
  have Z1_f1 : V4.frozen? ⟨w.heap.size, 1, none⟩ = false := by simp [World.frozen?, Z1.out]
  have zZ1 := lt_of_heap Z1.out
  go_simp
  go_wp2_with fail
  have hr1 : ¬ ((r : Int) = 0) := by omega
  refine (H5.out _).mono ?_
  rintro e V5 ⟨rfl, hb5⟩
  clear Z1_0 Z1_1 Z1_f0 Z1_f1 zZ1
  have B5 : Hid (Below w.heap.size w V5) := by first | exact Lib.hid ((B4.out).trans (hb5.mono (by have := B4.out.size; first | assumption | (simp <;> omega) | (simp; done)))) | exact Lib.hid (((B4.out).alloc (B4.out.size) _).trans (hb5.mono (by have := B4.out.size; first | assumption | (simp <;> omega) | (simp; done)))) | exact Lib.hid ((((B4.out).alloc (B4.out.size) _).alloc (by have := B4.out.size; simp <;> omega) _).trans (hb5.mono (by have := B4.out.size; first | assumption | (simp <;> omega) | (simp; done)))) | exact Lib.hid (((((B4.out).alloc (B4.out.size) _).alloc (by have := B4.out.size; simp <;> omega) _).alloc (by have := B4.out.size; simp <;> omega) _).trans (hb5.mono (by have := B4.out.size; first | assumption | (simp <;> omega) | (simp; done))))
  first | replace Z1 := Lib.hid (row_call hb5 Z1.out) | replace Z1 := Lib.hid (row_call hb5 (row_alloc Z1.out _)) | replace Z1 := Lib.hid (row_call hb5 (row_alloc (row_alloc Z1.out _) _)) | replace Z1 := Lib.hid (row_call hb5 (row_alloc (row_alloc (row_alloc Z1.out _) _) _))
  clear hb5
  have Z1_0 : V5.cell? ⟨w.heap.size, 0, none⟩ = some (.int .u64 0) := cell_of_row _ _ _ _ _ _ Z1.out
  have Z1_1 : V5.cell? ⟨w.heap.size, 1, none⟩ = some (.int .u64 0) := cell_of_row _ _ _ _ _ _ Z1.out
  have Z1_f0 : V5.frozen? ⟨w.heap.size, 0, none⟩ = false := by simp [World.frozen?, Z1.out]
  have Z1_f1 : V5.frozen? ⟨w.heap.size, 1, none⟩ = false := by simp [World.frozen?, Z1.out]
  have zZ1 := lt_of_heap Z1.out
  have hk5 := Lib.hid (lt_of_heap Z1.out)
  obtain ⟨W0, hW0⟩ : ∃ W0, W0 = V5.alloc (Obj.cells #[Value.int .u64 (zh q), Value.int .u64 (zl q)] 24) := ⟨_, rfl⟩
  have Q1 := Lib.hid (row_by hW0 (heap_alloc_new _ _))
  replace Z1 := Lib.hid (row_by hW0 (row_alloc Z1.out _))
  have HB0 := Lib.hid (below_by hW0 (B5.out.alloc B5.out.size _))
  have HW0 := Lib.hid hW0
  clear hW0 Z1_0 Z1_1 Z1_f0 Z1_f1 zZ1
  have q0 : W0.cell? ⟨V5.heap.size, 0, none⟩ = some (.int .u64 (zh q)) := cell_of_row _ _ _ _ _ _ Q1.out
  have q1' : W0.cell? ⟨V5.heap.size, 1, none⟩ = some (.int .u64 (zl q)) := cell_of_row _ _ _ _ _ _ Q1.out
  go_simp
  go_wp2_with fail
  rw [← HW0.out]
  go_region_with (first
    | (go_at_call 29; refine (H6.out _).mono ?_; rintro e V6 ⟨rfl, hb6⟩; have hb6' := Lib.hid ((Below.refl W0.heap.size W0).drew.trans hb6); have Zr := Lib.hid (row_call hb6'.out Z1.out); have Qr := Lib.hid (row_call hb6'.out Q1.out); have Br := Lib.hid (HB0.out.trans (hb6'.out.mono HB0.out.size)); clear hb6; have q2 : V6.cell? ⟨V5.heap.size, 0, none⟩ = some (.int .u64 (zh q)) := cell_of_row _ _ _ _ _ _ Qr.out; have q3 : V6.cell? ⟨V5.heap.size, 1, none⟩ = some (.int .u64 (zl q)) := cell_of_row _ _ _ _ _ _ Qr.out)
    | (go_at_call 13; refine (H7.out _).mono ?_; rintro e V7 ⟨rfl, hb7⟩; have Z7 := Lib.hid (row_call hb7 Zr.out); have Q7 := Lib.hid (row_call hb7 Qr.out); have B7 := Lib.hid (Br.out.trans (hb7.mono Br.out.size)); clear hb7; have q4 : V7.cell? ⟨V5.heap.size, 0, none⟩ = some (.int .u64 (zh q)) := cell_of_row _ _ _ _ _ _ Q7.out; have q5 : V7.cell? ⟨V5.heap.size, 1, none⟩ = some (.int .u64 (zl q)) := cell_of_row _ _ _ _ _ _ Q7.out; have q6 : V7.frozen? ⟨V5.heap.size, 0, none⟩ = false := (by simp [World.frozen?, Q7.out]); have q7 : V7.frozen? ⟨V5.heap.size, 1, none⟩ = false := (by simp [World.frozen?, Q7.out])))
  all_goals
    go_wp2_with fail
    refine (H8.out _).mono ?_
    rintro e V8 ⟨rfl, hb8⟩
    have B8 := Lib.hid ((keep2 B7.out B5.out.size _ _).trans (hb8.mono (by have := B7.out.size; simp; omega)))
    have Z8 := Lib.hid (row_call hb8 (row_other (by have := hk5.out; omega) Z7.out _ _))
    have Q8 := Lib.hid (row_call hb8 (row_set Q7.out _ _))
    clear hb8
    have nl : ¬ (w.heap.size = V5.heap.size) := Nat.ne_of_lt hk5.out
    have nr : ¬ (V5.heap.size = w.heap.size) := Ne.symm (Nat.ne_of_lt hk5.out)
    have a0 : V8.cell? ⟨w.heap.size, 0, none⟩ = some (.int .u64 0) := cell_of_row _ _ _ _ _ _ Z8.out
    have a1 : V8.cell? ⟨w.heap.size, 1, none⟩ = some (.int .u64 0) := cell_of_row _ _ _ _ _ _ Z8.out
    have a2 : V8.frozen? ⟨w.heap.size, 0, none⟩ = false := by simp [World.frozen?, Z8.out]
    have a3 : V8.frozen? ⟨w.heap.size, 1, none⟩ = false := by simp [World.frozen?, Z8.out]
    have b0 : V8.cell? ⟨V5.heap.size, 0, none⟩ = some (.int .u64 (zh q1)) := cell_of_row _ _ _ _ _ _ Q8.out
    have b1 : V8.cell? ⟨V5.heap.size, 1, none⟩ = some (.int .u64 (zl q1)) := cell_of_row _ _ _ _ _ _ Q8.out
    have b2 : V8.frozen? ⟨V5.heap.size, 0, none⟩ = false := by simp [World.frozen?, Q8.out]
    have b3 : V8.frozen? ⟨V5.heap.size, 1, none⟩ = false := by simp [World.frozen?, Q8.out]
    have z8 := lt_of_heap Z8.out
    have z9 := lt_of_heap Q8.out
    clear q0 q1' q2 q3 q4 q5 q6 q7
    go_simp
    go_wp2
    · rename_i hc
      refine bodyPost_ret (v := .tuple #[.agg #[.int .u64 (zh (Q)), .int .u64 (zl (Q))], .int .i64 (wrap64 (-wrap64 (s : Int))), .int .i64 0]) (by simp [results, Try.results70, go_sem, a0, a1, z8, nl, nr]) rfl ⟨by rw [K1.out, K3.out (of_decide_eq_true (dc.trans hc))], ?_⟩
      exact keep2 (keep2 B8.out (by have := B5.out.size; omega) _ _) (Nat.le_refl _) _ _
    · rename_i hc
      refine bodyPost_ret (v := .tuple #[.agg #[.int .u64 (zh (Q)), .int .u64 (zl (Q))], .int .i64 (wrap64 (s : Int)), .int .i64 0]) (by simp [results, Try.results70, go_sem, a0, a1, z8, nl, nr]) rfl ⟨by rw [K2.out, K4.out (by have := of_decide_eq_false (dc.trans (by simpa using hc)); omega)], ?_⟩
      exact keep2 (keep2 B8.out (by have := B5.out.size; omega) _ _) (Nat.le_refl _) _ _
end Go.Proofs.Ytkmhebfahfaokaa
