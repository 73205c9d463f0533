/- Several texts in one: PerA, PerB, PerE, PerEs, PerF, PerP. -/
import Derived.Test.YtoopbgpoelpjfaaDoorZPkg2
import Derived.Test.YtoopbgpoelpjfaaDoorZCiv1
import Derived.Test.YtoopbgpoelpjfaaDoorZRowS1
import Derived.Test.YtoopbgpoelpjfaaDoorZClk1
import Derived.Test.YtoopbgpoelpjfaaDoorZOrE1
namespace Go.Proofs.YtoopbgpoelpjfaaDoor
set_option linter.unusedVariables false
set_option linter.unusedSimpArgs false
open Go.ChangeShapes Go.WideShapes Go.ChangeAt Go.RowKit
@[irreducible] def inB (n : Int) : Bool := decide (-1000000 ≤ n) && decide (n ≤ 1000000)
theorem inB_iff (n : Int) : inB n = true ↔ (-1000000 ≤ n ∧ n ≤ 1000000) := by unfold inB; simp
@[irreducible] def ckP (y m d : Int) : Int := if inB y = true ∧ inB m = true ∧ inB d = true then 0 else 8
theorem ckP_two (y m d : Int) : (ckP y m d = 0 ∧ inB y = true ∧ inB m = true ∧ inB d = true) ∨ (ckP y m d = 8 ∧ ¬ (inB y = true ∧ inB m = true ∧ inB d = true)) := by
  unfold ckP
  by_cases h : inB y = true ∧ inB m = true ∧ inB d = true
  · exact Or.inl ⟨if_pos h, h⟩
  · exact Or.inr ⟨if_neg h, h⟩
theorem of_ckP {y m d : Int} (h : ckP y m d = 0) : (-1000000 ≤ y ∧ y ≤ 1000000) ∧ (-1000000 ≤ m ∧ m ≤ 1000000) ∧ (-1000000 ≤ d ∧ d ≤ 1000000) := by
  rcases ckP_two y m d with ⟨_, a, b, c⟩ | ⟨e, _⟩
  · exact ⟨(inB_iff y).1 a, (inB_iff m).1 b, (inB_iff d).1 c⟩
  · omega
theorem ckP_zero {y m d : Int} (a : -1000000 ≤ y ∧ y ≤ 1000000) (b : -1000000 ≤ m ∧ m ≤ 1000000) (c : -1000000 ≤ d ∧ d ≤ 1000000) : ckP y m d = 0 := by
  unfold ckP; exact if_pos ⟨(inB_iff y).2 a, (inB_iff m).2 b, (inB_iff d).2 c⟩
theorem ckP_out {y m d : Int} (h : ¬ ((-1000000 ≤ y ∧ y ≤ 1000000) ∧ (-1000000 ≤ m ∧ m ≤ 1000000) ∧ (-1000000 ≤ d ∧ d ≤ 1000000))) : ckP y m d = 8 := by
  rcases ckP_two y m d with ⟨e, _⟩ | ⟨e, _⟩
  · exact absurd (of_ckP e) h
  · exact e
set_option maxHeartbeats 800000 in
theorem rpIn_p (n : Int) (w : World) : Calls Tryd.prog 43 #[.int .i64 n] w fun e w' => e = .returned (.bool (inB n)) ∧ w = w' := by
  have E : Hid (inB n = (decide (-1000000 ≤ n) && decide (n ≤ 1000000))) := Lib.hid (by unfold inB; rfl)
  by_cases h1 : -1000000 ≤ n
  · by_cases h2 : n ≤ 1000000
    · go_enter Tryd.func43, Tryd.ntmps43
      go_wp2
      go_ret
      exact ⟨by rw [E.out]; simp [h1, h2], rfl⟩
    · have d2 : decide (n ≤ 1000000) = false := decide_eq_false h2
      go_enter Tryd.func43, Tryd.ntmps43
      go_wp2
      go_ret
      exact ⟨by rw [E.out]; simp [h1, d2], rfl⟩
  · have d1 : decide (-1000000 ≤ n) = false := decide_eq_false h1
    go_enter Tryd.func43, Tryd.ntmps43
    go_wp2
    go_ret
    exact ⟨by rw [E.out]; simp [d1], rfl⟩
set_option maxHeartbeats 1600000 in
set_option maxRecDepth 100000 in
theorem rpCheck_any (y m d : Int) (w : World) : Calls Tryd.prog 26 #[.agg #[.int .i64 y, .int .i64 m, .int .i64 d]] w fun e w' => e = .returned (.int .i64 (ckP y m d)) ∧ Below w.heap.size w w' := by
  have X1 := fun w => grow_of (rpIn_p y w)
  have X2 := fun w => grow_of (rpIn_p m w)
  have X3 := fun w => grow_of (rpIn_p d w)
  have K := ckP_two y m d
  generalize ckP y m d = C at *
  cases h1 : inB y
  · have E : Hid (C = 8) := Lib.hid (by rcases K with ⟨_, a, _⟩ | ⟨e, _⟩; rw [a] at h1; cases h1; exact e)
    rw [h1] at X1
    have H1 := Lib.hid X1
    clear X1 X2 X3 K h1
    go_enter Tryd.func26, Tryd.ntmps26
    go_wp2_with fail
    
    refine (H1.out _).mono ?_
    rintro e V1 ⟨rfl, hb1⟩
    have B1 := Lib.hid (((Below.refl w.heap.size w).alloc (Nat.le_refl _) _).trans (hb1.mono (by first | assumption | (simp <;> omega) | (simp; done))))
    have A1 := Lib.hid (row_call hb1 (heap_alloc_new _ _))
    clear hb1
    have A1_0 : V1.cell? ⟨w.heap.size, 0, none⟩ = some (.int .i64 y) := cell_of_row _ _ _ _ _ _ A1.out
    have A1_1 : V1.cell? ⟨w.heap.size, 1, none⟩ = some (.int .i64 m) := cell_of_row _ _ _ _ _ _ A1.out
    have A1_2 : V1.cell? ⟨w.heap.size, 2, none⟩ = some (.int .i64 d) := cell_of_row _ _ _ _ _ _ A1.out
    have zA1 := lt_of_heap A1.out
    go_simp
    go_wp2
    go_ret
    exact ⟨by rw [E.out]; try rfl, B1.out⟩
  · rw [h1] at X1
    have H1 := Lib.hid X1
    cases h2 : inB m
    · have E : Hid (C = 8) := Lib.hid (by rcases K with ⟨_, _, a, _⟩ | ⟨e, _⟩; rw [a] at h2; cases h2; exact e)
      rw [h2] at X2
      have H2 := Lib.hid X2
      clear X1 X2 X3 K h1 h2
      go_enter Tryd.func26, Tryd.ntmps26
      go_wp2_with fail
      
      refine (H1.out _).mono ?_
      rintro e V1 ⟨rfl, hb1⟩
      have B1 := Lib.hid (((Below.refl w.heap.size w).alloc (Nat.le_refl _) _).trans (hb1.mono (by first | assumption | (simp <;> omega) | (simp; done))))
      have A1 := Lib.hid (row_call hb1 (heap_alloc_new _ _))
      clear hb1
      have A1_0 : V1.cell? ⟨w.heap.size, 0, none⟩ = some (.int .i64 y) := cell_of_row _ _ _ _ _ _ A1.out
      have A1_1 : V1.cell? ⟨w.heap.size, 1, none⟩ = some (.int .i64 m) := cell_of_row _ _ _ _ _ _ A1.out
      have A1_2 : V1.cell? ⟨w.heap.size, 2, none⟩ = some (.int .i64 d) := cell_of_row _ _ _ _ _ _ A1.out
      have zA1 := lt_of_heap A1.out
      go_simp
      go_wp2_with fail
      refine (H2.out _).mono ?_
      rintro e V2 ⟨rfl, hb2⟩
      clear A1_0 A1_1 A1_2 zA1
      have B2 : Hid (Below w.heap.size w V2) := by first | exact Lib.hid ((B1.out).trans (hb2.mono (by have := B1.out.size; first | assumption | (simp <;> omega) | (simp; done)))) | exact Lib.hid (((B1.out).alloc (B1.out.size) _).trans (hb2.mono (by have := B1.out.size; first | assumption | (simp <;> omega) | (simp; done)))) | exact Lib.hid ((((B1.out).alloc (B1.out.size) _).alloc (by have := B1.out.size; simp <;> omega) _).trans (hb2.mono (by have := B1.out.size; first | assumption | (simp <;> omega) | (simp; done)))) | exact Lib.hid (((((B1.out).alloc (B1.out.size) _).alloc (by have := B1.out.size; simp <;> omega) _).alloc (by have := B1.out.size; simp <;> omega) _).trans (hb2.mono (by have := B1.out.size; first | assumption | (simp <;> omega) | (simp; done))))
      first | replace A1 := Lib.hid (row_call hb2 A1.out) | replace A1 := Lib.hid (row_call hb2 (row_alloc A1.out _)) | replace A1 := Lib.hid (row_call hb2 (row_alloc (row_alloc A1.out _) _)) | replace A1 := Lib.hid (row_call hb2 (row_alloc (row_alloc (row_alloc A1.out _) _) _))
      clear hb2
      have A1_0 : V2.cell? ⟨w.heap.size, 0, none⟩ = some (.int .i64 y) := cell_of_row _ _ _ _ _ _ A1.out
      have A1_1 : V2.cell? ⟨w.heap.size, 1, none⟩ = some (.int .i64 m) := cell_of_row _ _ _ _ _ _ A1.out
      have A1_2 : V2.cell? ⟨w.heap.size, 2, none⟩ = some (.int .i64 d) := cell_of_row _ _ _ _ _ _ A1.out
      have zA1 := lt_of_heap A1.out
      go_simp
      go_wp2
      go_ret
      exact ⟨by rw [E.out]; try rfl, B2.out⟩
    · rw [h2] at X2
      have H2 := Lib.hid X2
      cases h3 : inB d
      · have E : Hid (C = 8) := Lib.hid (by rcases K with ⟨_, _, _, a⟩ | ⟨e, _⟩; rw [a] at h3; cases h3; exact e)
        rw [h3] at X3
        have H3 := Lib.hid X3
        clear X1 X2 X3 K h1 h2 h3
        go_enter Tryd.func26, Tryd.ntmps26
        go_wp2_with fail
        
        refine (H1.out _).mono ?_
        rintro e V1 ⟨rfl, hb1⟩
        have B1 := Lib.hid (((Below.refl w.heap.size w).alloc (Nat.le_refl _) _).trans (hb1.mono (by first | assumption | (simp <;> omega) | (simp; done))))
        have A1 := Lib.hid (row_call hb1 (heap_alloc_new _ _))
        clear hb1
        have A1_0 : V1.cell? ⟨w.heap.size, 0, none⟩ = some (.int .i64 y) := cell_of_row _ _ _ _ _ _ A1.out
        have A1_1 : V1.cell? ⟨w.heap.size, 1, none⟩ = some (.int .i64 m) := cell_of_row _ _ _ _ _ _ A1.out
        have A1_2 : V1.cell? ⟨w.heap.size, 2, none⟩ = some (.int .i64 d) := cell_of_row _ _ _ _ _ _ A1.out
        have zA1 := lt_of_heap A1.out
        go_simp
        go_wp2_with fail
        refine (H2.out _).mono ?_
        rintro e V2 ⟨rfl, hb2⟩
        clear A1_0 A1_1 A1_2 zA1
        have B2 : Hid (Below w.heap.size w V2) := by first | exact Lib.hid ((B1.out).trans (hb2.mono (by have := B1.out.size; first | assumption | (simp <;> omega) | (simp; done)))) | exact Lib.hid (((B1.out).alloc (B1.out.size) _).trans (hb2.mono (by have := B1.out.size; first | assumption | (simp <;> omega) | (simp; done)))) | exact Lib.hid ((((B1.out).alloc (B1.out.size) _).alloc (by have := B1.out.size; simp <;> omega) _).trans (hb2.mono (by have := B1.out.size; first | assumption | (simp <;> omega) | (simp; done)))) | exact Lib.hid (((((B1.out).alloc (B1.out.size) _).alloc (by have := B1.out.size; simp <;> omega) _).alloc (by have := B1.out.size; simp <;> omega) _).trans (hb2.mono (by have := B1.out.size; first | assumption | (simp <;> omega) | (simp; done))))
        first | replace A1 := Lib.hid (row_call hb2 A1.out) | replace A1 := Lib.hid (row_call hb2 (row_alloc A1.out _)) | replace A1 := Lib.hid (row_call hb2 (row_alloc (row_alloc A1.out _) _)) | replace A1 := Lib.hid (row_call hb2 (row_alloc (row_alloc (row_alloc A1.out _) _) _))
        clear hb2
        have A1_0 : V2.cell? ⟨w.heap.size, 0, none⟩ = some (.int .i64 y) := cell_of_row _ _ _ _ _ _ A1.out
        have A1_1 : V2.cell? ⟨w.heap.size, 1, none⟩ = some (.int .i64 m) := cell_of_row _ _ _ _ _ _ A1.out
        have A1_2 : V2.cell? ⟨w.heap.size, 2, none⟩ = some (.int .i64 d) := cell_of_row _ _ _ _ _ _ A1.out
        have zA1 := lt_of_heap A1.out
        go_simp
        go_wp2_with fail
        refine (H3.out _).mono ?_
        rintro e V3 ⟨rfl, hb3⟩
        clear A1_0 A1_1 A1_2 zA1
        have B3 : Hid (Below w.heap.size w V3) := by first | exact Lib.hid ((B2.out).trans (hb3.mono (by have := B2.out.size; first | assumption | (simp <;> omega) | (simp; done)))) | exact Lib.hid (((B2.out).alloc (B2.out.size) _).trans (hb3.mono (by have := B2.out.size; first | assumption | (simp <;> omega) | (simp; done)))) | exact Lib.hid ((((B2.out).alloc (B2.out.size) _).alloc (by have := B2.out.size; simp <;> omega) _).trans (hb3.mono (by have := B2.out.size; first | assumption | (simp <;> omega) | (simp; done)))) | exact Lib.hid (((((B2.out).alloc (B2.out.size) _).alloc (by have := B2.out.size; simp <;> omega) _).alloc (by have := B2.out.size; simp <;> omega) _).trans (hb3.mono (by have := B2.out.size; first | assumption | (simp <;> omega) | (simp; done))))
        first | replace A1 := Lib.hid (row_call hb3 A1.out) | replace A1 := Lib.hid (row_call hb3 (row_alloc A1.out _)) | replace A1 := Lib.hid (row_call hb3 (row_alloc (row_alloc A1.out _) _)) | replace A1 := Lib.hid (row_call hb3 (row_alloc (row_alloc (row_alloc A1.out _) _) _))
        clear hb3
        have A1_0 : V3.cell? ⟨w.heap.size, 0, none⟩ = some (.int .i64 y) := cell_of_row _ _ _ _ _ _ A1.out
        have A1_1 : V3.cell? ⟨w.heap.size, 1, none⟩ = some (.int .i64 m) := cell_of_row _ _ _ _ _ _ A1.out
        have A1_2 : V3.cell? ⟨w.heap.size, 2, none⟩ = some (.int .i64 d) := cell_of_row _ _ _ _ _ _ A1.out
        have zA1 := lt_of_heap A1.out
        go_simp
        go_wp2
        go_ret
        exact ⟨by rw [E.out]; try rfl, B3.out⟩
      · have E : Hid (C = 0) := Lib.hid (by rcases K with ⟨e, _⟩ | ⟨_, a⟩; exact e; exact absurd ⟨h1, h2, h3⟩ a)
        rw [h3] at X3
        have H3 := Lib.hid X3
        clear X1 X2 X3 K h1 h2 h3
        go_enter Tryd.func26, Tryd.ntmps26
        go_wp2_with fail
        
        refine (H1.out _).mono ?_
        rintro e V1 ⟨rfl, hb1⟩
        have B1 := Lib.hid (((Below.refl w.heap.size w).alloc (Nat.le_refl _) _).trans (hb1.mono (by first | assumption | (simp <;> omega) | (simp; done))))
        have A1 := Lib.hid (row_call hb1 (heap_alloc_new _ _))
        clear hb1
        have A1_0 : V1.cell? ⟨w.heap.size, 0, none⟩ = some (.int .i64 y) := cell_of_row _ _ _ _ _ _ A1.out
        have A1_1 : V1.cell? ⟨w.heap.size, 1, none⟩ = some (.int .i64 m) := cell_of_row _ _ _ _ _ _ A1.out
        have A1_2 : V1.cell? ⟨w.heap.size, 2, none⟩ = some (.int .i64 d) := cell_of_row _ _ _ _ _ _ A1.out
        have zA1 := lt_of_heap A1.out
        go_simp
        go_wp2_with fail
        refine (H2.out _).mono ?_
        rintro e V2 ⟨rfl, hb2⟩
        clear A1_0 A1_1 A1_2 zA1
        have B2 : Hid (Below w.heap.size w V2) := by first | exact Lib.hid ((B1.out).trans (hb2.mono (by have := B1.out.size; first | assumption | (simp <;> omega) | (simp; done)))) | exact Lib.hid (((B1.out).alloc (B1.out.size) _).trans (hb2.mono (by have := B1.out.size; first | assumption | (simp <;> omega) | (simp; done)))) | exact Lib.hid ((((B1.out).alloc (B1.out.size) _).alloc (by have := B1.out.size; simp <;> omega) _).trans (hb2.mono (by have := B1.out.size; first | assumption | (simp <;> omega) | (simp; done)))) | exact Lib.hid (((((B1.out).alloc (B1.out.size) _).alloc (by have := B1.out.size; simp <;> omega) _).alloc (by have := B1.out.size; simp <;> omega) _).trans (hb2.mono (by have := B1.out.size; first | assumption | (simp <;> omega) | (simp; done))))
        first | replace A1 := Lib.hid (row_call hb2 A1.out) | replace A1 := Lib.hid (row_call hb2 (row_alloc A1.out _)) | replace A1 := Lib.hid (row_call hb2 (row_alloc (row_alloc A1.out _) _)) | replace A1 := Lib.hid (row_call hb2 (row_alloc (row_alloc (row_alloc A1.out _) _) _))
        clear hb2
        have A1_0 : V2.cell? ⟨w.heap.size, 0, none⟩ = some (.int .i64 y) := cell_of_row _ _ _ _ _ _ A1.out
        have A1_1 : V2.cell? ⟨w.heap.size, 1, none⟩ = some (.int .i64 m) := cell_of_row _ _ _ _ _ _ A1.out
        have A1_2 : V2.cell? ⟨w.heap.size, 2, none⟩ = some (.int .i64 d) := cell_of_row _ _ _ _ _ _ A1.out
        have zA1 := lt_of_heap A1.out
        go_simp
        go_wp2_with fail
        refine (H3.out _).mono ?_
        rintro e V3 ⟨rfl, hb3⟩
        clear A1_0 A1_1 A1_2 zA1
        have B3 : Hid (Below w.heap.size w V3) := by first | exact Lib.hid ((B2.out).trans (hb3.mono (by have := B2.out.size; first | assumption | (simp <;> omega) | (simp; done)))) | exact Lib.hid (((B2.out).alloc (B2.out.size) _).trans (hb3.mono (by have := B2.out.size; first | assumption | (simp <;> omega) | (simp; done)))) | exact Lib.hid ((((B2.out).alloc (B2.out.size) _).alloc (by have := B2.out.size; simp <;> omega) _).trans (hb3.mono (by have := B2.out.size; first | assumption | (simp <;> omega) | (simp; done)))) | exact Lib.hid (((((B2.out).alloc (B2.out.size) _).alloc (by have := B2.out.size; simp <;> omega) _).alloc (by have := B2.out.size; simp <;> omega) _).trans (hb3.mono (by have := B2.out.size; first | assumption | (simp <;> omega) | (simp; done))))
        first | replace A1 := Lib.hid (row_call hb3 A1.out) | replace A1 := Lib.hid (row_call hb3 (row_alloc A1.out _)) | replace A1 := Lib.hid (row_call hb3 (row_alloc (row_alloc A1.out _) _)) | replace A1 := Lib.hid (row_call hb3 (row_alloc (row_alloc (row_alloc A1.out _) _) _))
        clear hb3
        have A1_0 : V3.cell? ⟨w.heap.size, 0, none⟩ = some (.int .i64 y) := cell_of_row _ _ _ _ _ _ A1.out
        have A1_1 : V3.cell? ⟨w.heap.size, 1, none⟩ = some (.int .i64 m) := cell_of_row _ _ _ _ _ _ A1.out
        have A1_2 : V3.cell? ⟨w.heap.size, 2, none⟩ = some (.int .i64 d) := cell_of_row _ _ _ _ _ _ A1.out
        have zA1 := lt_of_heap A1.out
        go_simp
        go_wp2
        go_ret
        exact ⟨by rw [E.out]; try rfl, B3.out⟩
def fdP (e v : Int) : Int := if e = 0 then v else 0
theorem fdP_zero (v : Int) : fdP 0 v = v := rfl
theorem fdP_err (v : Int) : fdP 8 v = 0 := rfl
set_option maxHeartbeats 1600000 in
set_option maxRecDepth 100000 in
theorem rpMonths_any (y m d : Int) (w : World) : Calls Tryd.prog 27 #[.agg #[.int .i64 y, .int .i64 m, .int .i64 d]] w fun e w' => e = .returned (.int .i64 (fdP (ckP y m d) (12 * y + m))) ∧ Below w.heap.size w w' := by
  have X1 := rpCheck_any y m d
  rcases ckP_two y m d with ⟨e, _⟩ | ⟨e, _⟩
  · have b := of_ckP e
    rw [e] at X1 ⊢
    simp only [fdP_zero, fdP_err]
    have H1 := Lib.hid X1
    obtain ⟨⟨b1, b2⟩, ⟨b3, b4⟩, _⟩ := b
    clear X1 e
    go_enter Tryd.func27, Tryd.ntmps27
    go_wp2_with fail
    
    refine (H1.out _).mono ?_
    rintro e V1 ⟨rfl, hb1⟩
    have B1 := Lib.hid (((Below.refl w.heap.size w).alloc (Nat.le_refl _) _).trans (hb1.mono (by first | assumption | (simp <;> omega) | (simp; done))))
    have A1 := Lib.hid (row_call hb1 (heap_alloc_new _ _))
    clear hb1
    have A1_0 : V1.cell? ⟨w.heap.size, 0, none⟩ = some (.int .i64 y) := cell_of_row _ _ _ _ _ _ A1.out
    have A1_1 : V1.cell? ⟨w.heap.size, 1, none⟩ = some (.int .i64 m) := cell_of_row _ _ _ _ _ _ A1.out
    have A1_2 : V1.cell? ⟨w.heap.size, 2, none⟩ = some (.int .i64 d) := cell_of_row _ _ _ _ _ _ A1.out
    have zA1 := lt_of_heap A1.out
    go_simp
    go_wp2
    go_ret
    exact ⟨rfl, B1.out⟩
  · rw [e] at X1 ⊢
    simp only [fdP_zero, fdP_err]
    have H1 := Lib.hid X1
    clear X1 e
    go_enter Tryd.func27, Tryd.ntmps27
    go_wp2_with fail
    
    refine (H1.out _).mono ?_
    rintro e V1 ⟨rfl, hb1⟩
    have B1 := Lib.hid (((Below.refl w.heap.size w).alloc (Nat.le_refl _) _).trans (hb1.mono (by first | assumption | (simp <;> omega) | (simp; done))))
    have A1 := Lib.hid (row_call hb1 (heap_alloc_new _ _))
    clear hb1
    have A1_0 : V1.cell? ⟨w.heap.size, 0, none⟩ = some (.int .i64 y) := cell_of_row _ _ _ _ _ _ A1.out
    have A1_1 : V1.cell? ⟨w.heap.size, 1, none⟩ = some (.int .i64 m) := cell_of_row _ _ _ _ _ _ A1.out
    have A1_2 : V1.cell? ⟨w.heap.size, 2, none⟩ = some (.int .i64 d) := cell_of_row _ _ _ _ _ _ A1.out
    have zA1 := lt_of_heap A1.out
    go_simp
    go_wp2
    go_ret
    exact ⟨rfl, B1.out⟩
end Go.Proofs.YtoopbgpoelpjfaaDoor
namespace Go.Proofs.YtoopbgpoelpjfaaDoor
set_option linter.unusedVariables false
set_option linter.unusedSimpArgs false
open Go.ChangeShapes Go.WideShapes Go.ChangeAt Go.RowKit
def blE (y m d : Int) : Int := if ckP y m d = 0 then ckP ((12 * y + m).tdiv 12) ((12 * y + m).tmod 12) d else 8
theorem iE_two (z : Int) : (iE z = 0 ∧ iV z = z) ∨ (iE z = 8 ∧ (z < -9223372036854775808 ∨ 9223372036854775808 ≤ z)) := by
  unfold iE iV
  by_cases h : -9223372036854775808 ≤ z ∧ z < 9223372036854775808
  · exact Or.inl ⟨if_pos h, if_pos h⟩
  · exact Or.inr ⟨if_neg h, by omega⟩
end Go.Proofs.YtoopbgpoelpjfaaDoor
namespace Go.Proofs.YtoopbgpoelpjfaaDoor
set_option linter.unusedVariables false
set_option linter.unusedSimpArgs false
open Go.ChangeShapes Go.WideShapes Go.ChangeAt Go.RowKit
def KP (w0 w : World) : Prop := Below w0.heap.size w0 w
theorem kp_keep {w0 w w' : World} (h : Hid (KP w0 w)) (b : Below w.heap.size w w') : KP w0 w' := by
  have h' : Below w0.heap.size w0 w := h.out
  exact h'.trans (b.mono h'.size)
end Go.Proofs.YtoopbgpoelpjfaaDoor
namespace Go.Proofs.YtoopbgpoelpjfaaDoor
set_option linter.unusedVariables false
set_option linter.unusedSimpArgs false
open Go.ChangeShapes Go.WideShapes Go.ChangeAt Go.RowKit
set_option maxHeartbeats 3200000 in
set_option maxRecDepth 100000 in
theorem eachs_1lo (a b c : Int) (v1 : Int) (l1 : decide (v1 < -1000000) = true) (w : World)
    (H1 : Hid (∀ w', KP w w' → Calls Tryd.prog 36 #[.int .i64 a] w' fun e w'' => e = .returned (.tuple #[.int .i64 v1, .int .i64 0]) ∧ Below w'.heap.size w' w'')) :
    Calls Tryd.prog 35 #[.agg #[.int .i64 a, .int .i64 b, .int .i64 c], .func (.func 36) #[] #[]] w fun e w' => e = .returned (.tuple #[.agg #[.int .i64 0, .int .i64 0, .int .i64 0], .int .i64 8]) ∧ Below w.heap.size w w' := by
  have hM : Hid (KP w w) := Lib.hid (Below.refl _ _)
  have i0 : ∀ w, (Instr.index 51 (.agg #[.int .i64 a, .int .i64 b, .int .i64 c]) (.int .i64 0)).run Tryd.prog w = .ok (.int .i64 a) w := fun _ => by kernel_rfl
  go_enter Tryd.func35, Tryd.ntmps35
  refine wp_shut ?_
  go_wp2_with fail
  refine wp_loop_rounds 4 ?_
  
  rw [rounds_succ]
  go_wp2_with fail
  refine (H1.out _ (by first | exact kp_keep hM ((((Below.refl w.heap.size w).alloc (Nat.le_refl _) _).alloc (by simp <;> omega) _).alloc (by simp <;> omega) _))).mono ?_
  rintro e V1 ⟨rfl, hb1⟩
  have B1 := Lib.hid (((((Below.refl w.heap.size w).alloc (Nat.le_refl _) _).alloc (by simp <;> omega) _).alloc (by simp <;> omega) _).trans (hb1.mono (by first | assumption | (simp <;> omega) | (simp; done))))
  have A1 := Lib.hid (row_call hb1 (row_alloc (row_alloc (heap_alloc_new _ _) _) _))
  have Z1 := Lib.hid (row_at (k' := w.heap.size + 1) (by simp) (row_call hb1 (row_alloc (heap_alloc_new _ _) _)))
  have M1 := Lib.hid (row_at (k' := w.heap.size + 1 + 1) (by simp) (row_call hb1 (heap_alloc_new _ _)))
  clear hb1
  have A1_0 : V1.cell? ⟨w.heap.size, 0, none⟩ = some (.int .i64 a) := cell_of_row _ _ _ _ _ _ A1.out
  have A1_1 : V1.cell? ⟨w.heap.size, 1, none⟩ = some (.int .i64 b) := cell_of_row _ _ _ _ _ _ A1.out
  have A1_2 : V1.cell? ⟨w.heap.size, 2, none⟩ = some (.int .i64 c) := cell_of_row _ _ _ _ _ _ A1.out
  have Z1_0 : V1.cell? ⟨w.heap.size + 1, 0, none⟩ = some (.int .i64 0) := cell_of_row _ _ _ _ _ _ Z1.out
  have Z1_1 : V1.cell? ⟨w.heap.size + 1, 1, none⟩ = some (.int .i64 0) := cell_of_row _ _ _ _ _ _ Z1.out
  have Z1_2 : V1.cell? ⟨w.heap.size + 1, 2, none⟩ = some (.int .i64 0) := cell_of_row _ _ _ _ _ _ Z1.out
  have Z1_f0 : V1.frozen? ⟨w.heap.size + 1, 0, none⟩ = false := by simp [World.frozen?, Z1.out]
  have Z1_f1 : V1.frozen? ⟨w.heap.size + 1, 1, none⟩ = false := by simp [World.frozen?, Z1.out]
  have Z1_f2 : V1.frozen? ⟨w.heap.size + 1, 2, none⟩ = false := by simp [World.frozen?, Z1.out]
  have M1_0 : V1.cell? ⟨w.heap.size + 1 + 1, 0, none⟩ = some (.int .i64 0) := cell_of_row _ _ _ _ _ _ M1.out
  have M1_1 : V1.cell? ⟨w.heap.size + 1 + 1, 1, none⟩ = some (.int .i64 0) := cell_of_row _ _ _ _ _ _ M1.out
  have M1_2 : V1.cell? ⟨w.heap.size + 1 + 1, 2, none⟩ = some (.int .i64 0) := cell_of_row _ _ _ _ _ _ M1.out
  have M1_f0 : V1.frozen? ⟨w.heap.size + 1 + 1, 0, none⟩ = false := by simp [World.frozen?, M1.out]
  have M1_f1 : V1.frozen? ⟨w.heap.size + 1 + 1, 1, none⟩ = false := by simp [World.frozen?, M1.out]
  have M1_f2 : V1.frozen? ⟨w.heap.size + 1 + 1, 2, none⟩ = false := by simp [World.frozen?, M1.out]
  have zA1 := lt_of_heap A1.out
  have zZ1 := lt_of_heap Z1.out
  have zM1 := lt_of_heap M1.out
  go_simp
  go_wp2
  refine shut_ret (v := .tuple #[.agg #[.int .i64 0, .int .i64 0, .int .i64 0], .int .i64 8]) (by simp [results, Tryd.results35, go_sem, zZ1, Z1_0, Z1_1, Z1_2]) rfl ⟨rfl, ?_⟩
  exact keep3 B1.out (by omega) _ _ _
set_option maxHeartbeats 3200000 in
set_option maxRecDepth 100000 in
theorem eachs_1hi (a b c : Int) (v1 : Int) (l1 : decide (v1 < -1000000) = false) (u1 : decide (1000000 < v1) = true) (w : World)
    (H1 : Hid (∀ w', KP w w' → Calls Tryd.prog 36 #[.int .i64 a] w' fun e w'' => e = .returned (.tuple #[.int .i64 v1, .int .i64 0]) ∧ Below w'.heap.size w' w'')) :
    Calls Tryd.prog 35 #[.agg #[.int .i64 a, .int .i64 b, .int .i64 c], .func (.func 36) #[] #[]] w fun e w' => e = .returned (.tuple #[.agg #[.int .i64 0, .int .i64 0, .int .i64 0], .int .i64 8]) ∧ Below w.heap.size w w' := by
  have hM : Hid (KP w w) := Lib.hid (Below.refl _ _)
  have i0 : ∀ w, (Instr.index 51 (.agg #[.int .i64 a, .int .i64 b, .int .i64 c]) (.int .i64 0)).run Tryd.prog w = .ok (.int .i64 a) w := fun _ => by kernel_rfl
  go_enter Tryd.func35, Tryd.ntmps35
  refine wp_shut ?_
  go_wp2_with fail
  refine wp_loop_rounds 4 ?_
  
  rw [rounds_succ]
  go_wp2_with fail
  refine (H1.out _ (by first | exact kp_keep hM ((((Below.refl w.heap.size w).alloc (Nat.le_refl _) _).alloc (by simp <;> omega) _).alloc (by simp <;> omega) _))).mono ?_
  rintro e V1 ⟨rfl, hb1⟩
  have B1 := Lib.hid (((((Below.refl w.heap.size w).alloc (Nat.le_refl _) _).alloc (by simp <;> omega) _).alloc (by simp <;> omega) _).trans (hb1.mono (by first | assumption | (simp <;> omega) | (simp; done))))
  have A1 := Lib.hid (row_call hb1 (row_alloc (row_alloc (heap_alloc_new _ _) _) _))
  have Z1 := Lib.hid (row_at (k' := w.heap.size + 1) (by simp) (row_call hb1 (row_alloc (heap_alloc_new _ _) _)))
  have M1 := Lib.hid (row_at (k' := w.heap.size + 1 + 1) (by simp) (row_call hb1 (heap_alloc_new _ _)))
  clear hb1
  have A1_0 : V1.cell? ⟨w.heap.size, 0, none⟩ = some (.int .i64 a) := cell_of_row _ _ _ _ _ _ A1.out
  have A1_1 : V1.cell? ⟨w.heap.size, 1, none⟩ = some (.int .i64 b) := cell_of_row _ _ _ _ _ _ A1.out
  have A1_2 : V1.cell? ⟨w.heap.size, 2, none⟩ = some (.int .i64 c) := cell_of_row _ _ _ _ _ _ A1.out
  have Z1_0 : V1.cell? ⟨w.heap.size + 1, 0, none⟩ = some (.int .i64 0) := cell_of_row _ _ _ _ _ _ Z1.out
  have Z1_1 : V1.cell? ⟨w.heap.size + 1, 1, none⟩ = some (.int .i64 0) := cell_of_row _ _ _ _ _ _ Z1.out
  have Z1_2 : V1.cell? ⟨w.heap.size + 1, 2, none⟩ = some (.int .i64 0) := cell_of_row _ _ _ _ _ _ Z1.out
  have Z1_f0 : V1.frozen? ⟨w.heap.size + 1, 0, none⟩ = false := by simp [World.frozen?, Z1.out]
  have Z1_f1 : V1.frozen? ⟨w.heap.size + 1, 1, none⟩ = false := by simp [World.frozen?, Z1.out]
  have Z1_f2 : V1.frozen? ⟨w.heap.size + 1, 2, none⟩ = false := by simp [World.frozen?, Z1.out]
  have M1_0 : V1.cell? ⟨w.heap.size + 1 + 1, 0, none⟩ = some (.int .i64 0) := cell_of_row _ _ _ _ _ _ M1.out
  have M1_1 : V1.cell? ⟨w.heap.size + 1 + 1, 1, none⟩ = some (.int .i64 0) := cell_of_row _ _ _ _ _ _ M1.out
  have M1_2 : V1.cell? ⟨w.heap.size + 1 + 1, 2, none⟩ = some (.int .i64 0) := cell_of_row _ _ _ _ _ _ M1.out
  have M1_f0 : V1.frozen? ⟨w.heap.size + 1 + 1, 0, none⟩ = false := by simp [World.frozen?, M1.out]
  have M1_f1 : V1.frozen? ⟨w.heap.size + 1 + 1, 1, none⟩ = false := by simp [World.frozen?, M1.out]
  have M1_f2 : V1.frozen? ⟨w.heap.size + 1 + 1, 2, none⟩ = false := by simp [World.frozen?, M1.out]
  have zA1 := lt_of_heap A1.out
  have zZ1 := lt_of_heap Z1.out
  have zM1 := lt_of_heap M1.out
  go_simp
  go_wp2
  refine shut_ret (v := .tuple #[.agg #[.int .i64 0, .int .i64 0, .int .i64 0], .int .i64 8]) (by simp [results, Tryd.results35, go_sem, zZ1, Z1_0, Z1_1, Z1_2]) rfl ⟨rfl, ?_⟩
  exact keep3 B1.out (by omega) _ _ _
set_option maxHeartbeats 3200000 in
set_option maxRecDepth 100000 in
theorem eachs_2lo (a b c : Int) (v1 v2 : Int) (l1 : decide (v1 < -1000000) = false) (u1 : decide (1000000 < v1) = false) (l2 : decide (v2 < -1000000) = true) (w : World)
    (H1 : Hid (∀ w', KP w w' → Calls Tryd.prog 36 #[.int .i64 a] w' fun e w'' => e = .returned (.tuple #[.int .i64 v1, .int .i64 0]) ∧ Below w'.heap.size w' w''))
    (H2 : Hid (∀ w', KP w w' → Calls Tryd.prog 36 #[.int .i64 b] w' fun e w'' => e = .returned (.tuple #[.int .i64 v2, .int .i64 0]) ∧ Below w'.heap.size w' w'')) :
    Calls Tryd.prog 35 #[.agg #[.int .i64 a, .int .i64 b, .int .i64 c], .func (.func 36) #[] #[]] w fun e w' => e = .returned (.tuple #[.agg #[.int .i64 0, .int .i64 0, .int .i64 0], .int .i64 8]) ∧ Below w.heap.size w w' := by
  have hM : Hid (KP w w) := Lib.hid (Below.refl _ _)
  have i0 : ∀ w, (Instr.index 51 (.agg #[.int .i64 a, .int .i64 b, .int .i64 c]) (.int .i64 0)).run Tryd.prog w = .ok (.int .i64 a) w := fun _ => by kernel_rfl
  have i1 : ∀ w, (Instr.index 51 (.agg #[.int .i64 a, .int .i64 b, .int .i64 c]) (.int .i64 1)).run Tryd.prog w = .ok (.int .i64 b) w := fun _ => by kernel_rfl
  go_enter Tryd.func35, Tryd.ntmps35
  refine wp_shut ?_
  go_wp2_with fail
  refine wp_loop_rounds 4 ?_
  
  rw [rounds_succ]
  go_wp2_with fail
  refine (H1.out _ (by first | exact kp_keep hM ((((Below.refl w.heap.size w).alloc (Nat.le_refl _) _).alloc (by simp <;> omega) _).alloc (by simp <;> omega) _))).mono ?_
  rintro e V1 ⟨rfl, hb1⟩
  have B1 := Lib.hid (((((Below.refl w.heap.size w).alloc (Nat.le_refl _) _).alloc (by simp <;> omega) _).alloc (by simp <;> omega) _).trans (hb1.mono (by first | assumption | (simp <;> omega) | (simp; done))))
  have A1 := Lib.hid (row_call hb1 (row_alloc (row_alloc (heap_alloc_new _ _) _) _))
  have Z1 := Lib.hid (row_at (k' := w.heap.size + 1) (by simp) (row_call hb1 (row_alloc (heap_alloc_new _ _) _)))
  have M1 := Lib.hid (row_at (k' := w.heap.size + 1 + 1) (by simp) (row_call hb1 (heap_alloc_new _ _)))
  clear hb1
  have A1_0 : V1.cell? ⟨w.heap.size, 0, none⟩ = some (.int .i64 a) := cell_of_row _ _ _ _ _ _ A1.out
  have A1_1 : V1.cell? ⟨w.heap.size, 1, none⟩ = some (.int .i64 b) := cell_of_row _ _ _ _ _ _ A1.out
  have A1_2 : V1.cell? ⟨w.heap.size, 2, none⟩ = some (.int .i64 c) := cell_of_row _ _ _ _ _ _ A1.out
  have Z1_0 : V1.cell? ⟨w.heap.size + 1, 0, none⟩ = some (.int .i64 0) := cell_of_row _ _ _ _ _ _ Z1.out
  have Z1_1 : V1.cell? ⟨w.heap.size + 1, 1, none⟩ = some (.int .i64 0) := cell_of_row _ _ _ _ _ _ Z1.out
  have Z1_2 : V1.cell? ⟨w.heap.size + 1, 2, none⟩ = some (.int .i64 0) := cell_of_row _ _ _ _ _ _ Z1.out
  have Z1_f0 : V1.frozen? ⟨w.heap.size + 1, 0, none⟩ = false := by simp [World.frozen?, Z1.out]
  have Z1_f1 : V1.frozen? ⟨w.heap.size + 1, 1, none⟩ = false := by simp [World.frozen?, Z1.out]
  have Z1_f2 : V1.frozen? ⟨w.heap.size + 1, 2, none⟩ = false := by simp [World.frozen?, Z1.out]
  have M1_0 : V1.cell? ⟨w.heap.size + 1 + 1, 0, none⟩ = some (.int .i64 0) := cell_of_row _ _ _ _ _ _ M1.out
  have M1_1 : V1.cell? ⟨w.heap.size + 1 + 1, 1, none⟩ = some (.int .i64 0) := cell_of_row _ _ _ _ _ _ M1.out
  have M1_2 : V1.cell? ⟨w.heap.size + 1 + 1, 2, none⟩ = some (.int .i64 0) := cell_of_row _ _ _ _ _ _ M1.out
  have M1_f0 : V1.frozen? ⟨w.heap.size + 1 + 1, 0, none⟩ = false := by simp [World.frozen?, M1.out]
  have M1_f1 : V1.frozen? ⟨w.heap.size + 1 + 1, 1, none⟩ = false := by simp [World.frozen?, M1.out]
  have M1_f2 : V1.frozen? ⟨w.heap.size + 1 + 1, 2, none⟩ = false := by simp [World.frozen?, M1.out]
  have zA1 := lt_of_heap A1.out
  have zZ1 := lt_of_heap Z1.out
  have zM1 := lt_of_heap M1.out
  go_simp
  go_wp2_with fail
  rw [rounds_succ]
  go_wp2_with fail
  refine (H2.out _ (by first | exact kp_keep hM (keep1 (B1.out) (by omega) 0 _) | exact kp_keep hM ((keep1 (B1.out) (by omega) 0 _).alloc (by have := B1.out.size; simp <;> omega) _) | exact kp_keep hM (((keep1 (B1.out) (by omega) 0 _).alloc (by have := B1.out.size; simp <;> omega) _).alloc (by have := B1.out.size; simp <;> omega) _) | exact kp_keep hM ((((keep1 (B1.out) (by omega) 0 _).alloc (by have := B1.out.size; simp <;> omega) _).alloc (by have := B1.out.size; simp <;> omega) _).alloc (by have := B1.out.size; simp <;> omega) _))).mono ?_
  rintro e V2 ⟨rfl, hb2⟩
  clear A1_0 A1_1 A1_2 zA1 Z1_0 Z1_1 Z1_2 Z1_f0 Z1_f1 Z1_f2 zZ1 M1_0 M1_1 M1_2 M1_f0 M1_f1 M1_f2 zM1
  have B2 : Hid (Below w.heap.size w V2) := by first | exact Lib.hid ((keep1 (B1.out) (by omega) 0 _).trans (hb2.mono (by have := B1.out.size; first | assumption | (simp <;> omega) | (simp; done)))) | exact Lib.hid (((keep1 (B1.out) (by omega) 0 _).alloc (by have := B1.out.size; simp <;> omega) _).trans (hb2.mono (by have := B1.out.size; first | assumption | (simp <;> omega) | (simp; done)))) | exact Lib.hid ((((keep1 (B1.out) (by omega) 0 _).alloc (by have := B1.out.size; simp <;> omega) _).alloc (by have := B1.out.size; simp <;> omega) _).trans (hb2.mono (by have := B1.out.size; first | assumption | (simp <;> omega) | (simp; done)))) | exact Lib.hid (((((keep1 (B1.out) (by omega) 0 _).alloc (by have := B1.out.size; simp <;> omega) _).alloc (by have := B1.out.size; simp <;> omega) _).alloc (by have := B1.out.size; simp <;> omega) _).trans (hb2.mono (by have := B1.out.size; first | assumption | (simp <;> omega) | (simp; done))))
  first | replace A1 := Lib.hid (row_call hb2 (row_other1 (by omega) A1.out 0 _)) | replace A1 := Lib.hid (row_call hb2 (row_alloc (row_other1 (by omega) A1.out 0 _) _)) | replace A1 := Lib.hid (row_call hb2 (row_alloc (row_alloc (row_other1 (by omega) A1.out 0 _) _) _)) | replace A1 := Lib.hid (row_call hb2 (row_alloc (row_alloc (row_alloc (row_other1 (by omega) A1.out 0 _) _) _) _))
  first | replace Z1 := Lib.hid (row_call hb2 (row_other1 (by omega) Z1.out 0 _)) | replace Z1 := Lib.hid (row_call hb2 (row_alloc (row_other1 (by omega) Z1.out 0 _) _)) | replace Z1 := Lib.hid (row_call hb2 (row_alloc (row_alloc (row_other1 (by omega) Z1.out 0 _) _) _)) | replace Z1 := Lib.hid (row_call hb2 (row_alloc (row_alloc (row_alloc (row_other1 (by omega) Z1.out 0 _) _) _) _))
  first | replace M1 : Hid (V2.heap[w.heap.size + 1 + 1]? = some (.cells #[.int .i64 v1, .int .i64 0, .int .i64 0] _ (0, 0))) := Lib.hid (row_call hb2 (row_set1 M1.out 0 _)) | replace M1 : Hid (V2.heap[w.heap.size + 1 + 1]? = some (.cells #[.int .i64 v1, .int .i64 0, .int .i64 0] _ (0, 0))) := Lib.hid (row_call hb2 (row_alloc (row_set1 M1.out 0 _) _)) | replace M1 : Hid (V2.heap[w.heap.size + 1 + 1]? = some (.cells #[.int .i64 v1, .int .i64 0, .int .i64 0] _ (0, 0))) := Lib.hid (row_call hb2 (row_alloc (row_alloc (row_set1 M1.out 0 _) _) _)) | replace M1 : Hid (V2.heap[w.heap.size + 1 + 1]? = some (.cells #[.int .i64 v1, .int .i64 0, .int .i64 0] _ (0, 0))) := Lib.hid (row_call hb2 (row_alloc (row_alloc (row_alloc (row_set1 M1.out 0 _) _) _) _))
  clear hb2
  have A1_0 : V2.cell? ⟨w.heap.size, 0, none⟩ = some (.int .i64 a) := cell_of_row _ _ _ _ _ _ A1.out
  have A1_1 : V2.cell? ⟨w.heap.size, 1, none⟩ = some (.int .i64 b) := cell_of_row _ _ _ _ _ _ A1.out
  have A1_2 : V2.cell? ⟨w.heap.size, 2, none⟩ = some (.int .i64 c) := cell_of_row _ _ _ _ _ _ A1.out
  have Z1_0 : V2.cell? ⟨w.heap.size + 1, 0, none⟩ = some (.int .i64 0) := cell_of_row _ _ _ _ _ _ Z1.out
  have Z1_1 : V2.cell? ⟨w.heap.size + 1, 1, none⟩ = some (.int .i64 0) := cell_of_row _ _ _ _ _ _ Z1.out
  have Z1_2 : V2.cell? ⟨w.heap.size + 1, 2, none⟩ = some (.int .i64 0) := cell_of_row _ _ _ _ _ _ Z1.out
  have Z1_f0 : V2.frozen? ⟨w.heap.size + 1, 0, none⟩ = false := by simp [World.frozen?, Z1.out]
  have Z1_f1 : V2.frozen? ⟨w.heap.size + 1, 1, none⟩ = false := by simp [World.frozen?, Z1.out]
  have Z1_f2 : V2.frozen? ⟨w.heap.size + 1, 2, none⟩ = false := by simp [World.frozen?, Z1.out]
  have M1_0 : V2.cell? ⟨w.heap.size + 1 + 1, 0, none⟩ = some (.int .i64 v1) := cell_of_row _ _ _ _ _ _ M1.out
  have M1_1 : V2.cell? ⟨w.heap.size + 1 + 1, 1, none⟩ = some (.int .i64 0) := cell_of_row _ _ _ _ _ _ M1.out
  have M1_2 : V2.cell? ⟨w.heap.size + 1 + 1, 2, none⟩ = some (.int .i64 0) := cell_of_row _ _ _ _ _ _ M1.out
  have M1_f0 : V2.frozen? ⟨w.heap.size + 1 + 1, 0, none⟩ = false := by simp [World.frozen?, M1.out]
  have M1_f1 : V2.frozen? ⟨w.heap.size + 1 + 1, 1, none⟩ = false := by simp [World.frozen?, M1.out]
  have M1_f2 : V2.frozen? ⟨w.heap.size + 1 + 1, 2, none⟩ = false := by simp [World.frozen?, M1.out]
  have zA1 := lt_of_heap A1.out
  have zZ1 := lt_of_heap Z1.out
  have zM1 := lt_of_heap M1.out
  go_simp
  go_wp2
  refine shut_ret (v := .tuple #[.agg #[.int .i64 0, .int .i64 0, .int .i64 0], .int .i64 8]) (by simp [results, Tryd.results35, go_sem, zZ1, Z1_0, Z1_1, Z1_2]) rfl ⟨rfl, ?_⟩
  exact keep3 B2.out (by omega) _ _ _
set_option maxHeartbeats 3200000 in
set_option maxRecDepth 100000 in
theorem eachs_2hi (a b c : Int) (v1 v2 : Int) (l1 : decide (v1 < -1000000) = false) (u1 : decide (1000000 < v1) = false) (l2 : decide (v2 < -1000000) = false) (u2 : decide (1000000 < v2) = true) (w : World)
    (H1 : Hid (∀ w', KP w w' → Calls Tryd.prog 36 #[.int .i64 a] w' fun e w'' => e = .returned (.tuple #[.int .i64 v1, .int .i64 0]) ∧ Below w'.heap.size w' w''))
    (H2 : Hid (∀ w', KP w w' → Calls Tryd.prog 36 #[.int .i64 b] w' fun e w'' => e = .returned (.tuple #[.int .i64 v2, .int .i64 0]) ∧ Below w'.heap.size w' w'')) :
    Calls Tryd.prog 35 #[.agg #[.int .i64 a, .int .i64 b, .int .i64 c], .func (.func 36) #[] #[]] w fun e w' => e = .returned (.tuple #[.agg #[.int .i64 0, .int .i64 0, .int .i64 0], .int .i64 8]) ∧ Below w.heap.size w w' := by
  have hM : Hid (KP w w) := Lib.hid (Below.refl _ _)
  have i0 : ∀ w, (Instr.index 51 (.agg #[.int .i64 a, .int .i64 b, .int .i64 c]) (.int .i64 0)).run Tryd.prog w = .ok (.int .i64 a) w := fun _ => by kernel_rfl
  have i1 : ∀ w, (Instr.index 51 (.agg #[.int .i64 a, .int .i64 b, .int .i64 c]) (.int .i64 1)).run Tryd.prog w = .ok (.int .i64 b) w := fun _ => by kernel_rfl
  go_enter Tryd.func35, Tryd.ntmps35
  refine wp_shut ?_
  go_wp2_with fail
  refine wp_loop_rounds 4 ?_
  
  rw [rounds_succ]
  go_wp2_with fail
  refine (H1.out _ (by first | exact kp_keep hM ((((Below.refl w.heap.size w).alloc (Nat.le_refl _) _).alloc (by simp <;> omega) _).alloc (by simp <;> omega) _))).mono ?_
  rintro e V1 ⟨rfl, hb1⟩
  have B1 := Lib.hid (((((Below.refl w.heap.size w).alloc (Nat.le_refl _) _).alloc (by simp <;> omega) _).alloc (by simp <;> omega) _).trans (hb1.mono (by first | assumption | (simp <;> omega) | (simp; done))))
  have A1 := Lib.hid (row_call hb1 (row_alloc (row_alloc (heap_alloc_new _ _) _) _))
  have Z1 := Lib.hid (row_at (k' := w.heap.size + 1) (by simp) (row_call hb1 (row_alloc (heap_alloc_new _ _) _)))
  have M1 := Lib.hid (row_at (k' := w.heap.size + 1 + 1) (by simp) (row_call hb1 (heap_alloc_new _ _)))
  clear hb1
  have A1_0 : V1.cell? ⟨w.heap.size, 0, none⟩ = some (.int .i64 a) := cell_of_row _ _ _ _ _ _ A1.out
  have A1_1 : V1.cell? ⟨w.heap.size, 1, none⟩ = some (.int .i64 b) := cell_of_row _ _ _ _ _ _ A1.out
  have A1_2 : V1.cell? ⟨w.heap.size, 2, none⟩ = some (.int .i64 c) := cell_of_row _ _ _ _ _ _ A1.out
  have Z1_0 : V1.cell? ⟨w.heap.size + 1, 0, none⟩ = some (.int .i64 0) := cell_of_row _ _ _ _ _ _ Z1.out
  have Z1_1 : V1.cell? ⟨w.heap.size + 1, 1, none⟩ = some (.int .i64 0) := cell_of_row _ _ _ _ _ _ Z1.out
  have Z1_2 : V1.cell? ⟨w.heap.size + 1, 2, none⟩ = some (.int .i64 0) := cell_of_row _ _ _ _ _ _ Z1.out
  have Z1_f0 : V1.frozen? ⟨w.heap.size + 1, 0, none⟩ = false := by simp [World.frozen?, Z1.out]
  have Z1_f1 : V1.frozen? ⟨w.heap.size + 1, 1, none⟩ = false := by simp [World.frozen?, Z1.out]
  have Z1_f2 : V1.frozen? ⟨w.heap.size + 1, 2, none⟩ = false := by simp [World.frozen?, Z1.out]
  have M1_0 : V1.cell? ⟨w.heap.size + 1 + 1, 0, none⟩ = some (.int .i64 0) := cell_of_row _ _ _ _ _ _ M1.out
  have M1_1 : V1.cell? ⟨w.heap.size + 1 + 1, 1, none⟩ = some (.int .i64 0) := cell_of_row _ _ _ _ _ _ M1.out
  have M1_2 : V1.cell? ⟨w.heap.size + 1 + 1, 2, none⟩ = some (.int .i64 0) := cell_of_row _ _ _ _ _ _ M1.out
  have M1_f0 : V1.frozen? ⟨w.heap.size + 1 + 1, 0, none⟩ = false := by simp [World.frozen?, M1.out]
  have M1_f1 : V1.frozen? ⟨w.heap.size + 1 + 1, 1, none⟩ = false := by simp [World.frozen?, M1.out]
  have M1_f2 : V1.frozen? ⟨w.heap.size + 1 + 1, 2, none⟩ = false := by simp [World.frozen?, M1.out]
  have zA1 := lt_of_heap A1.out
  have zZ1 := lt_of_heap Z1.out
  have zM1 := lt_of_heap M1.out
  go_simp
  go_wp2_with fail
  rw [rounds_succ]
  go_wp2_with fail
  refine (H2.out _ (by first | exact kp_keep hM (keep1 (B1.out) (by omega) 0 _) | exact kp_keep hM ((keep1 (B1.out) (by omega) 0 _).alloc (by have := B1.out.size; simp <;> omega) _) | exact kp_keep hM (((keep1 (B1.out) (by omega) 0 _).alloc (by have := B1.out.size; simp <;> omega) _).alloc (by have := B1.out.size; simp <;> omega) _) | exact kp_keep hM ((((keep1 (B1.out) (by omega) 0 _).alloc (by have := B1.out.size; simp <;> omega) _).alloc (by have := B1.out.size; simp <;> omega) _).alloc (by have := B1.out.size; simp <;> omega) _))).mono ?_
  rintro e V2 ⟨rfl, hb2⟩
  clear A1_0 A1_1 A1_2 zA1 Z1_0 Z1_1 Z1_2 Z1_f0 Z1_f1 Z1_f2 zZ1 M1_0 M1_1 M1_2 M1_f0 M1_f1 M1_f2 zM1
  have B2 : Hid (Below w.heap.size w V2) := by first | exact Lib.hid ((keep1 (B1.out) (by omega) 0 _).trans (hb2.mono (by have := B1.out.size; first | assumption | (simp <;> omega) | (simp; done)))) | exact Lib.hid (((keep1 (B1.out) (by omega) 0 _).alloc (by have := B1.out.size; simp <;> omega) _).trans (hb2.mono (by have := B1.out.size; first | assumption | (simp <;> omega) | (simp; done)))) | exact Lib.hid ((((keep1 (B1.out) (by omega) 0 _).alloc (by have := B1.out.size; simp <;> omega) _).alloc (by have := B1.out.size; simp <;> omega) _).trans (hb2.mono (by have := B1.out.size; first | assumption | (simp <;> omega) | (simp; done)))) | exact Lib.hid (((((keep1 (B1.out) (by omega) 0 _).alloc (by have := B1.out.size; simp <;> omega) _).alloc (by have := B1.out.size; simp <;> omega) _).alloc (by have := B1.out.size; simp <;> omega) _).trans (hb2.mono (by have := B1.out.size; first | assumption | (simp <;> omega) | (simp; done))))
  first | replace A1 := Lib.hid (row_call hb2 (row_other1 (by omega) A1.out 0 _)) | replace A1 := Lib.hid (row_call hb2 (row_alloc (row_other1 (by omega) A1.out 0 _) _)) | replace A1 := Lib.hid (row_call hb2 (row_alloc (row_alloc (row_other1 (by omega) A1.out 0 _) _) _)) | replace A1 := Lib.hid (row_call hb2 (row_alloc (row_alloc (row_alloc (row_other1 (by omega) A1.out 0 _) _) _) _))
  first | replace Z1 := Lib.hid (row_call hb2 (row_other1 (by omega) Z1.out 0 _)) | replace Z1 := Lib.hid (row_call hb2 (row_alloc (row_other1 (by omega) Z1.out 0 _) _)) | replace Z1 := Lib.hid (row_call hb2 (row_alloc (row_alloc (row_other1 (by omega) Z1.out 0 _) _) _)) | replace Z1 := Lib.hid (row_call hb2 (row_alloc (row_alloc (row_alloc (row_other1 (by omega) Z1.out 0 _) _) _) _))
  first | replace M1 : Hid (V2.heap[w.heap.size + 1 + 1]? = some (.cells #[.int .i64 v1, .int .i64 0, .int .i64 0] _ (0, 0))) := Lib.hid (row_call hb2 (row_set1 M1.out 0 _)) | replace M1 : Hid (V2.heap[w.heap.size + 1 + 1]? = some (.cells #[.int .i64 v1, .int .i64 0, .int .i64 0] _ (0, 0))) := Lib.hid (row_call hb2 (row_alloc (row_set1 M1.out 0 _) _)) | replace M1 : Hid (V2.heap[w.heap.size + 1 + 1]? = some (.cells #[.int .i64 v1, .int .i64 0, .int .i64 0] _ (0, 0))) := Lib.hid (row_call hb2 (row_alloc (row_alloc (row_set1 M1.out 0 _) _) _)) | replace M1 : Hid (V2.heap[w.heap.size + 1 + 1]? = some (.cells #[.int .i64 v1, .int .i64 0, .int .i64 0] _ (0, 0))) := Lib.hid (row_call hb2 (row_alloc (row_alloc (row_alloc (row_set1 M1.out 0 _) _) _) _))
  clear hb2
  have A1_0 : V2.cell? ⟨w.heap.size, 0, none⟩ = some (.int .i64 a) := cell_of_row _ _ _ _ _ _ A1.out
  have A1_1 : V2.cell? ⟨w.heap.size, 1, none⟩ = some (.int .i64 b) := cell_of_row _ _ _ _ _ _ A1.out
  have A1_2 : V2.cell? ⟨w.heap.size, 2, none⟩ = some (.int .i64 c) := cell_of_row _ _ _ _ _ _ A1.out
  have Z1_0 : V2.cell? ⟨w.heap.size + 1, 0, none⟩ = some (.int .i64 0) := cell_of_row _ _ _ _ _ _ Z1.out
  have Z1_1 : V2.cell? ⟨w.heap.size + 1, 1, none⟩ = some (.int .i64 0) := cell_of_row _ _ _ _ _ _ Z1.out
  have Z1_2 : V2.cell? ⟨w.heap.size + 1, 2, none⟩ = some (.int .i64 0) := cell_of_row _ _ _ _ _ _ Z1.out
  have Z1_f0 : V2.frozen? ⟨w.heap.size + 1, 0, none⟩ = false := by simp [World.frozen?, Z1.out]
  have Z1_f1 : V2.frozen? ⟨w.heap.size + 1, 1, none⟩ = false := by simp [World.frozen?, Z1.out]
  have Z1_f2 : V2.frozen? ⟨w.heap.size + 1, 2, none⟩ = false := by simp [World.frozen?, Z1.out]
  have M1_0 : V2.cell? ⟨w.heap.size + 1 + 1, 0, none⟩ = some (.int .i64 v1) := cell_of_row _ _ _ _ _ _ M1.out
  have M1_1 : V2.cell? ⟨w.heap.size + 1 + 1, 1, none⟩ = some (.int .i64 0) := cell_of_row _ _ _ _ _ _ M1.out
  have M1_2 : V2.cell? ⟨w.heap.size + 1 + 1, 2, none⟩ = some (.int .i64 0) := cell_of_row _ _ _ _ _ _ M1.out
  have M1_f0 : V2.frozen? ⟨w.heap.size + 1 + 1, 0, none⟩ = false := by simp [World.frozen?, M1.out]
  have M1_f1 : V2.frozen? ⟨w.heap.size + 1 + 1, 1, none⟩ = false := by simp [World.frozen?, M1.out]
  have M1_f2 : V2.frozen? ⟨w.heap.size + 1 + 1, 2, none⟩ = false := by simp [World.frozen?, M1.out]
  have zA1 := lt_of_heap A1.out
  have zZ1 := lt_of_heap Z1.out
  have zM1 := lt_of_heap M1.out
  go_simp
  go_wp2
  refine shut_ret (v := .tuple #[.agg #[.int .i64 0, .int .i64 0, .int .i64 0], .int .i64 8]) (by simp [results, Tryd.results35, go_sem, zZ1, Z1_0, Z1_1, Z1_2]) rfl ⟨rfl, ?_⟩
  exact keep3 B2.out (by omega) _ _ _
set_option maxHeartbeats 3200000 in
set_option maxRecDepth 100000 in
theorem eachs_3lo (a b c : Int) (v1 v2 v3 : Int) (l1 : decide (v1 < -1000000) = false) (u1 : decide (1000000 < v1) = false) (l2 : decide (v2 < -1000000) = false) (u2 : decide (1000000 < v2) = false) (l3 : decide (v3 < -1000000) = true) (w : World)
    (H1 : Hid (∀ w', KP w w' → Calls Tryd.prog 36 #[.int .i64 a] w' fun e w'' => e = .returned (.tuple #[.int .i64 v1, .int .i64 0]) ∧ Below w'.heap.size w' w''))
    (H2 : Hid (∀ w', KP w w' → Calls Tryd.prog 36 #[.int .i64 b] w' fun e w'' => e = .returned (.tuple #[.int .i64 v2, .int .i64 0]) ∧ Below w'.heap.size w' w''))
    (H3 : Hid (∀ w', KP w w' → Calls Tryd.prog 36 #[.int .i64 c] w' fun e w'' => e = .returned (.tuple #[.int .i64 v3, .int .i64 0]) ∧ Below w'.heap.size w' w'')) :
    Calls Tryd.prog 35 #[.agg #[.int .i64 a, .int .i64 b, .int .i64 c], .func (.func 36) #[] #[]] w fun e w' => e = .returned (.tuple #[.agg #[.int .i64 0, .int .i64 0, .int .i64 0], .int .i64 8]) ∧ Below w.heap.size w w' := by
  have hM : Hid (KP w w) := Lib.hid (Below.refl _ _)
  have i0 : ∀ w, (Instr.index 51 (.agg #[.int .i64 a, .int .i64 b, .int .i64 c]) (.int .i64 0)).run Tryd.prog w = .ok (.int .i64 a) w := fun _ => by kernel_rfl
  have i1 : ∀ w, (Instr.index 51 (.agg #[.int .i64 a, .int .i64 b, .int .i64 c]) (.int .i64 1)).run Tryd.prog w = .ok (.int .i64 b) w := fun _ => by kernel_rfl
  have i2 : ∀ w, (Instr.index 51 (.agg #[.int .i64 a, .int .i64 b, .int .i64 c]) (.int .i64 2)).run Tryd.prog w = .ok (.int .i64 c) w := fun _ => by kernel_rfl
  go_enter Tryd.func35, Tryd.ntmps35
  refine wp_shut ?_
  go_wp2_with fail
  refine wp_loop_rounds 4 ?_
  
  rw [rounds_succ]
  go_wp2_with fail
  refine (H1.out _ (by first | exact kp_keep hM ((((Below.refl w.heap.size w).alloc (Nat.le_refl _) _).alloc (by simp <;> omega) _).alloc (by simp <;> omega) _))).mono ?_
  rintro e V1 ⟨rfl, hb1⟩
  have B1 := Lib.hid (((((Below.refl w.heap.size w).alloc (Nat.le_refl _) _).alloc (by simp <;> omega) _).alloc (by simp <;> omega) _).trans (hb1.mono (by first | assumption | (simp <;> omega) | (simp; done))))
  have A1 := Lib.hid (row_call hb1 (row_alloc (row_alloc (heap_alloc_new _ _) _) _))
  have Z1 := Lib.hid (row_at (k' := w.heap.size + 1) (by simp) (row_call hb1 (row_alloc (heap_alloc_new _ _) _)))
  have M1 := Lib.hid (row_at (k' := w.heap.size + 1 + 1) (by simp) (row_call hb1 (heap_alloc_new _ _)))
  clear hb1
  have A1_0 : V1.cell? ⟨w.heap.size, 0, none⟩ = some (.int .i64 a) := cell_of_row _ _ _ _ _ _ A1.out
  have A1_1 : V1.cell? ⟨w.heap.size, 1, none⟩ = some (.int .i64 b) := cell_of_row _ _ _ _ _ _ A1.out
  have A1_2 : V1.cell? ⟨w.heap.size, 2, none⟩ = some (.int .i64 c) := cell_of_row _ _ _ _ _ _ A1.out
  have Z1_0 : V1.cell? ⟨w.heap.size + 1, 0, none⟩ = some (.int .i64 0) := cell_of_row _ _ _ _ _ _ Z1.out
  have Z1_1 : V1.cell? ⟨w.heap.size + 1, 1, none⟩ = some (.int .i64 0) := cell_of_row _ _ _ _ _ _ Z1.out
  have Z1_2 : V1.cell? ⟨w.heap.size + 1, 2, none⟩ = some (.int .i64 0) := cell_of_row _ _ _ _ _ _ Z1.out
  have Z1_f0 : V1.frozen? ⟨w.heap.size + 1, 0, none⟩ = false := by simp [World.frozen?, Z1.out]
  have Z1_f1 : V1.frozen? ⟨w.heap.size + 1, 1, none⟩ = false := by simp [World.frozen?, Z1.out]
  have Z1_f2 : V1.frozen? ⟨w.heap.size + 1, 2, none⟩ = false := by simp [World.frozen?, Z1.out]
  have M1_0 : V1.cell? ⟨w.heap.size + 1 + 1, 0, none⟩ = some (.int .i64 0) := cell_of_row _ _ _ _ _ _ M1.out
  have M1_1 : V1.cell? ⟨w.heap.size + 1 + 1, 1, none⟩ = some (.int .i64 0) := cell_of_row _ _ _ _ _ _ M1.out
  have M1_2 : V1.cell? ⟨w.heap.size + 1 + 1, 2, none⟩ = some (.int .i64 0) := cell_of_row _ _ _ _ _ _ M1.out
  have M1_f0 : V1.frozen? ⟨w.heap.size + 1 + 1, 0, none⟩ = false := by simp [World.frozen?, M1.out]
  have M1_f1 : V1.frozen? ⟨w.heap.size + 1 + 1, 1, none⟩ = false := by simp [World.frozen?, M1.out]
  have M1_f2 : V1.frozen? ⟨w.heap.size + 1 + 1, 2, none⟩ = false := by simp [World.frozen?, M1.out]
  have zA1 := lt_of_heap A1.out
  have zZ1 := lt_of_heap Z1.out
  have zM1 := lt_of_heap M1.out
  go_simp
  go_wp2_with fail
  rw [rounds_succ]
  go_wp2_with fail
  refine (H2.out _ (by first | exact kp_keep hM (keep1 (B1.out) (by omega) 0 _) | exact kp_keep hM ((keep1 (B1.out) (by omega) 0 _).alloc (by have := B1.out.size; simp <;> omega) _) | exact kp_keep hM (((keep1 (B1.out) (by omega) 0 _).alloc (by have := B1.out.size; simp <;> omega) _).alloc (by have := B1.out.size; simp <;> omega) _) | exact kp_keep hM ((((keep1 (B1.out) (by omega) 0 _).alloc (by have := B1.out.size; simp <;> omega) _).alloc (by have := B1.out.size; simp <;> omega) _).alloc (by have := B1.out.size; simp <;> omega) _))).mono ?_
  rintro e V2 ⟨rfl, hb2⟩
  clear A1_0 A1_1 A1_2 zA1 Z1_0 Z1_1 Z1_2 Z1_f0 Z1_f1 Z1_f2 zZ1 M1_0 M1_1 M1_2 M1_f0 M1_f1 M1_f2 zM1
  have B2 : Hid (Below w.heap.size w V2) := by first | exact Lib.hid ((keep1 (B1.out) (by omega) 0 _).trans (hb2.mono (by have := B1.out.size; first | assumption | (simp <;> omega) | (simp; done)))) | exact Lib.hid (((keep1 (B1.out) (by omega) 0 _).alloc (by have := B1.out.size; simp <;> omega) _).trans (hb2.mono (by have := B1.out.size; first | assumption | (simp <;> omega) | (simp; done)))) | exact Lib.hid ((((keep1 (B1.out) (by omega) 0 _).alloc (by have := B1.out.size; simp <;> omega) _).alloc (by have := B1.out.size; simp <;> omega) _).trans (hb2.mono (by have := B1.out.size; first | assumption | (simp <;> omega) | (simp; done)))) | exact Lib.hid (((((keep1 (B1.out) (by omega) 0 _).alloc (by have := B1.out.size; simp <;> omega) _).alloc (by have := B1.out.size; simp <;> omega) _).alloc (by have := B1.out.size; simp <;> omega) _).trans (hb2.mono (by have := B1.out.size; first | assumption | (simp <;> omega) | (simp; done))))
  first | replace A1 := Lib.hid (row_call hb2 (row_other1 (by omega) A1.out 0 _)) | replace A1 := Lib.hid (row_call hb2 (row_alloc (row_other1 (by omega) A1.out 0 _) _)) | replace A1 := Lib.hid (row_call hb2 (row_alloc (row_alloc (row_other1 (by omega) A1.out 0 _) _) _)) | replace A1 := Lib.hid (row_call hb2 (row_alloc (row_alloc (row_alloc (row_other1 (by omega) A1.out 0 _) _) _) _))
  first | replace Z1 := Lib.hid (row_call hb2 (row_other1 (by omega) Z1.out 0 _)) | replace Z1 := Lib.hid (row_call hb2 (row_alloc (row_other1 (by omega) Z1.out 0 _) _)) | replace Z1 := Lib.hid (row_call hb2 (row_alloc (row_alloc (row_other1 (by omega) Z1.out 0 _) _) _)) | replace Z1 := Lib.hid (row_call hb2 (row_alloc (row_alloc (row_alloc (row_other1 (by omega) Z1.out 0 _) _) _) _))
  first | replace M1 : Hid (V2.heap[w.heap.size + 1 + 1]? = some (.cells #[.int .i64 v1, .int .i64 0, .int .i64 0] _ (0, 0))) := Lib.hid (row_call hb2 (row_set1 M1.out 0 _)) | replace M1 : Hid (V2.heap[w.heap.size + 1 + 1]? = some (.cells #[.int .i64 v1, .int .i64 0, .int .i64 0] _ (0, 0))) := Lib.hid (row_call hb2 (row_alloc (row_set1 M1.out 0 _) _)) | replace M1 : Hid (V2.heap[w.heap.size + 1 + 1]? = some (.cells #[.int .i64 v1, .int .i64 0, .int .i64 0] _ (0, 0))) := Lib.hid (row_call hb2 (row_alloc (row_alloc (row_set1 M1.out 0 _) _) _)) | replace M1 : Hid (V2.heap[w.heap.size + 1 + 1]? = some (.cells #[.int .i64 v1, .int .i64 0, .int .i64 0] _ (0, 0))) := Lib.hid (row_call hb2 (row_alloc (row_alloc (row_alloc (row_set1 M1.out 0 _) _) _) _))
  clear hb2
  have A1_0 : V2.cell? ⟨w.heap.size, 0, none⟩ = some (.int .i64 a) := cell_of_row _ _ _ _ _ _ A1.out
  have A1_1 : V2.cell? ⟨w.heap.size, 1, none⟩ = some (.int .i64 b) := cell_of_row _ _ _ _ _ _ A1.out
  have A1_2 : V2.cell? ⟨w.heap.size, 2, none⟩ = some (.int .i64 c) := cell_of_row _ _ _ _ _ _ A1.out
  have Z1_0 : V2.cell? ⟨w.heap.size + 1, 0, none⟩ = some (.int .i64 0) := cell_of_row _ _ _ _ _ _ Z1.out
  have Z1_1 : V2.cell? ⟨w.heap.size + 1, 1, none⟩ = some (.int .i64 0) := cell_of_row _ _ _ _ _ _ Z1.out
  have Z1_2 : V2.cell? ⟨w.heap.size + 1, 2, none⟩ = some (.int .i64 0) := cell_of_row _ _ _ _ _ _ Z1.out
  have Z1_f0 : V2.frozen? ⟨w.heap.size + 1, 0, none⟩ = false := by simp [World.frozen?, Z1.out]
  have Z1_f1 : V2.frozen? ⟨w.heap.size + 1, 1, none⟩ = false := by simp [World.frozen?, Z1.out]
  have Z1_f2 : V2.frozen? ⟨w.heap.size + 1, 2, none⟩ = false := by simp [World.frozen?, Z1.out]
  have M1_0 : V2.cell? ⟨w.heap.size + 1 + 1, 0, none⟩ = some (.int .i64 v1) := cell_of_row _ _ _ _ _ _ M1.out
  have M1_1 : V2.cell? ⟨w.heap.size + 1 + 1, 1, none⟩ = some (.int .i64 0) := cell_of_row _ _ _ _ _ _ M1.out
  have M1_2 : V2.cell? ⟨w.heap.size + 1 + 1, 2, none⟩ = some (.int .i64 0) := cell_of_row _ _ _ _ _ _ M1.out
  have M1_f0 : V2.frozen? ⟨w.heap.size + 1 + 1, 0, none⟩ = false := by simp [World.frozen?, M1.out]
  have M1_f1 : V2.frozen? ⟨w.heap.size + 1 + 1, 1, none⟩ = false := by simp [World.frozen?, M1.out]
  have M1_f2 : V2.frozen? ⟨w.heap.size + 1 + 1, 2, none⟩ = false := by simp [World.frozen?, M1.out]
  have zA1 := lt_of_heap A1.out
  have zZ1 := lt_of_heap Z1.out
  have zM1 := lt_of_heap M1.out
  go_simp
  go_wp2_with fail
  rw [rounds_succ]
  go_wp2_with fail
  refine (H3.out _ (by first | exact kp_keep hM (keep1 (B2.out) (by omega) 1 _) | exact kp_keep hM ((keep1 (B2.out) (by omega) 1 _).alloc (by have := B2.out.size; simp <;> omega) _) | exact kp_keep hM (((keep1 (B2.out) (by omega) 1 _).alloc (by have := B2.out.size; simp <;> omega) _).alloc (by have := B2.out.size; simp <;> omega) _) | exact kp_keep hM ((((keep1 (B2.out) (by omega) 1 _).alloc (by have := B2.out.size; simp <;> omega) _).alloc (by have := B2.out.size; simp <;> omega) _).alloc (by have := B2.out.size; simp <;> omega) _))).mono ?_
  rintro e V3 ⟨rfl, hb3⟩
  clear A1_0 A1_1 A1_2 zA1 Z1_0 Z1_1 Z1_2 Z1_f0 Z1_f1 Z1_f2 zZ1 M1_0 M1_1 M1_2 M1_f0 M1_f1 M1_f2 zM1
  have B3 : Hid (Below w.heap.size w V3) := by first | exact Lib.hid ((keep1 (B2.out) (by omega) 1 _).trans (hb3.mono (by have := B2.out.size; first | assumption | (simp <;> omega) | (simp; done)))) | exact Lib.hid (((keep1 (B2.out) (by omega) 1 _).alloc (by have := B2.out.size; simp <;> omega) _).trans (hb3.mono (by have := B2.out.size; first | assumption | (simp <;> omega) | (simp; done)))) | exact Lib.hid ((((keep1 (B2.out) (by omega) 1 _).alloc (by have := B2.out.size; simp <;> omega) _).alloc (by have := B2.out.size; simp <;> omega) _).trans (hb3.mono (by have := B2.out.size; first | assumption | (simp <;> omega) | (simp; done)))) | exact Lib.hid (((((keep1 (B2.out) (by omega) 1 _).alloc (by have := B2.out.size; simp <;> omega) _).alloc (by have := B2.out.size; simp <;> omega) _).alloc (by have := B2.out.size; simp <;> omega) _).trans (hb3.mono (by have := B2.out.size; first | assumption | (simp <;> omega) | (simp; done))))
  first | replace A1 := Lib.hid (row_call hb3 (row_other1 (by omega) A1.out 1 _)) | replace A1 := Lib.hid (row_call hb3 (row_alloc (row_other1 (by omega) A1.out 1 _) _)) | replace A1 := Lib.hid (row_call hb3 (row_alloc (row_alloc (row_other1 (by omega) A1.out 1 _) _) _)) | replace A1 := Lib.hid (row_call hb3 (row_alloc (row_alloc (row_alloc (row_other1 (by omega) A1.out 1 _) _) _) _))
  first | replace Z1 := Lib.hid (row_call hb3 (row_other1 (by omega) Z1.out 1 _)) | replace Z1 := Lib.hid (row_call hb3 (row_alloc (row_other1 (by omega) Z1.out 1 _) _)) | replace Z1 := Lib.hid (row_call hb3 (row_alloc (row_alloc (row_other1 (by omega) Z1.out 1 _) _) _)) | replace Z1 := Lib.hid (row_call hb3 (row_alloc (row_alloc (row_alloc (row_other1 (by omega) Z1.out 1 _) _) _) _))
  first | replace M1 : Hid (V3.heap[w.heap.size + 1 + 1]? = some (.cells #[.int .i64 v1, .int .i64 v2, .int .i64 0] _ (0, 0))) := Lib.hid (row_call hb3 (row_set1 M1.out 1 _)) | replace M1 : Hid (V3.heap[w.heap.size + 1 + 1]? = some (.cells #[.int .i64 v1, .int .i64 v2, .int .i64 0] _ (0, 0))) := Lib.hid (row_call hb3 (row_alloc (row_set1 M1.out 1 _) _)) | replace M1 : Hid (V3.heap[w.heap.size + 1 + 1]? = some (.cells #[.int .i64 v1, .int .i64 v2, .int .i64 0] _ (0, 0))) := Lib.hid (row_call hb3 (row_alloc (row_alloc (row_set1 M1.out 1 _) _) _)) | replace M1 : Hid (V3.heap[w.heap.size + 1 + 1]? = some (.cells #[.int .i64 v1, .int .i64 v2, .int .i64 0] _ (0, 0))) := Lib.hid (row_call hb3 (row_alloc (row_alloc (row_alloc (row_set1 M1.out 1 _) _) _) _))
  clear hb3
  have A1_0 : V3.cell? ⟨w.heap.size, 0, none⟩ = some (.int .i64 a) := cell_of_row _ _ _ _ _ _ A1.out
  have A1_1 : V3.cell? ⟨w.heap.size, 1, none⟩ = some (.int .i64 b) := cell_of_row _ _ _ _ _ _ A1.out
  have A1_2 : V3.cell? ⟨w.heap.size, 2, none⟩ = some (.int .i64 c) := cell_of_row _ _ _ _ _ _ A1.out
  have Z1_0 : V3.cell? ⟨w.heap.size + 1, 0, none⟩ = some (.int .i64 0) := cell_of_row _ _ _ _ _ _ Z1.out
  have Z1_1 : V3.cell? ⟨w.heap.size + 1, 1, none⟩ = some (.int .i64 0) := cell_of_row _ _ _ _ _ _ Z1.out
  have Z1_2 : V3.cell? ⟨w.heap.size + 1, 2, none⟩ = some (.int .i64 0) := cell_of_row _ _ _ _ _ _ Z1.out
  have Z1_f0 : V3.frozen? ⟨w.heap.size + 1, 0, none⟩ = false := by simp [World.frozen?, Z1.out]
  have Z1_f1 : V3.frozen? ⟨w.heap.size + 1, 1, none⟩ = false := by simp [World.frozen?, Z1.out]
  have Z1_f2 : V3.frozen? ⟨w.heap.size + 1, 2, none⟩ = false := by simp [World.frozen?, Z1.out]
  have M1_0 : V3.cell? ⟨w.heap.size + 1 + 1, 0, none⟩ = some (.int .i64 v1) := cell_of_row _ _ _ _ _ _ M1.out
  have M1_1 : V3.cell? ⟨w.heap.size + 1 + 1, 1, none⟩ = some (.int .i64 v2) := cell_of_row _ _ _ _ _ _ M1.out
  have M1_2 : V3.cell? ⟨w.heap.size + 1 + 1, 2, none⟩ = some (.int .i64 0) := cell_of_row _ _ _ _ _ _ M1.out
  have M1_f0 : V3.frozen? ⟨w.heap.size + 1 + 1, 0, none⟩ = false := by simp [World.frozen?, M1.out]
  have M1_f1 : V3.frozen? ⟨w.heap.size + 1 + 1, 1, none⟩ = false := by simp [World.frozen?, M1.out]
  have M1_f2 : V3.frozen? ⟨w.heap.size + 1 + 1, 2, none⟩ = false := by simp [World.frozen?, M1.out]
  have zA1 := lt_of_heap A1.out
  have zZ1 := lt_of_heap Z1.out
  have zM1 := lt_of_heap M1.out
  go_simp
  go_wp2
  refine shut_ret (v := .tuple #[.agg #[.int .i64 0, .int .i64 0, .int .i64 0], .int .i64 8]) (by simp [results, Tryd.results35, go_sem, zZ1, Z1_0, Z1_1, Z1_2]) rfl ⟨rfl, ?_⟩
  exact keep3 B3.out (by omega) _ _ _
set_option maxHeartbeats 3200000 in
set_option maxRecDepth 100000 in
theorem eachs_3hi (a b c : Int) (v1 v2 v3 : Int) (l1 : decide (v1 < -1000000) = false) (u1 : decide (1000000 < v1) = false) (l2 : decide (v2 < -1000000) = false) (u2 : decide (1000000 < v2) = false) (l3 : decide (v3 < -1000000) = false) (u3 : decide (1000000 < v3) = true) (w : World)
    (H1 : Hid (∀ w', KP w w' → Calls Tryd.prog 36 #[.int .i64 a] w' fun e w'' => e = .returned (.tuple #[.int .i64 v1, .int .i64 0]) ∧ Below w'.heap.size w' w''))
    (H2 : Hid (∀ w', KP w w' → Calls Tryd.prog 36 #[.int .i64 b] w' fun e w'' => e = .returned (.tuple #[.int .i64 v2, .int .i64 0]) ∧ Below w'.heap.size w' w''))
    (H3 : Hid (∀ w', KP w w' → Calls Tryd.prog 36 #[.int .i64 c] w' fun e w'' => e = .returned (.tuple #[.int .i64 v3, .int .i64 0]) ∧ Below w'.heap.size w' w'')) :
    Calls Tryd.prog 35 #[.agg #[.int .i64 a, .int .i64 b, .int .i64 c], .func (.func 36) #[] #[]] w fun e w' => e = .returned (.tuple #[.agg #[.int .i64 0, .int .i64 0, .int .i64 0], .int .i64 8]) ∧ Below w.heap.size w w' := by
  have hM : Hid (KP w w) := Lib.hid (Below.refl _ _)
  have i0 : ∀ w, (Instr.index 51 (.agg #[.int .i64 a, .int .i64 b, .int .i64 c]) (.int .i64 0)).run Tryd.prog w = .ok (.int .i64 a) w := fun _ => by kernel_rfl
  have i1 : ∀ w, (Instr.index 51 (.agg #[.int .i64 a, .int .i64 b, .int .i64 c]) (.int .i64 1)).run Tryd.prog w = .ok (.int .i64 b) w := fun _ => by kernel_rfl
  have i2 : ∀ w, (Instr.index 51 (.agg #[.int .i64 a, .int .i64 b, .int .i64 c]) (.int .i64 2)).run Tryd.prog w = .ok (.int .i64 c) w := fun _ => by kernel_rfl
  go_enter Tryd.func35, Tryd.ntmps35
  refine wp_shut ?_
  go_wp2_with fail
  refine wp_loop_rounds 4 ?_
  
  rw [rounds_succ]
  go_wp2_with fail
  refine (H1.out _ (by first | exact kp_keep hM ((((Below.refl w.heap.size w).alloc (Nat.le_refl _) _).alloc (by simp <;> omega) _).alloc (by simp <;> omega) _))).mono ?_
  rintro e V1 ⟨rfl, hb1⟩
  have B1 := Lib.hid (((((Below.refl w.heap.size w).alloc (Nat.le_refl _) _).alloc (by simp <;> omega) _).alloc (by simp <;> omega) _).trans (hb1.mono (by first | assumption | (simp <;> omega) | (simp; done))))
  have A1 := Lib.hid (row_call hb1 (row_alloc (row_alloc (heap_alloc_new _ _) _) _))
  have Z1 := Lib.hid (row_at (k' := w.heap.size + 1) (by simp) (row_call hb1 (row_alloc (heap_alloc_new _ _) _)))
  have M1 := Lib.hid (row_at (k' := w.heap.size + 1 + 1) (by simp) (row_call hb1 (heap_alloc_new _ _)))
  clear hb1
  have A1_0 : V1.cell? ⟨w.heap.size, 0, none⟩ = some (.int .i64 a) := cell_of_row _ _ _ _ _ _ A1.out
  have A1_1 : V1.cell? ⟨w.heap.size, 1, none⟩ = some (.int .i64 b) := cell_of_row _ _ _ _ _ _ A1.out
  have A1_2 : V1.cell? ⟨w.heap.size, 2, none⟩ = some (.int .i64 c) := cell_of_row _ _ _ _ _ _ A1.out
  have Z1_0 : V1.cell? ⟨w.heap.size + 1, 0, none⟩ = some (.int .i64 0) := cell_of_row _ _ _ _ _ _ Z1.out
  have Z1_1 : V1.cell? ⟨w.heap.size + 1, 1, none⟩ = some (.int .i64 0) := cell_of_row _ _ _ _ _ _ Z1.out
  have Z1_2 : V1.cell? ⟨w.heap.size + 1, 2, none⟩ = some (.int .i64 0) := cell_of_row _ _ _ _ _ _ Z1.out
  have Z1_f0 : V1.frozen? ⟨w.heap.size + 1, 0, none⟩ = false := by simp [World.frozen?, Z1.out]
  have Z1_f1 : V1.frozen? ⟨w.heap.size + 1, 1, none⟩ = false := by simp [World.frozen?, Z1.out]
  have Z1_f2 : V1.frozen? ⟨w.heap.size + 1, 2, none⟩ = false := by simp [World.frozen?, Z1.out]
  have M1_0 : V1.cell? ⟨w.heap.size + 1 + 1, 0, none⟩ = some (.int .i64 0) := cell_of_row _ _ _ _ _ _ M1.out
  have M1_1 : V1.cell? ⟨w.heap.size + 1 + 1, 1, none⟩ = some (.int .i64 0) := cell_of_row _ _ _ _ _ _ M1.out
  have M1_2 : V1.cell? ⟨w.heap.size + 1 + 1, 2, none⟩ = some (.int .i64 0) := cell_of_row _ _ _ _ _ _ M1.out
  have M1_f0 : V1.frozen? ⟨w.heap.size + 1 + 1, 0, none⟩ = false := by simp [World.frozen?, M1.out]
  have M1_f1 : V1.frozen? ⟨w.heap.size + 1 + 1, 1, none⟩ = false := by simp [World.frozen?, M1.out]
  have M1_f2 : V1.frozen? ⟨w.heap.size + 1 + 1, 2, none⟩ = false := by simp [World.frozen?, M1.out]
  have zA1 := lt_of_heap A1.out
  have zZ1 := lt_of_heap Z1.out
  have zM1 := lt_of_heap M1.out
  go_simp
  go_wp2_with fail
  rw [rounds_succ]
  go_wp2_with fail
  refine (H2.out _ (by first | exact kp_keep hM (keep1 (B1.out) (by omega) 0 _) | exact kp_keep hM ((keep1 (B1.out) (by omega) 0 _).alloc (by have := B1.out.size; simp <;> omega) _) | exact kp_keep hM (((keep1 (B1.out) (by omega) 0 _).alloc (by have := B1.out.size; simp <;> omega) _).alloc (by have := B1.out.size; simp <;> omega) _) | exact kp_keep hM ((((keep1 (B1.out) (by omega) 0 _).alloc (by have := B1.out.size; simp <;> omega) _).alloc (by have := B1.out.size; simp <;> omega) _).alloc (by have := B1.out.size; simp <;> omega) _))).mono ?_
  rintro e V2 ⟨rfl, hb2⟩
  clear A1_0 A1_1 A1_2 zA1 Z1_0 Z1_1 Z1_2 Z1_f0 Z1_f1 Z1_f2 zZ1 M1_0 M1_1 M1_2 M1_f0 M1_f1 M1_f2 zM1
  have B2 : Hid (Below w.heap.size w V2) := by first | exact Lib.hid ((keep1 (B1.out) (by omega) 0 _).trans (hb2.mono (by have := B1.out.size; first | assumption | (simp <;> omega) | (simp; done)))) | exact Lib.hid (((keep1 (B1.out) (by omega) 0 _).alloc (by have := B1.out.size; simp <;> omega) _).trans (hb2.mono (by have := B1.out.size; first | assumption | (simp <;> omega) | (simp; done)))) | exact Lib.hid ((((keep1 (B1.out) (by omega) 0 _).alloc (by have := B1.out.size; simp <;> omega) _).alloc (by have := B1.out.size; simp <;> omega) _).trans (hb2.mono (by have := B1.out.size; first | assumption | (simp <;> omega) | (simp; done)))) | exact Lib.hid (((((keep1 (B1.out) (by omega) 0 _).alloc (by have := B1.out.size; simp <;> omega) _).alloc (by have := B1.out.size; simp <;> omega) _).alloc (by have := B1.out.size; simp <;> omega) _).trans (hb2.mono (by have := B1.out.size; first | assumption | (simp <;> omega) | (simp; done))))
  first | replace A1 := Lib.hid (row_call hb2 (row_other1 (by omega) A1.out 0 _)) | replace A1 := Lib.hid (row_call hb2 (row_alloc (row_other1 (by omega) A1.out 0 _) _)) | replace A1 := Lib.hid (row_call hb2 (row_alloc (row_alloc (row_other1 (by omega) A1.out 0 _) _) _)) | replace A1 := Lib.hid (row_call hb2 (row_alloc (row_alloc (row_alloc (row_other1 (by omega) A1.out 0 _) _) _) _))
  first | replace Z1 := Lib.hid (row_call hb2 (row_other1 (by omega) Z1.out 0 _)) | replace Z1 := Lib.hid (row_call hb2 (row_alloc (row_other1 (by omega) Z1.out 0 _) _)) | replace Z1 := Lib.hid (row_call hb2 (row_alloc (row_alloc (row_other1 (by omega) Z1.out 0 _) _) _)) | replace Z1 := Lib.hid (row_call hb2 (row_alloc (row_alloc (row_alloc (row_other1 (by omega) Z1.out 0 _) _) _) _))
  first | replace M1 : Hid (V2.heap[w.heap.size + 1 + 1]? = some (.cells #[.int .i64 v1, .int .i64 0, .int .i64 0] _ (0, 0))) := Lib.hid (row_call hb2 (row_set1 M1.out 0 _)) | replace M1 : Hid (V2.heap[w.heap.size + 1 + 1]? = some (.cells #[.int .i64 v1, .int .i64 0, .int .i64 0] _ (0, 0))) := Lib.hid (row_call hb2 (row_alloc (row_set1 M1.out 0 _) _)) | replace M1 : Hid (V2.heap[w.heap.size + 1 + 1]? = some (.cells #[.int .i64 v1, .int .i64 0, .int .i64 0] _ (0, 0))) := Lib.hid (row_call hb2 (row_alloc (row_alloc (row_set1 M1.out 0 _) _) _)) | replace M1 : Hid (V2.heap[w.heap.size + 1 + 1]? = some (.cells #[.int .i64 v1, .int .i64 0, .int .i64 0] _ (0, 0))) := Lib.hid (row_call hb2 (row_alloc (row_alloc (row_alloc (row_set1 M1.out 0 _) _) _) _))
  clear hb2
  have A1_0 : V2.cell? ⟨w.heap.size, 0, none⟩ = some (.int .i64 a) := cell_of_row _ _ _ _ _ _ A1.out
  have A1_1 : V2.cell? ⟨w.heap.size, 1, none⟩ = some (.int .i64 b) := cell_of_row _ _ _ _ _ _ A1.out
  have A1_2 : V2.cell? ⟨w.heap.size, 2, none⟩ = some (.int .i64 c) := cell_of_row _ _ _ _ _ _ A1.out
  have Z1_0 : V2.cell? ⟨w.heap.size + 1, 0, none⟩ = some (.int .i64 0) := cell_of_row _ _ _ _ _ _ Z1.out
  have Z1_1 : V2.cell? ⟨w.heap.size + 1, 1, none⟩ = some (.int .i64 0) := cell_of_row _ _ _ _ _ _ Z1.out
  have Z1_2 : V2.cell? ⟨w.heap.size + 1, 2, none⟩ = some (.int .i64 0) := cell_of_row _ _ _ _ _ _ Z1.out
  have Z1_f0 : V2.frozen? ⟨w.heap.size + 1, 0, none⟩ = false := by simp [World.frozen?, Z1.out]
  have Z1_f1 : V2.frozen? ⟨w.heap.size + 1, 1, none⟩ = false := by simp [World.frozen?, Z1.out]
  have Z1_f2 : V2.frozen? ⟨w.heap.size + 1, 2, none⟩ = false := by simp [World.frozen?, Z1.out]
  have M1_0 : V2.cell? ⟨w.heap.size + 1 + 1, 0, none⟩ = some (.int .i64 v1) := cell_of_row _ _ _ _ _ _ M1.out
  have M1_1 : V2.cell? ⟨w.heap.size + 1 + 1, 1, none⟩ = some (.int .i64 0) := cell_of_row _ _ _ _ _ _ M1.out
  have M1_2 : V2.cell? ⟨w.heap.size + 1 + 1, 2, none⟩ = some (.int .i64 0) := cell_of_row _ _ _ _ _ _ M1.out
  have M1_f0 : V2.frozen? ⟨w.heap.size + 1 + 1, 0, none⟩ = false := by simp [World.frozen?, M1.out]
  have M1_f1 : V2.frozen? ⟨w.heap.size + 1 + 1, 1, none⟩ = false := by simp [World.frozen?, M1.out]
  have M1_f2 : V2.frozen? ⟨w.heap.size + 1 + 1, 2, none⟩ = false := by simp [World.frozen?, M1.out]
  have zA1 := lt_of_heap A1.out
  have zZ1 := lt_of_heap Z1.out
  have zM1 := lt_of_heap M1.out
  go_simp
  go_wp2_with fail
  rw [rounds_succ]
  go_wp2_with fail
  refine (H3.out _ (by first | exact kp_keep hM (keep1 (B2.out) (by omega) 1 _) | exact kp_keep hM ((keep1 (B2.out) (by omega) 1 _).alloc (by have := B2.out.size; simp <;> omega) _) | exact kp_keep hM (((keep1 (B2.out) (by omega) 1 _).alloc (by have := B2.out.size; simp <;> omega) _).alloc (by have := B2.out.size; simp <;> omega) _) | exact kp_keep hM ((((keep1 (B2.out) (by omega) 1 _).alloc (by have := B2.out.size; simp <;> omega) _).alloc (by have := B2.out.size; simp <;> omega) _).alloc (by have := B2.out.size; simp <;> omega) _))).mono ?_
  rintro e V3 ⟨rfl, hb3⟩
  clear A1_0 A1_1 A1_2 zA1 Z1_0 Z1_1 Z1_2 Z1_f0 Z1_f1 Z1_f2 zZ1 M1_0 M1_1 M1_2 M1_f0 M1_f1 M1_f2 zM1
  have B3 : Hid (Below w.heap.size w V3) := by first | exact Lib.hid ((keep1 (B2.out) (by omega) 1 _).trans (hb3.mono (by have := B2.out.size; first | assumption | (simp <;> omega) | (simp; done)))) | exact Lib.hid (((keep1 (B2.out) (by omega) 1 _).alloc (by have := B2.out.size; simp <;> omega) _).trans (hb3.mono (by have := B2.out.size; first | assumption | (simp <;> omega) | (simp; done)))) | exact Lib.hid ((((keep1 (B2.out) (by omega) 1 _).alloc (by have := B2.out.size; simp <;> omega) _).alloc (by have := B2.out.size; simp <;> omega) _).trans (hb3.mono (by have := B2.out.size; first | assumption | (simp <;> omega) | (simp; done)))) | exact Lib.hid (((((keep1 (B2.out) (by omega) 1 _).alloc (by have := B2.out.size; simp <;> omega) _).alloc (by have := B2.out.size; simp <;> omega) _).alloc (by have := B2.out.size; simp <;> omega) _).trans (hb3.mono (by have := B2.out.size; first | assumption | (simp <;> omega) | (simp; done))))
  first | replace A1 := Lib.hid (row_call hb3 (row_other1 (by omega) A1.out 1 _)) | replace A1 := Lib.hid (row_call hb3 (row_alloc (row_other1 (by omega) A1.out 1 _) _)) | replace A1 := Lib.hid (row_call hb3 (row_alloc (row_alloc (row_other1 (by omega) A1.out 1 _) _) _)) | replace A1 := Lib.hid (row_call hb3 (row_alloc (row_alloc (row_alloc (row_other1 (by omega) A1.out 1 _) _) _) _))
  first | replace Z1 := Lib.hid (row_call hb3 (row_other1 (by omega) Z1.out 1 _)) | replace Z1 := Lib.hid (row_call hb3 (row_alloc (row_other1 (by omega) Z1.out 1 _) _)) | replace Z1 := Lib.hid (row_call hb3 (row_alloc (row_alloc (row_other1 (by omega) Z1.out 1 _) _) _)) | replace Z1 := Lib.hid (row_call hb3 (row_alloc (row_alloc (row_alloc (row_other1 (by omega) Z1.out 1 _) _) _) _))
  first | replace M1 : Hid (V3.heap[w.heap.size + 1 + 1]? = some (.cells #[.int .i64 v1, .int .i64 v2, .int .i64 0] _ (0, 0))) := Lib.hid (row_call hb3 (row_set1 M1.out 1 _)) | replace M1 : Hid (V3.heap[w.heap.size + 1 + 1]? = some (.cells #[.int .i64 v1, .int .i64 v2, .int .i64 0] _ (0, 0))) := Lib.hid (row_call hb3 (row_alloc (row_set1 M1.out 1 _) _)) | replace M1 : Hid (V3.heap[w.heap.size + 1 + 1]? = some (.cells #[.int .i64 v1, .int .i64 v2, .int .i64 0] _ (0, 0))) := Lib.hid (row_call hb3 (row_alloc (row_alloc (row_set1 M1.out 1 _) _) _)) | replace M1 : Hid (V3.heap[w.heap.size + 1 + 1]? = some (.cells #[.int .i64 v1, .int .i64 v2, .int .i64 0] _ (0, 0))) := Lib.hid (row_call hb3 (row_alloc (row_alloc (row_alloc (row_set1 M1.out 1 _) _) _) _))
  clear hb3
  have A1_0 : V3.cell? ⟨w.heap.size, 0, none⟩ = some (.int .i64 a) := cell_of_row _ _ _ _ _ _ A1.out
  have A1_1 : V3.cell? ⟨w.heap.size, 1, none⟩ = some (.int .i64 b) := cell_of_row _ _ _ _ _ _ A1.out
  have A1_2 : V3.cell? ⟨w.heap.size, 2, none⟩ = some (.int .i64 c) := cell_of_row _ _ _ _ _ _ A1.out
  have Z1_0 : V3.cell? ⟨w.heap.size + 1, 0, none⟩ = some (.int .i64 0) := cell_of_row _ _ _ _ _ _ Z1.out
  have Z1_1 : V3.cell? ⟨w.heap.size + 1, 1, none⟩ = some (.int .i64 0) := cell_of_row _ _ _ _ _ _ Z1.out
  have Z1_2 : V3.cell? ⟨w.heap.size + 1, 2, none⟩ = some (.int .i64 0) := cell_of_row _ _ _ _ _ _ Z1.out
  have Z1_f0 : V3.frozen? ⟨w.heap.size + 1, 0, none⟩ = false := by simp [World.frozen?, Z1.out]
  have Z1_f1 : V3.frozen? ⟨w.heap.size + 1, 1, none⟩ = false := by simp [World.frozen?, Z1.out]
  have Z1_f2 : V3.frozen? ⟨w.heap.size + 1, 2, none⟩ = false := by simp [World.frozen?, Z1.out]
  have M1_0 : V3.cell? ⟨w.heap.size + 1 + 1, 0, none⟩ = some (.int .i64 v1) := cell_of_row _ _ _ _ _ _ M1.out
  have M1_1 : V3.cell? ⟨w.heap.size + 1 + 1, 1, none⟩ = some (.int .i64 v2) := cell_of_row _ _ _ _ _ _ M1.out
  have M1_2 : V3.cell? ⟨w.heap.size + 1 + 1, 2, none⟩ = some (.int .i64 0) := cell_of_row _ _ _ _ _ _ M1.out
  have M1_f0 : V3.frozen? ⟨w.heap.size + 1 + 1, 0, none⟩ = false := by simp [World.frozen?, M1.out]
  have M1_f1 : V3.frozen? ⟨w.heap.size + 1 + 1, 1, none⟩ = false := by simp [World.frozen?, M1.out]
  have M1_f2 : V3.frozen? ⟨w.heap.size + 1 + 1, 2, none⟩ = false := by simp [World.frozen?, M1.out]
  have zA1 := lt_of_heap A1.out
  have zZ1 := lt_of_heap Z1.out
  have zM1 := lt_of_heap M1.out
  go_simp
  go_wp2
  refine shut_ret (v := .tuple #[.agg #[.int .i64 0, .int .i64 0, .int .i64 0], .int .i64 8]) (by simp [results, Tryd.results35, go_sem, zZ1, Z1_0, Z1_1, Z1_2]) rfl ⟨rfl, ?_⟩
  exact keep3 B3.out (by omega) _ _ _
set_option maxHeartbeats 3200000 in
set_option maxRecDepth 100000 in
theorem eachs_3ok (a b c : Int) (v1 v2 v3 : Int) (l1 : decide (v1 < -1000000) = false) (u1 : decide (1000000 < v1) = false) (l2 : decide (v2 < -1000000) = false) (u2 : decide (1000000 < v2) = false) (l3 : decide (v3 < -1000000) = false) (u3 : decide (1000000 < v3) = false) (w : World)
    (H1 : Hid (∀ w', KP w w' → Calls Tryd.prog 36 #[.int .i64 a] w' fun e w'' => e = .returned (.tuple #[.int .i64 v1, .int .i64 0]) ∧ Below w'.heap.size w' w''))
    (H2 : Hid (∀ w', KP w w' → Calls Tryd.prog 36 #[.int .i64 b] w' fun e w'' => e = .returned (.tuple #[.int .i64 v2, .int .i64 0]) ∧ Below w'.heap.size w' w''))
    (H3 : Hid (∀ w', KP w w' → Calls Tryd.prog 36 #[.int .i64 c] w' fun e w'' => e = .returned (.tuple #[.int .i64 v3, .int .i64 0]) ∧ Below w'.heap.size w' w'')) :
    Calls Tryd.prog 35 #[.agg #[.int .i64 a, .int .i64 b, .int .i64 c], .func (.func 36) #[] #[]] w fun e w' => e = .returned (.tuple #[.agg #[.int .i64 v1, .int .i64 v2, .int .i64 v3], .int .i64 0]) ∧ Below w.heap.size w w' := by
  have hM : Hid (KP w w) := Lib.hid (Below.refl _ _)
  have i0 : ∀ w, (Instr.index 51 (.agg #[.int .i64 a, .int .i64 b, .int .i64 c]) (.int .i64 0)).run Tryd.prog w = .ok (.int .i64 a) w := fun _ => by kernel_rfl
  have i1 : ∀ w, (Instr.index 51 (.agg #[.int .i64 a, .int .i64 b, .int .i64 c]) (.int .i64 1)).run Tryd.prog w = .ok (.int .i64 b) w := fun _ => by kernel_rfl
  have i2 : ∀ w, (Instr.index 51 (.agg #[.int .i64 a, .int .i64 b, .int .i64 c]) (.int .i64 2)).run Tryd.prog w = .ok (.int .i64 c) w := fun _ => by kernel_rfl
  go_enter Tryd.func35, Tryd.ntmps35
  refine wp_shut ?_
  go_wp2_with fail
  refine wp_loop_rounds 4 ?_
  
  rw [rounds_succ]
  go_wp2_with fail
  refine (H1.out _ (by first | exact kp_keep hM ((((Below.refl w.heap.size w).alloc (Nat.le_refl _) _).alloc (by simp <;> omega) _).alloc (by simp <;> omega) _))).mono ?_
  rintro e V1 ⟨rfl, hb1⟩
  have B1 := Lib.hid (((((Below.refl w.heap.size w).alloc (Nat.le_refl _) _).alloc (by simp <;> omega) _).alloc (by simp <;> omega) _).trans (hb1.mono (by first | assumption | (simp <;> omega) | (simp; done))))
  have A1 := Lib.hid (row_call hb1 (row_alloc (row_alloc (heap_alloc_new _ _) _) _))
  have Z1 := Lib.hid (row_at (k' := w.heap.size + 1) (by simp) (row_call hb1 (row_alloc (heap_alloc_new _ _) _)))
  have M1 := Lib.hid (row_at (k' := w.heap.size + 1 + 1) (by simp) (row_call hb1 (heap_alloc_new _ _)))
  clear hb1
  have A1_0 : V1.cell? ⟨w.heap.size, 0, none⟩ = some (.int .i64 a) := cell_of_row _ _ _ _ _ _ A1.out
  have A1_1 : V1.cell? ⟨w.heap.size, 1, none⟩ = some (.int .i64 b) := cell_of_row _ _ _ _ _ _ A1.out
  have A1_2 : V1.cell? ⟨w.heap.size, 2, none⟩ = some (.int .i64 c) := cell_of_row _ _ _ _ _ _ A1.out
  have Z1_0 : V1.cell? ⟨w.heap.size + 1, 0, none⟩ = some (.int .i64 0) := cell_of_row _ _ _ _ _ _ Z1.out
  have Z1_1 : V1.cell? ⟨w.heap.size + 1, 1, none⟩ = some (.int .i64 0) := cell_of_row _ _ _ _ _ _ Z1.out
  have Z1_2 : V1.cell? ⟨w.heap.size + 1, 2, none⟩ = some (.int .i64 0) := cell_of_row _ _ _ _ _ _ Z1.out
  have Z1_f0 : V1.frozen? ⟨w.heap.size + 1, 0, none⟩ = false := by simp [World.frozen?, Z1.out]
  have Z1_f1 : V1.frozen? ⟨w.heap.size + 1, 1, none⟩ = false := by simp [World.frozen?, Z1.out]
  have Z1_f2 : V1.frozen? ⟨w.heap.size + 1, 2, none⟩ = false := by simp [World.frozen?, Z1.out]
  have M1_0 : V1.cell? ⟨w.heap.size + 1 + 1, 0, none⟩ = some (.int .i64 0) := cell_of_row _ _ _ _ _ _ M1.out
  have M1_1 : V1.cell? ⟨w.heap.size + 1 + 1, 1, none⟩ = some (.int .i64 0) := cell_of_row _ _ _ _ _ _ M1.out
  have M1_2 : V1.cell? ⟨w.heap.size + 1 + 1, 2, none⟩ = some (.int .i64 0) := cell_of_row _ _ _ _ _ _ M1.out
  have M1_f0 : V1.frozen? ⟨w.heap.size + 1 + 1, 0, none⟩ = false := by simp [World.frozen?, M1.out]
  have M1_f1 : V1.frozen? ⟨w.heap.size + 1 + 1, 1, none⟩ = false := by simp [World.frozen?, M1.out]
  have M1_f2 : V1.frozen? ⟨w.heap.size + 1 + 1, 2, none⟩ = false := by simp [World.frozen?, M1.out]
  have zA1 := lt_of_heap A1.out
  have zZ1 := lt_of_heap Z1.out
  have zM1 := lt_of_heap M1.out
  go_simp
  go_wp2_with fail
  rw [rounds_succ]
  go_wp2_with fail
  refine (H2.out _ (by first | exact kp_keep hM (keep1 (B1.out) (by omega) 0 _) | exact kp_keep hM ((keep1 (B1.out) (by omega) 0 _).alloc (by have := B1.out.size; simp <;> omega) _) | exact kp_keep hM (((keep1 (B1.out) (by omega) 0 _).alloc (by have := B1.out.size; simp <;> omega) _).alloc (by have := B1.out.size; simp <;> omega) _) | exact kp_keep hM ((((keep1 (B1.out) (by omega) 0 _).alloc (by have := B1.out.size; simp <;> omega) _).alloc (by have := B1.out.size; simp <;> omega) _).alloc (by have := B1.out.size; simp <;> omega) _))).mono ?_
  rintro e V2 ⟨rfl, hb2⟩
  clear A1_0 A1_1 A1_2 zA1 Z1_0 Z1_1 Z1_2 Z1_f0 Z1_f1 Z1_f2 zZ1 M1_0 M1_1 M1_2 M1_f0 M1_f1 M1_f2 zM1
  have B2 : Hid (Below w.heap.size w V2) := by first | exact Lib.hid ((keep1 (B1.out) (by omega) 0 _).trans (hb2.mono (by have := B1.out.size; first | assumption | (simp <;> omega) | (simp; done)))) | exact Lib.hid (((keep1 (B1.out) (by omega) 0 _).alloc (by have := B1.out.size; simp <;> omega) _).trans (hb2.mono (by have := B1.out.size; first | assumption | (simp <;> omega) | (simp; done)))) | exact Lib.hid ((((keep1 (B1.out) (by omega) 0 _).alloc (by have := B1.out.size; simp <;> omega) _).alloc (by have := B1.out.size; simp <;> omega) _).trans (hb2.mono (by have := B1.out.size; first | assumption | (simp <;> omega) | (simp; done)))) | exact Lib.hid (((((keep1 (B1.out) (by omega) 0 _).alloc (by have := B1.out.size; simp <;> omega) _).alloc (by have := B1.out.size; simp <;> omega) _).alloc (by have := B1.out.size; simp <;> omega) _).trans (hb2.mono (by have := B1.out.size; first | assumption | (simp <;> omega) | (simp; done))))
  first | replace A1 := Lib.hid (row_call hb2 (row_other1 (by omega) A1.out 0 _)) | replace A1 := Lib.hid (row_call hb2 (row_alloc (row_other1 (by omega) A1.out 0 _) _)) | replace A1 := Lib.hid (row_call hb2 (row_alloc (row_alloc (row_other1 (by omega) A1.out 0 _) _) _)) | replace A1 := Lib.hid (row_call hb2 (row_alloc (row_alloc (row_alloc (row_other1 (by omega) A1.out 0 _) _) _) _))
  first | replace Z1 := Lib.hid (row_call hb2 (row_other1 (by omega) Z1.out 0 _)) | replace Z1 := Lib.hid (row_call hb2 (row_alloc (row_other1 (by omega) Z1.out 0 _) _)) | replace Z1 := Lib.hid (row_call hb2 (row_alloc (row_alloc (row_other1 (by omega) Z1.out 0 _) _) _)) | replace Z1 := Lib.hid (row_call hb2 (row_alloc (row_alloc (row_alloc (row_other1 (by omega) Z1.out 0 _) _) _) _))
  first | replace M1 : Hid (V2.heap[w.heap.size + 1 + 1]? = some (.cells #[.int .i64 v1, .int .i64 0, .int .i64 0] _ (0, 0))) := Lib.hid (row_call hb2 (row_set1 M1.out 0 _)) | replace M1 : Hid (V2.heap[w.heap.size + 1 + 1]? = some (.cells #[.int .i64 v1, .int .i64 0, .int .i64 0] _ (0, 0))) := Lib.hid (row_call hb2 (row_alloc (row_set1 M1.out 0 _) _)) | replace M1 : Hid (V2.heap[w.heap.size + 1 + 1]? = some (.cells #[.int .i64 v1, .int .i64 0, .int .i64 0] _ (0, 0))) := Lib.hid (row_call hb2 (row_alloc (row_alloc (row_set1 M1.out 0 _) _) _)) | replace M1 : Hid (V2.heap[w.heap.size + 1 + 1]? = some (.cells #[.int .i64 v1, .int .i64 0, .int .i64 0] _ (0, 0))) := Lib.hid (row_call hb2 (row_alloc (row_alloc (row_alloc (row_set1 M1.out 0 _) _) _) _))
  clear hb2
  have A1_0 : V2.cell? ⟨w.heap.size, 0, none⟩ = some (.int .i64 a) := cell_of_row _ _ _ _ _ _ A1.out
  have A1_1 : V2.cell? ⟨w.heap.size, 1, none⟩ = some (.int .i64 b) := cell_of_row _ _ _ _ _ _ A1.out
  have A1_2 : V2.cell? ⟨w.heap.size, 2, none⟩ = some (.int .i64 c) := cell_of_row _ _ _ _ _ _ A1.out
  have Z1_0 : V2.cell? ⟨w.heap.size + 1, 0, none⟩ = some (.int .i64 0) := cell_of_row _ _ _ _ _ _ Z1.out
  have Z1_1 : V2.cell? ⟨w.heap.size + 1, 1, none⟩ = some (.int .i64 0) := cell_of_row _ _ _ _ _ _ Z1.out
  have Z1_2 : V2.cell? ⟨w.heap.size + 1, 2, none⟩ = some (.int .i64 0) := cell_of_row _ _ _ _ _ _ Z1.out
  have Z1_f0 : V2.frozen? ⟨w.heap.size + 1, 0, none⟩ = false := by simp [World.frozen?, Z1.out]
  have Z1_f1 : V2.frozen? ⟨w.heap.size + 1, 1, none⟩ = false := by simp [World.frozen?, Z1.out]
  have Z1_f2 : V2.frozen? ⟨w.heap.size + 1, 2, none⟩ = false := by simp [World.frozen?, Z1.out]
  have M1_0 : V2.cell? ⟨w.heap.size + 1 + 1, 0, none⟩ = some (.int .i64 v1) := cell_of_row _ _ _ _ _ _ M1.out
  have M1_1 : V2.cell? ⟨w.heap.size + 1 + 1, 1, none⟩ = some (.int .i64 0) := cell_of_row _ _ _ _ _ _ M1.out
  have M1_2 : V2.cell? ⟨w.heap.size + 1 + 1, 2, none⟩ = some (.int .i64 0) := cell_of_row _ _ _ _ _ _ M1.out
  have M1_f0 : V2.frozen? ⟨w.heap.size + 1 + 1, 0, none⟩ = false := by simp [World.frozen?, M1.out]
  have M1_f1 : V2.frozen? ⟨w.heap.size + 1 + 1, 1, none⟩ = false := by simp [World.frozen?, M1.out]
  have M1_f2 : V2.frozen? ⟨w.heap.size + 1 + 1, 2, none⟩ = false := by simp [World.frozen?, M1.out]
  have zA1 := lt_of_heap A1.out
  have zZ1 := lt_of_heap Z1.out
  have zM1 := lt_of_heap M1.out
  go_simp
  go_wp2_with fail
  rw [rounds_succ]
  go_wp2_with fail
  refine (H3.out _ (by first | exact kp_keep hM (keep1 (B2.out) (by omega) 1 _) | exact kp_keep hM ((keep1 (B2.out) (by omega) 1 _).alloc (by have := B2.out.size; simp <;> omega) _) | exact kp_keep hM (((keep1 (B2.out) (by omega) 1 _).alloc (by have := B2.out.size; simp <;> omega) _).alloc (by have := B2.out.size; simp <;> omega) _) | exact kp_keep hM ((((keep1 (B2.out) (by omega) 1 _).alloc (by have := B2.out.size; simp <;> omega) _).alloc (by have := B2.out.size; simp <;> omega) _).alloc (by have := B2.out.size; simp <;> omega) _))).mono ?_
  rintro e V3 ⟨rfl, hb3⟩
  clear A1_0 A1_1 A1_2 zA1 Z1_0 Z1_1 Z1_2 Z1_f0 Z1_f1 Z1_f2 zZ1 M1_0 M1_1 M1_2 M1_f0 M1_f1 M1_f2 zM1
  have B3 : Hid (Below w.heap.size w V3) := by first | exact Lib.hid ((keep1 (B2.out) (by omega) 1 _).trans (hb3.mono (by have := B2.out.size; first | assumption | (simp <;> omega) | (simp; done)))) | exact Lib.hid (((keep1 (B2.out) (by omega) 1 _).alloc (by have := B2.out.size; simp <;> omega) _).trans (hb3.mono (by have := B2.out.size; first | assumption | (simp <;> omega) | (simp; done)))) | exact Lib.hid ((((keep1 (B2.out) (by omega) 1 _).alloc (by have := B2.out.size; simp <;> omega) _).alloc (by have := B2.out.size; simp <;> omega) _).trans (hb3.mono (by have := B2.out.size; first | assumption | (simp <;> omega) | (simp; done)))) | exact Lib.hid (((((keep1 (B2.out) (by omega) 1 _).alloc (by have := B2.out.size; simp <;> omega) _).alloc (by have := B2.out.size; simp <;> omega) _).alloc (by have := B2.out.size; simp <;> omega) _).trans (hb3.mono (by have := B2.out.size; first | assumption | (simp <;> omega) | (simp; done))))
  first | replace A1 := Lib.hid (row_call hb3 (row_other1 (by omega) A1.out 1 _)) | replace A1 := Lib.hid (row_call hb3 (row_alloc (row_other1 (by omega) A1.out 1 _) _)) | replace A1 := Lib.hid (row_call hb3 (row_alloc (row_alloc (row_other1 (by omega) A1.out 1 _) _) _)) | replace A1 := Lib.hid (row_call hb3 (row_alloc (row_alloc (row_alloc (row_other1 (by omega) A1.out 1 _) _) _) _))
  first | replace Z1 := Lib.hid (row_call hb3 (row_other1 (by omega) Z1.out 1 _)) | replace Z1 := Lib.hid (row_call hb3 (row_alloc (row_other1 (by omega) Z1.out 1 _) _)) | replace Z1 := Lib.hid (row_call hb3 (row_alloc (row_alloc (row_other1 (by omega) Z1.out 1 _) _) _)) | replace Z1 := Lib.hid (row_call hb3 (row_alloc (row_alloc (row_alloc (row_other1 (by omega) Z1.out 1 _) _) _) _))
  first | replace M1 : Hid (V3.heap[w.heap.size + 1 + 1]? = some (.cells #[.int .i64 v1, .int .i64 v2, .int .i64 0] _ (0, 0))) := Lib.hid (row_call hb3 (row_set1 M1.out 1 _)) | replace M1 : Hid (V3.heap[w.heap.size + 1 + 1]? = some (.cells #[.int .i64 v1, .int .i64 v2, .int .i64 0] _ (0, 0))) := Lib.hid (row_call hb3 (row_alloc (row_set1 M1.out 1 _) _)) | replace M1 : Hid (V3.heap[w.heap.size + 1 + 1]? = some (.cells #[.int .i64 v1, .int .i64 v2, .int .i64 0] _ (0, 0))) := Lib.hid (row_call hb3 (row_alloc (row_alloc (row_set1 M1.out 1 _) _) _)) | replace M1 : Hid (V3.heap[w.heap.size + 1 + 1]? = some (.cells #[.int .i64 v1, .int .i64 v2, .int .i64 0] _ (0, 0))) := Lib.hid (row_call hb3 (row_alloc (row_alloc (row_alloc (row_set1 M1.out 1 _) _) _) _))
  clear hb3
  have A1_0 : V3.cell? ⟨w.heap.size, 0, none⟩ = some (.int .i64 a) := cell_of_row _ _ _ _ _ _ A1.out
  have A1_1 : V3.cell? ⟨w.heap.size, 1, none⟩ = some (.int .i64 b) := cell_of_row _ _ _ _ _ _ A1.out
  have A1_2 : V3.cell? ⟨w.heap.size, 2, none⟩ = some (.int .i64 c) := cell_of_row _ _ _ _ _ _ A1.out
  have Z1_0 : V3.cell? ⟨w.heap.size + 1, 0, none⟩ = some (.int .i64 0) := cell_of_row _ _ _ _ _ _ Z1.out
  have Z1_1 : V3.cell? ⟨w.heap.size + 1, 1, none⟩ = some (.int .i64 0) := cell_of_row _ _ _ _ _ _ Z1.out
  have Z1_2 : V3.cell? ⟨w.heap.size + 1, 2, none⟩ = some (.int .i64 0) := cell_of_row _ _ _ _ _ _ Z1.out
  have Z1_f0 : V3.frozen? ⟨w.heap.size + 1, 0, none⟩ = false := by simp [World.frozen?, Z1.out]
  have Z1_f1 : V3.frozen? ⟨w.heap.size + 1, 1, none⟩ = false := by simp [World.frozen?, Z1.out]
  have Z1_f2 : V3.frozen? ⟨w.heap.size + 1, 2, none⟩ = false := by simp [World.frozen?, Z1.out]
  have M1_0 : V3.cell? ⟨w.heap.size + 1 + 1, 0, none⟩ = some (.int .i64 v1) := cell_of_row _ _ _ _ _ _ M1.out
  have M1_1 : V3.cell? ⟨w.heap.size + 1 + 1, 1, none⟩ = some (.int .i64 v2) := cell_of_row _ _ _ _ _ _ M1.out
  have M1_2 : V3.cell? ⟨w.heap.size + 1 + 1, 2, none⟩ = some (.int .i64 0) := cell_of_row _ _ _ _ _ _ M1.out
  have M1_f0 : V3.frozen? ⟨w.heap.size + 1 + 1, 0, none⟩ = false := by simp [World.frozen?, M1.out]
  have M1_f1 : V3.frozen? ⟨w.heap.size + 1 + 1, 1, none⟩ = false := by simp [World.frozen?, M1.out]
  have M1_f2 : V3.frozen? ⟨w.heap.size + 1 + 1, 2, none⟩ = false := by simp [World.frozen?, M1.out]
  have zA1 := lt_of_heap A1.out
  have zZ1 := lt_of_heap Z1.out
  have zM1 := lt_of_heap M1.out
  go_simp
  go_wp2_with fail
  rw [rounds_succ]
  go_wp2
  refine shut_ret (v := .tuple #[.agg #[.int .i64 v1, .int .i64 v2, .int .i64 v3], .int .i64 0]) (by simp [results, Tryd.results35, go_sem, zZ1, Z1_0, Z1_1, Z1_2]) rfl ⟨rfl, ?_⟩
  exact keep3 (keep1 B3.out (by omega) _ _) (by omega) _ _ _
end Go.Proofs.YtoopbgpoelpjfaaDoor
namespace Go.Proofs.YtoopbgpoelpjfaaDoor
set_option linter.unusedVariables false
set_option linter.unusedSimpArgs false
open Go.ChangeShapes Go.WideShapes Go.ChangeAt Go.RowKit
theorem pSame_any (a : Int) (w : World) : Calls Tryd.prog 36 #[.int .i64 a] w fun e w' => e = .returned (.tuple #[.int .i64 a, .int .i64 0]) ∧ Below w.heap.size w w' := by
  go_enter Tryd.func36, Tryd.ntmps36
  go_wp2
  go_ret2
  exact ⟨rfl, Below.refl _ _⟩
set_option maxHeartbeats 800000 in
theorem pFields_any (y m d : Int) (w : World) : Calls Tryd.prog 49 #[.agg #[.int .i64 y, .int .i64 m, .int .i64 d]] w fun e w' => e = .returned (.agg #[.int .i64 y, .int .i64 m, .int .i64 d]) ∧ Below w.heap.size w w' := by
  go_enter Tryd.func49, Tryd.ntmps49
  refine wp_shut ?_
  go_wp2
  refine shut_ret (v := .agg #[.int .i64 y, .int .i64 m, .int .i64 d]) (by simp [results, Tryd.results49, go_sem]) rfl ⟨rfl, ?_⟩
  exact ((Below.refl w.heap.size w).alloc (Nat.le_refl _) _).alloc (by simp) _
theorem eachs_any (a b c : Int) (w : World) : Calls Tryd.prog 35 #[.agg #[.int .i64 a, .int .i64 b, .int .i64 c], .func (.func 36) #[] #[]] w fun e w' =>
    e = .returned (.tuple #[.agg #[.int .i64 (fdP (ckP (a) (b) (c)) (a)), .int .i64 (fdP (ckP (a) (b) (c)) (b)), .int .i64 (fdP (ckP (a) (b) (c)) (c))], .int .i64 (ckP (a) (b) (c))]) ∧ Below w.heap.size w w' := by
  have X1 := fun w' (_ : KP w w') => pSame_any a w'
  have X2 := fun w' (_ : KP w w') => pSame_any b w'
  have X3 := fun w' (_ : KP w w') => pSame_any c w'
  by_cases l1 : a < -1000000
  · rw [ckP_out (by omega), fdP_err, fdP_err, fdP_err]
    exact eachs_1lo a b c _ (decide_eq_true l1) w (Lib.hid X1)
  · by_cases u1 : 1000000 < a
    · rw [ckP_out (by omega), fdP_err, fdP_err, fdP_err]
      exact eachs_1hi a b c _ (decide_eq_false l1) (decide_eq_true u1) w (Lib.hid X1)
    · by_cases l2 : b < -1000000
      · rw [ckP_out (by omega), fdP_err, fdP_err, fdP_err]
        exact eachs_2lo a b c _ _ (decide_eq_false l1) (decide_eq_false u1) (decide_eq_true l2) w (Lib.hid X1) (Lib.hid X2)
      · by_cases u2 : 1000000 < b
        · rw [ckP_out (by omega), fdP_err, fdP_err, fdP_err]
          exact eachs_2hi a b c _ _ (decide_eq_false l1) (decide_eq_false u1) (decide_eq_false l2) (decide_eq_true u2) w (Lib.hid X1) (Lib.hid X2)
        · by_cases l3 : c < -1000000
          · rw [ckP_out (by omega), fdP_err, fdP_err, fdP_err]
            exact eachs_3lo a b c _ _ _ (decide_eq_false l1) (decide_eq_false u1) (decide_eq_false l2) (decide_eq_false u2) (decide_eq_true l3) w (Lib.hid X1) (Lib.hid X2) (Lib.hid X3)
          · by_cases u3 : 1000000 < c
            · rw [ckP_out (by omega), fdP_err, fdP_err, fdP_err]
              exact eachs_3hi a b c _ _ _ (decide_eq_false l1) (decide_eq_false u1) (decide_eq_false l2) (decide_eq_false u2) (decide_eq_false l3) (decide_eq_true u3) w (Lib.hid X1) (Lib.hid X2) (Lib.hid X3)
            · rw [ckP_zero (by omega) (by omega) (by omega), fdP_zero, fdP_zero, fdP_zero]
              exact eachs_3ok a b c _ _ _ (decide_eq_false l1) (decide_eq_false u1) (decide_eq_false l2) (decide_eq_false u2) (decide_eq_false l3) (decide_eq_false u3) w (Lib.hid X1) (Lib.hid X2) (Lib.hid X3)
end Go.Proofs.YtoopbgpoelpjfaaDoor
namespace Go.Proofs.YtoopbgpoelpjfaaDoor
set_option linter.unusedVariables false
set_option linter.unusedSimpArgs false
open Go.ChangeShapes Go.WideShapes Go.ChangeAt Go.RowKit
set_option maxHeartbeats 1600000 in
set_option maxRecDepth 100000 in
theorem ppCheck_any (y m d : Int) (w : World) : Calls Tryd.prog 33 #[.agg #[.int .i64 y, .int .i64 m, .int .i64 d]] w fun e w' => e = .returned (.int .i64 (ckP y m d)) ∧ Below w.heap.size w w' := by
  have H1 := Lib.hid (pFields_any y m d)
  have H2 := Lib.hid (eachs_any y m d)
  generalize fdP (ckP y m d) y = a1 at *
  generalize fdP (ckP y m d) m = a2 at *
  generalize fdP (ckP y m d) d = a3 at *
  generalize ckP y m d = E at *
  go_enter Tryd.func33, Tryd.ntmps33
  go_wp2_with fail
  
  refine (H1.out _).mono ?_
  rintro e V1 ⟨rfl, hb1⟩
  have B1 := Lib.hid (((Below.refl w.heap.size w).alloc (Nat.le_refl _) _).trans (hb1.mono (by first | assumption | (simp <;> omega) | (simp; done))))
  have A1 := Lib.hid (row_call hb1 (heap_alloc_new _ _))
  clear hb1
  have A1_0 : V1.cell? ⟨w.heap.size, 0, none⟩ = some (.int .i64 y) := cell_of_row _ _ _ _ _ _ A1.out
  have A1_1 : V1.cell? ⟨w.heap.size, 1, none⟩ = some (.int .i64 m) := cell_of_row _ _ _ _ _ _ A1.out
  have A1_2 : V1.cell? ⟨w.heap.size, 2, none⟩ = some (.int .i64 d) := cell_of_row _ _ _ _ _ _ A1.out
  have zA1 := lt_of_heap A1.out
  go_simp
  go_wp2_with fail
  refine (H2.out _).mono ?_
  rintro e V2 ⟨rfl, hb2⟩
  clear A1_0 A1_1 A1_2 zA1
  have B2 : Hid (Below w.heap.size w V2) := by first | exact Lib.hid ((B1.out).trans (hb2.mono (by have := B1.out.size; first | assumption | (simp <;> omega) | (simp; done)))) | exact Lib.hid (((B1.out).alloc (B1.out.size) _).trans (hb2.mono (by have := B1.out.size; first | assumption | (simp <;> omega) | (simp; done)))) | exact Lib.hid ((((B1.out).alloc (B1.out.size) _).alloc (by have := B1.out.size; simp <;> omega) _).trans (hb2.mono (by have := B1.out.size; first | assumption | (simp <;> omega) | (simp; done)))) | exact Lib.hid (((((B1.out).alloc (B1.out.size) _).alloc (by have := B1.out.size; simp <;> omega) _).alloc (by have := B1.out.size; simp <;> omega) _).trans (hb2.mono (by have := B1.out.size; first | assumption | (simp <;> omega) | (simp; done))))
  first | replace A1 := Lib.hid (row_call hb2 A1.out) | replace A1 := Lib.hid (row_call hb2 (row_alloc A1.out _)) | replace A1 := Lib.hid (row_call hb2 (row_alloc (row_alloc A1.out _) _)) | replace A1 := Lib.hid (row_call hb2 (row_alloc (row_alloc (row_alloc A1.out _) _) _))
  clear hb2
  have A1_0 : V2.cell? ⟨w.heap.size, 0, none⟩ = some (.int .i64 y) := cell_of_row _ _ _ _ _ _ A1.out
  have A1_1 : V2.cell? ⟨w.heap.size, 1, none⟩ = some (.int .i64 m) := cell_of_row _ _ _ _ _ _ A1.out
  have A1_2 : V2.cell? ⟨w.heap.size, 2, none⟩ = some (.int .i64 d) := cell_of_row _ _ _ _ _ _ A1.out
  have zA1 := lt_of_heap A1.out
  go_simp
  go_wp2
  go_ret
  exact ⟨rfl, B2.out.alloc B2.out.size _⟩
set_option maxHeartbeats 1600000 in
set_option maxRecDepth 100000 in
theorem ppMonths_any (y m d : Int) (w : World) : Calls Tryd.prog 34 #[.agg #[.int .i64 y, .int .i64 m, .int .i64 d]] w fun e w' => e = .returned (.int .i64 (fdP (ckP y m d) (12 * y + m))) ∧ Below w.heap.size w w' := by
  have X1 := ppCheck_any y m d
  rcases ckP_two y m d with ⟨e, _⟩ | ⟨e, _⟩
  · have b := of_ckP e
    rw [e] at X1 ⊢
    simp only [fdP_zero, fdP_err]
    have H1 := Lib.hid X1
    obtain ⟨⟨b1, b2⟩, ⟨b3, b4⟩, _⟩ := b
    have g1 : IntKind.i64.wrap (y * 12) = y * 12 := by rw [IntKind.wrap_i64]; omega
    have g2 : IntKind.i64.wrap (y * 12 + m) = y * 12 + m := by rw [IntKind.wrap_i64]; omega
    have g3 : Hid (y * 12 + m = 12 * y + m) := Lib.hid (by omega)
    clear X1 e b1 b2 b3 b4
    go_enter Tryd.func34, Tryd.ntmps34
    go_wp2_with fail
    
    refine (H1.out _).mono ?_
    rintro e V1 ⟨rfl, hb1⟩
    have B1 := Lib.hid (((Below.refl w.heap.size w).alloc (Nat.le_refl _) _).trans (hb1.mono (by first | assumption | (simp <;> omega) | (simp; done))))
    have A1 := Lib.hid (row_call hb1 (heap_alloc_new _ _))
    clear hb1
    have A1_0 : V1.cell? ⟨w.heap.size, 0, none⟩ = some (.int .i64 y) := cell_of_row _ _ _ _ _ _ A1.out
    have A1_1 : V1.cell? ⟨w.heap.size, 1, none⟩ = some (.int .i64 m) := cell_of_row _ _ _ _ _ _ A1.out
    have A1_2 : V1.cell? ⟨w.heap.size, 2, none⟩ = some (.int .i64 d) := cell_of_row _ _ _ _ _ _ A1.out
    have zA1 := lt_of_heap A1.out
    go_simp
    go_wp2
    go_ret
    exact ⟨by rw [g3.out]; rfl, B1.out⟩
  · rw [e] at X1 ⊢
    simp only [fdP_zero, fdP_err]
    have H1 := Lib.hid X1
    clear X1 e
    go_enter Tryd.func34, Tryd.ntmps34
    go_wp2_with fail
    
    refine (H1.out _).mono ?_
    rintro e V1 ⟨rfl, hb1⟩
    have B1 := Lib.hid (((Below.refl w.heap.size w).alloc (Nat.le_refl _) _).trans (hb1.mono (by first | assumption | (simp <;> omega) | (simp; done))))
    have A1 := Lib.hid (row_call hb1 (heap_alloc_new _ _))
    clear hb1
    have A1_0 : V1.cell? ⟨w.heap.size, 0, none⟩ = some (.int .i64 y) := cell_of_row _ _ _ _ _ _ A1.out
    have A1_1 : V1.cell? ⟨w.heap.size, 1, none⟩ = some (.int .i64 m) := cell_of_row _ _ _ _ _ _ A1.out
    have A1_2 : V1.cell? ⟨w.heap.size, 2, none⟩ = some (.int .i64 d) := cell_of_row _ _ _ _ _ _ A1.out
    have zA1 := lt_of_heap A1.out
    go_simp
    go_wp2
    go_ret
    exact ⟨rfl, B1.out⟩
set_option maxHeartbeats 3200000 in
set_option maxRecDepth 100000 in
theorem ppBalance_any (y m d : Int) (w : World) : Calls Tryd.prog 17 #[.agg #[.int .i64 y, .int .i64 m, .int .i64 d]] w fun e w' =>
    e = .returned (.tuple #[.agg #[.int .i64 (fdP (blE y m d) ((12 * y + m).tdiv 12)), .int .i64 (fdP (blE y m d) ((12 * y + m).tmod 12)), .int .i64 (fdP (blE y m d) d)], .int .i64 (blE y m d)]) ∧ Below w.heap.size w w' := by
  have X1 := ppCheck_any y m d
  have X2 := ppMonths_any y m d
  have X3 := eachs_any ((12 * y + m).tdiv 12) ((12 * y + m).tmod 12) d
  rcases ckP_two y m d with ⟨e, _⟩ | ⟨e, _⟩
  · have b := of_ckP e
    rw [show blE y m d = ckP ((12 * y + m).tdiv 12) ((12 * y + m).tmod 12) d from if_pos e]
    rw [e] at X1 X2
    simp only [fdP_zero] at X2
    obtain ⟨t1, t2, t3, t4⟩ := tdiv_parts (12 * y + m) 12 (by decide)
    have t5 := Int.tmod_add_mul_tdiv (12 * y + m) 12
    have H1 := Lib.hid X1
    have H2 := Lib.hid X2
    have H3 := Lib.hid X3
    have g1 : -2000000 ≤ (12 * y + m).tdiv 12 := by omega
    have g2 : (12 * y + m).tdiv 12 ≤ 2000000 := by omega
    clear X1 X2 X3 e t1 t2 t5 b
    generalize fdP (ckP ((12 * y + m).tdiv 12) ((12 * y + m).tmod 12) d) ((12 * y + m).tdiv 12) = f1 at *
    generalize fdP (ckP ((12 * y + m).tdiv 12) ((12 * y + m).tmod 12) d) ((12 * y + m).tmod 12) = f2 at *
    generalize fdP (ckP ((12 * y + m).tdiv 12) ((12 * y + m).tmod 12) d) d = f3 at *
    generalize ckP ((12 * y + m).tdiv 12) ((12 * y + m).tmod 12) d = E at *
    generalize 12 * y + m = N at *
    generalize hq : N.tdiv 12 = q at *
    generalize hr : N.tmod 12 = r at *
    go_enter Tryd.func17, Tryd.ntmps17
    refine wp_shut ?_
    go_wp2_with fail
    
    refine (H1.out _).mono ?_
    rintro e V1 ⟨rfl, hb1⟩
    have B1 := Lib.hid ((((Below.refl w.heap.size w).alloc (Nat.le_refl _) _).alloc (by simp <;> omega) _).trans (hb1.mono (by first | assumption | (simp <;> omega) | (simp; done))))
    have A1 := Lib.hid (row_call hb1 (row_alloc (heap_alloc_new _ _) _))
    have Z1 := Lib.hid (row_at (k' := w.heap.size + 1) (by simp) (row_call hb1 (heap_alloc_new _ _)))
    clear hb1
    have A1_0 : V1.cell? ⟨w.heap.size, 0, none⟩ = some (.int .i64 y) := cell_of_row _ _ _ _ _ _ A1.out
    have A1_1 : V1.cell? ⟨w.heap.size, 1, none⟩ = some (.int .i64 m) := cell_of_row _ _ _ _ _ _ A1.out
    have A1_2 : V1.cell? ⟨w.heap.size, 2, none⟩ = some (.int .i64 d) := cell_of_row _ _ _ _ _ _ A1.out
    have Z1_0 : V1.cell? ⟨w.heap.size + 1, 0, none⟩ = some (.int .i64 0) := cell_of_row _ _ _ _ _ _ Z1.out
    have Z1_1 : V1.cell? ⟨w.heap.size + 1, 1, none⟩ = some (.int .i64 0) := cell_of_row _ _ _ _ _ _ Z1.out
    have Z1_2 : V1.cell? ⟨w.heap.size + 1, 2, none⟩ = some (.int .i64 0) := cell_of_row _ _ _ _ _ _ Z1.out
    have Z1_f0 : V1.frozen? ⟨w.heap.size + 1, 0, none⟩ = false := by simp [World.frozen?, Z1.out]
    have Z1_f1 : V1.frozen? ⟨w.heap.size + 1, 1, none⟩ = false := by simp [World.frozen?, Z1.out]
    have Z1_f2 : V1.frozen? ⟨w.heap.size + 1, 2, none⟩ = false := by simp [World.frozen?, Z1.out]
    have zA1 := lt_of_heap A1.out
    have zZ1 := lt_of_heap Z1.out
    go_simp
    go_wp2_with fail
    refine (H2.out _).mono ?_
    rintro e V2 ⟨rfl, hb2⟩
    clear A1_0 A1_1 A1_2 zA1 Z1_0 Z1_1 Z1_2 Z1_f0 Z1_f1 Z1_f2 zZ1
    have B2 : Hid (Below w.heap.size w V2) := by first | exact Lib.hid ((B1.out).trans (hb2.mono (by have := B1.out.size; first | assumption | (simp <;> omega) | (simp; done)))) | exact Lib.hid (((B1.out).alloc (B1.out.size) _).trans (hb2.mono (by have := B1.out.size; first | assumption | (simp <;> omega) | (simp; done)))) | exact Lib.hid ((((B1.out).alloc (B1.out.size) _).alloc (by have := B1.out.size; simp <;> omega) _).trans (hb2.mono (by have := B1.out.size; first | assumption | (simp <;> omega) | (simp; done)))) | exact Lib.hid (((((B1.out).alloc (B1.out.size) _).alloc (by have := B1.out.size; simp <;> omega) _).alloc (by have := B1.out.size; simp <;> omega) _).trans (hb2.mono (by have := B1.out.size; first | assumption | (simp <;> omega) | (simp; done))))
    first | replace A1 := Lib.hid (row_call hb2 A1.out) | replace A1 := Lib.hid (row_call hb2 (row_alloc A1.out _)) | replace A1 := Lib.hid (row_call hb2 (row_alloc (row_alloc A1.out _) _)) | replace A1 := Lib.hid (row_call hb2 (row_alloc (row_alloc (row_alloc A1.out _) _) _))
    first | replace Z1 := Lib.hid (row_call hb2 Z1.out) | replace Z1 := Lib.hid (row_call hb2 (row_alloc Z1.out _)) | replace Z1 := Lib.hid (row_call hb2 (row_alloc (row_alloc Z1.out _) _)) | replace Z1 := Lib.hid (row_call hb2 (row_alloc (row_alloc (row_alloc Z1.out _) _) _))
    clear hb2
    have A1_0 : V2.cell? ⟨w.heap.size, 0, none⟩ = some (.int .i64 y) := cell_of_row _ _ _ _ _ _ A1.out
    have A1_1 : V2.cell? ⟨w.heap.size, 1, none⟩ = some (.int .i64 m) := cell_of_row _ _ _ _ _ _ A1.out
    have A1_2 : V2.cell? ⟨w.heap.size, 2, none⟩ = some (.int .i64 d) := cell_of_row _ _ _ _ _ _ A1.out
    have Z1_0 : V2.cell? ⟨w.heap.size + 1, 0, none⟩ = some (.int .i64 0) := cell_of_row _ _ _ _ _ _ Z1.out
    have Z1_1 : V2.cell? ⟨w.heap.size + 1, 1, none⟩ = some (.int .i64 0) := cell_of_row _ _ _ _ _ _ Z1.out
    have Z1_2 : V2.cell? ⟨w.heap.size + 1, 2, none⟩ = some (.int .i64 0) := cell_of_row _ _ _ _ _ _ Z1.out
    have Z1_f0 : V2.frozen? ⟨w.heap.size + 1, 0, none⟩ = false := by simp [World.frozen?, Z1.out]
    have Z1_f1 : V2.frozen? ⟨w.heap.size + 1, 1, none⟩ = false := by simp [World.frozen?, Z1.out]
    have Z1_f2 : V2.frozen? ⟨w.heap.size + 1, 2, none⟩ = false := by simp [World.frozen?, Z1.out]
    have zA1 := lt_of_heap A1.out
    have zZ1 := lt_of_heap Z1.out
    go_simp
    go_wp2_with fail
    refine (H3.out _).mono ?_
    rintro e V3 ⟨rfl, hb3⟩
    clear A1_0 A1_1 A1_2 zA1 Z1_0 Z1_1 Z1_2 Z1_f0 Z1_f1 Z1_f2 zZ1
    have B3 : Hid (Below w.heap.size w V3) := by first | exact Lib.hid ((B2.out).trans (hb3.mono (by have := B2.out.size; first | assumption | (simp <;> omega) | (simp; done)))) | exact Lib.hid (((B2.out).alloc (B2.out.size) _).trans (hb3.mono (by have := B2.out.size; first | assumption | (simp <;> omega) | (simp; done)))) | exact Lib.hid ((((B2.out).alloc (B2.out.size) _).alloc (by have := B2.out.size; simp <;> omega) _).trans (hb3.mono (by have := B2.out.size; first | assumption | (simp <;> omega) | (simp; done)))) | exact Lib.hid (((((B2.out).alloc (B2.out.size) _).alloc (by have := B2.out.size; simp <;> omega) _).alloc (by have := B2.out.size; simp <;> omega) _).trans (hb3.mono (by have := B2.out.size; first | assumption | (simp <;> omega) | (simp; done))))
    first | replace A1 := Lib.hid (row_call hb3 A1.out) | replace A1 := Lib.hid (row_call hb3 (row_alloc A1.out _)) | replace A1 := Lib.hid (row_call hb3 (row_alloc (row_alloc A1.out _) _)) | replace A1 := Lib.hid (row_call hb3 (row_alloc (row_alloc (row_alloc A1.out _) _) _))
    first | replace Z1 := Lib.hid (row_call hb3 Z1.out) | replace Z1 := Lib.hid (row_call hb3 (row_alloc Z1.out _)) | replace Z1 := Lib.hid (row_call hb3 (row_alloc (row_alloc Z1.out _) _)) | replace Z1 := Lib.hid (row_call hb3 (row_alloc (row_alloc (row_alloc Z1.out _) _) _))
    clear hb3
    have A1_0 : V3.cell? ⟨w.heap.size, 0, none⟩ = some (.int .i64 y) := cell_of_row _ _ _ _ _ _ A1.out
    have A1_1 : V3.cell? ⟨w.heap.size, 1, none⟩ = some (.int .i64 m) := cell_of_row _ _ _ _ _ _ A1.out
    have A1_2 : V3.cell? ⟨w.heap.size, 2, none⟩ = some (.int .i64 d) := cell_of_row _ _ _ _ _ _ A1.out
    have Z1_0 : V3.cell? ⟨w.heap.size + 1, 0, none⟩ = some (.int .i64 0) := cell_of_row _ _ _ _ _ _ Z1.out
    have Z1_1 : V3.cell? ⟨w.heap.size + 1, 1, none⟩ = some (.int .i64 0) := cell_of_row _ _ _ _ _ _ Z1.out
    have Z1_2 : V3.cell? ⟨w.heap.size + 1, 2, none⟩ = some (.int .i64 0) := cell_of_row _ _ _ _ _ _ Z1.out
    have Z1_f0 : V3.frozen? ⟨w.heap.size + 1, 0, none⟩ = false := by simp [World.frozen?, Z1.out]
    have Z1_f1 : V3.frozen? ⟨w.heap.size + 1, 1, none⟩ = false := by simp [World.frozen?, Z1.out]
    have Z1_f2 : V3.frozen? ⟨w.heap.size + 1, 2, none⟩ = false := by simp [World.frozen?, Z1.out]
    have zA1 := lt_of_heap A1.out
    have zZ1 := lt_of_heap Z1.out
    go_simp
    go_wp2
    refine shut_ret (v := .tuple #[.agg #[.int .i64 f1, .int .i64 f2, .int .i64 f3], .int .i64 E]) (by simp [results, Tryd.results17, go_sem, zZ1, Z1_0, Z1_1, Z1_2]) rfl ⟨rfl, ?_⟩
    exact keep3 B3.out (by omega) _ _ _
  · rw [show blE y m d = 8 from if_neg (by omega)]
    simp only [fdP_err]
    rw [e] at X1
    have H1 := Lib.hid X1
    clear X1 X2 X3 e
    go_enter Tryd.func17, Tryd.ntmps17
    refine wp_shut ?_
    go_wp2_with fail
    
    refine (H1.out _).mono ?_
    rintro e V1 ⟨rfl, hb1⟩
    have B1 := Lib.hid ((((Below.refl w.heap.size w).alloc (Nat.le_refl _) _).alloc (by simp <;> omega) _).trans (hb1.mono (by first | assumption | (simp <;> omega) | (simp; done))))
    have A1 := Lib.hid (row_call hb1 (row_alloc (heap_alloc_new _ _) _))
    have Z1 := Lib.hid (row_at (k' := w.heap.size + 1) (by simp) (row_call hb1 (heap_alloc_new _ _)))
    clear hb1
    have A1_0 : V1.cell? ⟨w.heap.size, 0, none⟩ = some (.int .i64 y) := cell_of_row _ _ _ _ _ _ A1.out
    have A1_1 : V1.cell? ⟨w.heap.size, 1, none⟩ = some (.int .i64 m) := cell_of_row _ _ _ _ _ _ A1.out
    have A1_2 : V1.cell? ⟨w.heap.size, 2, none⟩ = some (.int .i64 d) := cell_of_row _ _ _ _ _ _ A1.out
    have Z1_0 : V1.cell? ⟨w.heap.size + 1, 0, none⟩ = some (.int .i64 0) := cell_of_row _ _ _ _ _ _ Z1.out
    have Z1_1 : V1.cell? ⟨w.heap.size + 1, 1, none⟩ = some (.int .i64 0) := cell_of_row _ _ _ _ _ _ Z1.out
    have Z1_2 : V1.cell? ⟨w.heap.size + 1, 2, none⟩ = some (.int .i64 0) := cell_of_row _ _ _ _ _ _ Z1.out
    have Z1_f0 : V1.frozen? ⟨w.heap.size + 1, 0, none⟩ = false := by simp [World.frozen?, Z1.out]
    have Z1_f1 : V1.frozen? ⟨w.heap.size + 1, 1, none⟩ = false := by simp [World.frozen?, Z1.out]
    have Z1_f2 : V1.frozen? ⟨w.heap.size + 1, 2, none⟩ = false := by simp [World.frozen?, Z1.out]
    have zA1 := lt_of_heap A1.out
    have zZ1 := lt_of_heap Z1.out
    go_simp
    go_wp2
    refine shut_ret (v := .tuple #[.agg #[.int .i64 0, .int .i64 0, .int .i64 0], .int .i64 8]) (by simp [results, Tryd.results17, go_sem, zZ1, Z1_0, Z1_1, Z1_2]) rfl ⟨rfl, ?_⟩
    exact keep3 B1.out (by omega) _ _ _
end Go.Proofs.YtoopbgpoelpjfaaDoor
