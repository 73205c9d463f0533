/- Several texts in one: WrdL, WrdO. -/
import Derived.Test.YtlbeolialpmnmaaDoorZWrd1
import Derived.Test.YtlbeolialpmnmaaDoorZWpF1
namespace Go.Proofs.YtlbeolialpmnmaaDoor
set_option linter.unusedVariables false
set_option linter.unusedSimpArgs false
open Go.ChangeShapes Go.WideShapes Go.ChangeAt Go.RowKit
theorem lit_bs (a : Array UInt8) : (⟨a⟩ : ByteArray) = bs a.toList := by unfold bs; simp
def w14a : List UInt8 := [45, 48, 53, 58, 51, 48]
def w14b : List UInt8 := [43, 49, 57, 58, 48, 48]
def w14c : List UInt8 := [115, 117, 110, 62, 61, 56]
def w14d : List UInt8 := [108, 97, 115, 116, 45, 102, 114, 105]
def w14e : List UInt8 := [50, 48, 50, 52, 45, 48, 50, 45, 51, 48, 84, 48, 48, 58, 48, 48, 58, 48, 48]
theorem ex14 : offV w14a = -19800 ∧ offE w14a = 0 ∧ offE w14b = 8 ∧ dayR w14c = (2, 8, 7, 0) ∧ dayR w14d = (1, 0, 5, 0) ∧ (momR w14e).2 = 7 ∧ offL 3600 = [43, 48, 49, 58, 48, 48] ∧ offX 3600 = 0 := by decide +kernel
set_option maxHeartbeats 3200000 in
set_option maxRecDepth 100000 in
theorem awake14_any (w : World) (hM : TW w) : Calls Tryd.prog 9 #[] w fun e w' => e = .returned (.bool true) ∧ Below w.heap.size w w' := by
  obtain ⟨e1, e2, e3, e4, e5, e6, e7, e8⟩ := ex14
  have X1 := pOffset_any w14a (by decide)
  have X2 := pOffset_any w14b (by decide)
  have X3 := pDay_any w14c (by decide)
  have X4 := pDay_any w14d (by decide)
  have X5 := pMom_any w14e (by decide)
  have X6 := pShowOffset_any 3600
  rw [e1, e2] at X1
  rw [e3] at X2
  rw [e4] at X3
  rw [e5] at X4
  rw [e6] at X5
  rw [e7, e8] at X6
  rw [show bs w14a = ⟨#[45, 48, 53, 58, 51, 48]⟩ from (lit_bs _).symm] at X1
  rw [show bs w14b = ⟨#[43, 49, 57, 58, 48, 48]⟩ from (lit_bs _).symm] at X2
  rw [show bs w14c = ⟨#[115, 117, 110, 62, 61, 56]⟩ from (lit_bs _).symm] at X3
  rw [show bs w14d = ⟨#[108, 97, 115, 116, 45, 102, 114, 105]⟩ from (lit_bs _).symm] at X4
  rw [show bs w14e = ⟨#[50, 48, 50, 52, 45, 48, 50, 45, 51, 48, 84, 48, 48, 58, 48, 48, 58, 48, 48]⟩ from (lit_bs _).symm] at X5
  rw [show bs [43, 48, 49, 58, 48, 48] = ⟨#[43, 48, 49, 58, 48, 48]⟩ from (lit_bs _).symm] at X6
  have H1 := Lib.hid X1
  have H2 := Lib.hid X2
  have H3 := Lib.hid X3
  have H4 := Lib.hid X4
  have H5 := Lib.hid X5
  have H6 := Lib.hid X6
  clear X1 X2 X3 X4 X5 X6 e1 e2 e3 e4 e5 e6 e7 e8
  generalize (momR w14e).1 = mv at *
  generalize offV w14b = ov at *
  replace hM := Lib.hid hM
  go_enter Tryd.func9, Tryd.ntmps9
  go_wp2_with fail
  
  refine (H1.out _).mono ?_
  rintro e V1 ⟨rfl, hb1⟩
  have B1 : Hid (Below w.heap.size w V1) := by first | exact Lib.hid ((Below.refl w.heap.size w).trans (hb1.mono (by first | assumption | (simp <;> omega) | (simp; done)))) | exact Lib.hid (((Below.refl w.heap.size w).alloc (Nat.le_refl _) _).trans (hb1.mono (by first | assumption | (simp <;> omega) | (simp; done)))) | exact Lib.hid ((((Below.refl w.heap.size w).alloc (Nat.le_refl _) _).alloc (by simp <;> omega) _).trans (hb1.mono (by first | assumption | (simp <;> omega) | (simp; done)))) | exact Lib.hid (((((Below.refl w.heap.size w).alloc (Nat.le_refl _) _).alloc (by simp <;> omega) _).alloc (by simp <;> omega) _).trans (hb1.mono (by first | assumption | (simp <;> omega) | (simp; done))))
  clear hb1
  go_simp
  go_wp2_with fail
  refine (H2.out _).mono ?_
  rintro e V2 ⟨rfl, hb2⟩
  have B2 : Hid (Below w.heap.size w V2) := by first | exact Lib.hid ((B1.out).trans (hb2.mono (by have := B1.out.size; first | assumption | (simp <;> omega) | (simp; done)))) | exact Lib.hid (((B1.out).alloc (B1.out.size) _).trans (hb2.mono (by have := B1.out.size; first | assumption | (simp <;> omega) | (simp; done)))) | exact Lib.hid ((((B1.out).alloc (B1.out.size) _).alloc (by have := B1.out.size; simp <;> omega) _).trans (hb2.mono (by have := B1.out.size; first | assumption | (simp <;> omega) | (simp; done)))) | exact Lib.hid (((((B1.out).alloc (B1.out.size) _).alloc (by have := B1.out.size; simp <;> omega) _).alloc (by have := B1.out.size; simp <;> omega) _).trans (hb2.mono (by have := B1.out.size; first | assumption | (simp <;> omega) | (simp; done))))
  clear hb2
  go_simp
  go_wp2_with fail
  refine (H3.out _ (by first | exact tw_keep hM (B2.out) | exact tw_keep hM ((B2.out).alloc (B2.out.size) _) | exact tw_keep hM (((B2.out).alloc (B2.out.size) _).alloc (by have := B2.out.size; simp <;> omega) _) | exact tw_keep hM ((((B2.out).alloc (B2.out.size) _).alloc (by have := B2.out.size; simp <;> omega) _).alloc (by have := B2.out.size; simp <;> omega) _))).mono ?_
  rintro e V3 ⟨rfl, hb3⟩
  have B3 : Hid (Below w.heap.size w V3) := by first | exact Lib.hid ((B2.out).trans (hb3.mono (by have := B2.out.size; first | assumption | (simp <;> omega) | (simp; done)))) | exact Lib.hid (((B2.out).alloc (B2.out.size) _).trans (hb3.mono (by have := B2.out.size; first | assumption | (simp <;> omega) | (simp; done)))) | exact Lib.hid ((((B2.out).alloc (B2.out.size) _).alloc (by have := B2.out.size; simp <;> omega) _).trans (hb3.mono (by have := B2.out.size; first | assumption | (simp <;> omega) | (simp; done)))) | exact Lib.hid (((((B2.out).alloc (B2.out.size) _).alloc (by have := B2.out.size; simp <;> omega) _).alloc (by have := B2.out.size; simp <;> omega) _).trans (hb3.mono (by have := B2.out.size; first | assumption | (simp <;> omega) | (simp; done))))
  clear hb3
  go_simp
  go_wp2_with fail
  refine (H4.out _ (by first | exact tw_keep hM ((B3.out).alloc (B3.out.size) _))).mono ?_
  rintro e V4 ⟨rfl, hb4⟩
  have B4 := Lib.hid (((B3.out).alloc (B3.out.size) _).trans (hb4.mono (by have := B3.out.size; first | assumption | (simp <;> omega) | (simp; done))))
  have X1 := Lib.hid (row_call hb4 (heap_alloc_new _ _))
  clear hb4
  have X1_0 : V4.cell? ⟨V3.heap.size, 0, none⟩ = some (.int .i64 2) := cell_of_row _ _ _ _ _ _ X1.out
  have X1_1 : V4.cell? ⟨V3.heap.size, 1, none⟩ = some (.int .i64 8) := cell_of_row _ _ _ _ _ _ X1.out
  have X1_2 : V4.cell? ⟨V3.heap.size, 2, none⟩ = some (.int .i64 7) := cell_of_row _ _ _ _ _ _ X1.out
  have zX1 := lt_of_heap X1.out
  go_simp
  go_wp2_with fail
  refine (H5.out _ (by first | exact tw_keep hM ((B4.out).alloc (B4.out.size) _))).mono ?_
  rintro e V5 ⟨rfl, hb5⟩
  clear X1_0 X1_1 X1_2 zX1
  have nX1Y1 := Lib.hid (lt_of_heap X1.out)
  have B5 := Lib.hid (((B4.out).alloc (B4.out.size) _).trans (hb5.mono (by have := B4.out.size; first | assumption | (simp <;> omega) | (simp; done))))
  replace X1 := Lib.hid (row_call hb5 (row_alloc X1.out _))
  have Y1 := Lib.hid (row_call hb5 (heap_alloc_new _ _))
  clear hb5
  have X1_0 : V5.cell? ⟨V3.heap.size, 0, none⟩ = some (.int .i64 2) := cell_of_row _ _ _ _ _ _ X1.out
  have X1_1 : V5.cell? ⟨V3.heap.size, 1, none⟩ = some (.int .i64 8) := cell_of_row _ _ _ _ _ _ X1.out
  have X1_2 : V5.cell? ⟨V3.heap.size, 2, none⟩ = some (.int .i64 7) := cell_of_row _ _ _ _ _ _ X1.out
  have Y1_0 : V5.cell? ⟨V4.heap.size, 0, none⟩ = some (.int .i64 1) := cell_of_row _ _ _ _ _ _ Y1.out
  have Y1_1 : V5.cell? ⟨V4.heap.size, 1, none⟩ = some (.int .i64 0) := cell_of_row _ _ _ _ _ _ Y1.out
  have Y1_2 : V5.cell? ⟨V4.heap.size, 2, none⟩ = some (.int .i64 5) := cell_of_row _ _ _ _ _ _ Y1.out
  have zX1 := lt_of_heap X1.out
  have zY1 := lt_of_heap Y1.out
  go_simp
  go_wp2_with fail
  refine (H6.out _).mono ?_
  rintro e V6 ⟨rfl, hb6⟩
  clear X1_0 X1_1 X1_2 zX1 Y1_0 Y1_1 Y1_2 zY1
  have B6 : Hid (Below w.heap.size w V6) := by first | exact Lib.hid ((B5.out).trans (hb6.mono (by have := B5.out.size; first | assumption | (simp <;> omega) | (simp; done)))) | exact Lib.hid (((B5.out).alloc (B5.out.size) _).trans (hb6.mono (by have := B5.out.size; first | assumption | (simp <;> omega) | (simp; done)))) | exact Lib.hid ((((B5.out).alloc (B5.out.size) _).alloc (by have := B5.out.size; simp <;> omega) _).trans (hb6.mono (by have := B5.out.size; first | assumption | (simp <;> omega) | (simp; done)))) | exact Lib.hid (((((B5.out).alloc (B5.out.size) _).alloc (by have := B5.out.size; simp <;> omega) _).alloc (by have := B5.out.size; simp <;> omega) _).trans (hb6.mono (by have := B5.out.size; first | assumption | (simp <;> omega) | (simp; done))))
  first | replace X1 := Lib.hid (row_call hb6 X1.out) | replace X1 := Lib.hid (row_call hb6 (row_alloc X1.out _)) | replace X1 := Lib.hid (row_call hb6 (row_alloc (row_alloc X1.out _) _)) | replace X1 := Lib.hid (row_call hb6 (row_alloc (row_alloc (row_alloc X1.out _) _) _))
  first | replace Y1 := Lib.hid (row_call hb6 Y1.out) | replace Y1 := Lib.hid (row_call hb6 (row_alloc Y1.out _)) | replace Y1 := Lib.hid (row_call hb6 (row_alloc (row_alloc Y1.out _) _)) | replace Y1 := Lib.hid (row_call hb6 (row_alloc (row_alloc (row_alloc Y1.out _) _) _))
  clear hb6
  have X1_0 : V6.cell? ⟨V3.heap.size, 0, none⟩ = some (.int .i64 2) := cell_of_row _ _ _ _ _ _ X1.out
  have X1_1 : V6.cell? ⟨V3.heap.size, 1, none⟩ = some (.int .i64 8) := cell_of_row _ _ _ _ _ _ X1.out
  have X1_2 : V6.cell? ⟨V3.heap.size, 2, none⟩ = some (.int .i64 7) := cell_of_row _ _ _ _ _ _ X1.out
  have Y1_0 : V6.cell? ⟨V4.heap.size, 0, none⟩ = some (.int .i64 1) := cell_of_row _ _ _ _ _ _ Y1.out
  have Y1_1 : V6.cell? ⟨V4.heap.size, 1, none⟩ = some (.int .i64 0) := cell_of_row _ _ _ _ _ _ Y1.out
  have Y1_2 : V6.cell? ⟨V4.heap.size, 2, none⟩ = some (.int .i64 5) := cell_of_row _ _ _ _ _ _ Y1.out
  have zX1 := lt_of_heap X1.out
  have zY1 := lt_of_heap Y1.out
  go_simp
  go_wp2
  go_ret
  exact ⟨rfl, B6.out⟩
theorem rSmall_any (L : List UInt8) (hL : L.length ≤ 9223372036854775807) (w : World) : Calls Tryd.prog 8 #[.string (bs L)] w fun e w' => e = .returned (.bool (decide (L.length ≤ 2000))) ∧ w = w' := by
  have hS := bs_size L
  by_cases h : L.length ≤ 2000
  · have E : Hid (decide (L.length ≤ 2000) = true) := Lib.hid (decide_eq_true h)
    go_enter Tryd.func8, Tryd.ntmps8
    go_wp2
    go_ret
    exact ⟨by rw [E.out]; first | rfl | (simp; omega), rfl⟩
  · have E : Hid (decide (L.length ≤ 2000) = false) := Lib.hid (decide_eq_false h)
    go_enter Tryd.func8, Tryd.ntmps8
    go_wp2
    go_ret
    exact ⟨by rw [E.out]; first | rfl | (simp; omega), rfl⟩
set_option maxHeartbeats 3200000 in
set_option maxRecDepth 100000 in
theorem wordsNumbers_walk (L : List UInt8) (lo hi : Int) (hL : L.length ≤ 9223372036854775807) (w : World) (hM : TW w) : Calls Tryd.prog 3 #[.string (bs L), .int .i64 lo, .int .i64 hi] w fun e w' => e = .returned (.bool true) ∧ Below w.heap.size w w' := by
  have H7 := Lib.hid awake14_any
  have X0 := fun w => grow2 (rSmall_any L hL w)
  by_cases h : L.length ≤ 2000
  · rw [decide_eq_true h] at X0
    have H0 := Lib.hid X0
    clear X0
    have hl : L.length ≤ 100000 := by omega
    have H1a := Lib.hid (pNum14_any L lo hi hl)
    have H2a := Lib.hid (fun w => grow2 (rNum14_any L lo hi hl w))
    have H3a := Lib.hid (pYear_any L hl)
    have H4a := Lib.hid (fun w => grow2 (rYear_any L hl w))
    generalize numV L lo hi = a at *
    generalize numE L lo hi = b at *
    generalize numV L (-9999) 9999 = c at *
    generalize numE L (-9999) 9999 = d at *
    replace hM := Lib.hid hM
    go_enter Tryd.func3, Tryd.ntmps3
    go_wp2_with fail
    
    refine (H0.out _).mono ?_
    rintro e V1 ⟨rfl, hb1⟩
    have B1 : Hid (Below w.heap.size w V1) := by first | exact Lib.hid ((Below.refl w.heap.size w).trans (hb1.mono (by first | assumption | (simp <;> omega) | (simp; done)))) | exact Lib.hid (((Below.refl w.heap.size w).alloc (Nat.le_refl _) _).trans (hb1.mono (by first | assumption | (simp <;> omega) | (simp; done)))) | exact Lib.hid ((((Below.refl w.heap.size w).alloc (Nat.le_refl _) _).alloc (by simp <;> omega) _).trans (hb1.mono (by first | assumption | (simp <;> omega) | (simp; done)))) | exact Lib.hid (((((Below.refl w.heap.size w).alloc (Nat.le_refl _) _).alloc (by simp <;> omega) _).alloc (by simp <;> omega) _).trans (hb1.mono (by first | assumption | (simp <;> omega) | (simp; done))))
    clear hb1
    go_simp
    go_wp2_with fail
    refine (H1a.out _).mono ?_
    rintro e V2 ⟨rfl, hb2⟩
    have B2 : Hid (Below w.heap.size w V2) := by first | exact Lib.hid ((B1.out).trans (hb2.mono (by have := B1.out.size; first | assumption | (simp <;> omega) | (simp; done)))) | exact Lib.hid (((B1.out).alloc (B1.out.size) _).trans (hb2.mono (by have := B1.out.size; first | assumption | (simp <;> omega) | (simp; done)))) | exact Lib.hid ((((B1.out).alloc (B1.out.size) _).alloc (by have := B1.out.size; simp <;> omega) _).trans (hb2.mono (by have := B1.out.size; first | assumption | (simp <;> omega) | (simp; done)))) | exact Lib.hid (((((B1.out).alloc (B1.out.size) _).alloc (by have := B1.out.size; simp <;> omega) _).alloc (by have := B1.out.size; simp <;> omega) _).trans (hb2.mono (by have := B1.out.size; first | assumption | (simp <;> omega) | (simp; done))))
    clear hb2
    go_simp
    go_wp2_with fail
    refine (H2a.out _).mono ?_
    rintro e V3 ⟨rfl, hb3⟩
    have B3 : Hid (Below w.heap.size w V3) := by first | exact Lib.hid ((B2.out).trans (hb3.mono (by have := B2.out.size; first | assumption | (simp <;> omega) | (simp; done)))) | exact Lib.hid (((B2.out).alloc (B2.out.size) _).trans (hb3.mono (by have := B2.out.size; first | assumption | (simp <;> omega) | (simp; done)))) | exact Lib.hid ((((B2.out).alloc (B2.out.size) _).alloc (by have := B2.out.size; simp <;> omega) _).trans (hb3.mono (by have := B2.out.size; first | assumption | (simp <;> omega) | (simp; done)))) | exact Lib.hid (((((B2.out).alloc (B2.out.size) _).alloc (by have := B2.out.size; simp <;> omega) _).alloc (by have := B2.out.size; simp <;> omega) _).trans (hb3.mono (by have := B2.out.size; first | assumption | (simp <;> omega) | (simp; done))))
    clear hb3
    go_simp
    go_wp2_with fail
    refine (H3a.out _).mono ?_
    rintro e V4 ⟨rfl, hb4⟩
    have B4 : Hid (Below w.heap.size w V4) := by first | exact Lib.hid ((B3.out).trans (hb4.mono (by have := B3.out.size; first | assumption | (simp <;> omega) | (simp; done)))) | exact Lib.hid (((B3.out).alloc (B3.out.size) _).trans (hb4.mono (by have := B3.out.size; first | assumption | (simp <;> omega) | (simp; done)))) | exact Lib.hid ((((B3.out).alloc (B3.out.size) _).alloc (by have := B3.out.size; simp <;> omega) _).trans (hb4.mono (by have := B3.out.size; first | assumption | (simp <;> omega) | (simp; done)))) | exact Lib.hid (((((B3.out).alloc (B3.out.size) _).alloc (by have := B3.out.size; simp <;> omega) _).alloc (by have := B3.out.size; simp <;> omega) _).trans (hb4.mono (by have := B3.out.size; first | assumption | (simp <;> omega) | (simp; done))))
    clear hb4
    go_simp
    go_wp2_with fail
    refine (H4a.out _).mono ?_
    rintro e V5 ⟨rfl, hb5⟩
    have B5 : Hid (Below w.heap.size w V5) := by first | exact Lib.hid ((B4.out).trans (hb5.mono (by have := B4.out.size; first | assumption | (simp <;> omega) | (simp; done)))) | exact Lib.hid (((B4.out).alloc (B4.out.size) _).trans (hb5.mono (by have := B4.out.size; first | assumption | (simp <;> omega) | (simp; done)))) | exact Lib.hid ((((B4.out).alloc (B4.out.size) _).alloc (by have := B4.out.size; simp <;> omega) _).trans (hb5.mono (by have := B4.out.size; first | assumption | (simp <;> omega) | (simp; done)))) | exact Lib.hid (((((B4.out).alloc (B4.out.size) _).alloc (by have := B4.out.size; simp <;> omega) _).alloc (by have := B4.out.size; simp <;> omega) _).trans (hb5.mono (by have := B4.out.size; first | assumption | (simp <;> omega) | (simp; done))))
    clear hb5
    go_simp
    go_wp2_with fail
    refine (H7.out _ (by first | exact tw_keep hM (B5.out) | exact tw_keep hM ((B5.out).alloc (B5.out.size) _) | exact tw_keep hM (((B5.out).alloc (B5.out.size) _).alloc (by have := B5.out.size; simp <;> omega) _) | exact tw_keep hM ((((B5.out).alloc (B5.out.size) _).alloc (by have := B5.out.size; simp <;> omega) _).alloc (by have := B5.out.size; simp <;> omega) _))).mono ?_
    rintro e V6 ⟨rfl, hb6⟩
    have B6 : Hid (Below w.heap.size w V6) := by first | exact Lib.hid ((B5.out).trans (hb6.mono (by have := B5.out.size; first | assumption | (simp <;> omega) | (simp; done)))) | exact Lib.hid (((B5.out).alloc (B5.out.size) _).trans (hb6.mono (by have := B5.out.size; first | assumption | (simp <;> omega) | (simp; done)))) | exact Lib.hid ((((B5.out).alloc (B5.out.size) _).alloc (by have := B5.out.size; simp <;> omega) _).trans (hb6.mono (by have := B5.out.size; first | assumption | (simp <;> omega) | (simp; done)))) | exact Lib.hid (((((B5.out).alloc (B5.out.size) _).alloc (by have := B5.out.size; simp <;> omega) _).alloc (by have := B5.out.size; simp <;> omega) _).trans (hb6.mono (by have := B5.out.size; first | assumption | (simp <;> omega) | (simp; done))))
    clear hb6
    go_simp
    go_wp2
    go_ret
    exact ⟨rfl, by first | exact B6.out | exact B6.out.alloc B6.out.size _⟩
  · rw [decide_eq_false h] at X0
    have H0 := Lib.hid X0
    clear X0
    replace hM := Lib.hid hM
    go_enter Tryd.func3, Tryd.ntmps3
    go_wp2_with fail
    
    refine (H0.out _).mono ?_
    rintro e V1 ⟨rfl, hb1⟩
    have B1 : Hid (Below w.heap.size w V1) := by first | exact Lib.hid ((Below.refl w.heap.size w).trans (hb1.mono (by first | assumption | (simp <;> omega) | (simp; done)))) | exact Lib.hid (((Below.refl w.heap.size w).alloc (Nat.le_refl _) _).trans (hb1.mono (by first | assumption | (simp <;> omega) | (simp; done)))) | exact Lib.hid ((((Below.refl w.heap.size w).alloc (Nat.le_refl _) _).alloc (by simp <;> omega) _).trans (hb1.mono (by first | assumption | (simp <;> omega) | (simp; done)))) | exact Lib.hid (((((Below.refl w.heap.size w).alloc (Nat.le_refl _) _).alloc (by simp <;> omega) _).alloc (by simp <;> omega) _).trans (hb1.mono (by first | assumption | (simp <;> omega) | (simp; done))))
    clear hb1
    go_simp
    go_wp2_with fail
    refine (H7.out _ (by first | exact tw_keep hM (B1.out) | exact tw_keep hM ((B1.out).alloc (B1.out.size) _) | exact tw_keep hM (((B1.out).alloc (B1.out.size) _).alloc (by have := B1.out.size; simp <;> omega) _) | exact tw_keep hM ((((B1.out).alloc (B1.out.size) _).alloc (by have := B1.out.size; simp <;> omega) _).alloc (by have := B1.out.size; simp <;> omega) _))).mono ?_
    rintro e V2 ⟨rfl, hb2⟩
    have B2 : Hid (Below w.heap.size w V2) := by first | exact Lib.hid ((B1.out).trans (hb2.mono (by have := B1.out.size; first | assumption | (simp <;> omega) | (simp; done)))) | exact Lib.hid (((B1.out).alloc (B1.out.size) _).trans (hb2.mono (by have := B1.out.size; first | assumption | (simp <;> omega) | (simp; done)))) | exact Lib.hid ((((B1.out).alloc (B1.out.size) _).alloc (by have := B1.out.size; simp <;> omega) _).trans (hb2.mono (by have := B1.out.size; first | assumption | (simp <;> omega) | (simp; done)))) | exact Lib.hid (((((B1.out).alloc (B1.out.size) _).alloc (by have := B1.out.size; simp <;> omega) _).alloc (by have := B1.out.size; simp <;> omega) _).trans (hb2.mono (by have := B1.out.size; first | assumption | (simp <;> omega) | (simp; done))))
    clear hb2
    go_simp
    go_wp2
    go_ret
    exact ⟨rfl, by first | exact B2.out | exact B2.out.alloc B2.out.size _⟩
set_option maxHeartbeats 3200000 in
set_option maxRecDepth 100000 in
theorem wordsTimes_walk (L : List UInt8) (hL : L.length ≤ 9223372036854775807) (w : World) (hM : TW w) : Calls Tryd.prog 4 #[.string (bs L)] w fun e w' => e = .returned (.bool true) ∧ Below w.heap.size w w' := by
  have H7 := Lib.hid awake14_any
  have X0 := fun w => grow2 (rSmall_any L hL w)
  by_cases h : L.length ≤ 2000
  · rw [decide_eq_true h] at X0
    have H0 := Lib.hid X0
    clear X0
    have hl : L.length ≤ 100000 := by omega
    have H1a := Lib.hid (pOffset_any L hl)
    have H2a := Lib.hid (fun w => grow2 (rOffset_any L hl w))
    have H3a := Lib.hid (pTime_any L hl)
    have H4a := Lib.hid (fun w => grow2 (rTime_any L hl w))
    have H5a := Lib.hid (pMom_any L hl)
    have H6a := Lib.hid (rMom_any L hl)
    generalize offV L = a at *
    generalize offE L = b at *
    generalize timV L = c at *
    generalize timE L = d at *
    generalize (momR L).1 = x at *
    generalize (momR L).2 = y at *
    replace hM := Lib.hid hM
    go_enter Tryd.func4, Tryd.ntmps4
    go_wp2_with fail
    
    refine (H0.out _).mono ?_
    rintro e V1 ⟨rfl, hb1⟩
    have B1 : Hid (Below w.heap.size w V1) := by first | exact Lib.hid ((Below.refl w.heap.size w).trans (hb1.mono (by first | assumption | (simp <;> omega) | (simp; done)))) | exact Lib.hid (((Below.refl w.heap.size w).alloc (Nat.le_refl _) _).trans (hb1.mono (by first | assumption | (simp <;> omega) | (simp; done)))) | exact Lib.hid ((((Below.refl w.heap.size w).alloc (Nat.le_refl _) _).alloc (by simp <;> omega) _).trans (hb1.mono (by first | assumption | (simp <;> omega) | (simp; done)))) | exact Lib.hid (((((Below.refl w.heap.size w).alloc (Nat.le_refl _) _).alloc (by simp <;> omega) _).alloc (by simp <;> omega) _).trans (hb1.mono (by first | assumption | (simp <;> omega) | (simp; done))))
    clear hb1
    go_simp
    go_wp2_with fail
    refine (H1a.out _).mono ?_
    rintro e V2 ⟨rfl, hb2⟩
    have B2 : Hid (Below w.heap.size w V2) := by first | exact Lib.hid ((B1.out).trans (hb2.mono (by have := B1.out.size; first | assumption | (simp <;> omega) | (simp; done)))) | exact Lib.hid (((B1.out).alloc (B1.out.size) _).trans (hb2.mono (by have := B1.out.size; first | assumption | (simp <;> omega) | (simp; done)))) | exact Lib.hid ((((B1.out).alloc (B1.out.size) _).alloc (by have := B1.out.size; simp <;> omega) _).trans (hb2.mono (by have := B1.out.size; first | assumption | (simp <;> omega) | (simp; done)))) | exact Lib.hid (((((B1.out).alloc (B1.out.size) _).alloc (by have := B1.out.size; simp <;> omega) _).alloc (by have := B1.out.size; simp <;> omega) _).trans (hb2.mono (by have := B1.out.size; first | assumption | (simp <;> omega) | (simp; done))))
    clear hb2
    go_simp
    go_wp2_with fail
    refine (H2a.out _).mono ?_
    rintro e V3 ⟨rfl, hb3⟩
    have B3 : Hid (Below w.heap.size w V3) := by first | exact Lib.hid ((B2.out).trans (hb3.mono (by have := B2.out.size; first | assumption | (simp <;> omega) | (simp; done)))) | exact Lib.hid (((B2.out).alloc (B2.out.size) _).trans (hb3.mono (by have := B2.out.size; first | assumption | (simp <;> omega) | (simp; done)))) | exact Lib.hid ((((B2.out).alloc (B2.out.size) _).alloc (by have := B2.out.size; simp <;> omega) _).trans (hb3.mono (by have := B2.out.size; first | assumption | (simp <;> omega) | (simp; done)))) | exact Lib.hid (((((B2.out).alloc (B2.out.size) _).alloc (by have := B2.out.size; simp <;> omega) _).alloc (by have := B2.out.size; simp <;> omega) _).trans (hb3.mono (by have := B2.out.size; first | assumption | (simp <;> omega) | (simp; done))))
    clear hb3
    go_simp
    go_wp2_with fail
    refine (H3a.out _).mono ?_
    rintro e V4 ⟨rfl, hb4⟩
    have B4 : Hid (Below w.heap.size w V4) := by first | exact Lib.hid ((B3.out).trans (hb4.mono (by have := B3.out.size; first | assumption | (simp <;> omega) | (simp; done)))) | exact Lib.hid (((B3.out).alloc (B3.out.size) _).trans (hb4.mono (by have := B3.out.size; first | assumption | (simp <;> omega) | (simp; done)))) | exact Lib.hid ((((B3.out).alloc (B3.out.size) _).alloc (by have := B3.out.size; simp <;> omega) _).trans (hb4.mono (by have := B3.out.size; first | assumption | (simp <;> omega) | (simp; done)))) | exact Lib.hid (((((B3.out).alloc (B3.out.size) _).alloc (by have := B3.out.size; simp <;> omega) _).alloc (by have := B3.out.size; simp <;> omega) _).trans (hb4.mono (by have := B3.out.size; first | assumption | (simp <;> omega) | (simp; done))))
    clear hb4
    go_simp
    go_wp2_with fail
    refine (H4a.out _).mono ?_
    rintro e V5 ⟨rfl, hb5⟩
    have B5 : Hid (Below w.heap.size w V5) := by first | exact Lib.hid ((B4.out).trans (hb5.mono (by have := B4.out.size; first | assumption | (simp <;> omega) | (simp; done)))) | exact Lib.hid (((B4.out).alloc (B4.out.size) _).trans (hb5.mono (by have := B4.out.size; first | assumption | (simp <;> omega) | (simp; done)))) | exact Lib.hid ((((B4.out).alloc (B4.out.size) _).alloc (by have := B4.out.size; simp <;> omega) _).trans (hb5.mono (by have := B4.out.size; first | assumption | (simp <;> omega) | (simp; done)))) | exact Lib.hid (((((B4.out).alloc (B4.out.size) _).alloc (by have := B4.out.size; simp <;> omega) _).alloc (by have := B4.out.size; simp <;> omega) _).trans (hb5.mono (by have := B4.out.size; first | assumption | (simp <;> omega) | (simp; done))))
    clear hb5
    go_simp
    go_wp2_with fail
    refine (H5a.out _ (by first | exact tw_keep hM (B5.out) | exact tw_keep hM ((B5.out).alloc (B5.out.size) _) | exact tw_keep hM (((B5.out).alloc (B5.out.size) _).alloc (by have := B5.out.size; simp <;> omega) _) | exact tw_keep hM ((((B5.out).alloc (B5.out.size) _).alloc (by have := B5.out.size; simp <;> omega) _).alloc (by have := B5.out.size; simp <;> omega) _))).mono ?_
    rintro e V6 ⟨rfl, hb6⟩
    have B6 : Hid (Below w.heap.size w V6) := by first | exact Lib.hid ((B5.out).trans (hb6.mono (by have := B5.out.size; first | assumption | (simp <;> omega) | (simp; done)))) | exact Lib.hid (((B5.out).alloc (B5.out.size) _).trans (hb6.mono (by have := B5.out.size; first | assumption | (simp <;> omega) | (simp; done)))) | exact Lib.hid ((((B5.out).alloc (B5.out.size) _).alloc (by have := B5.out.size; simp <;> omega) _).trans (hb6.mono (by have := B5.out.size; first | assumption | (simp <;> omega) | (simp; done)))) | exact Lib.hid (((((B5.out).alloc (B5.out.size) _).alloc (by have := B5.out.size; simp <;> omega) _).alloc (by have := B5.out.size; simp <;> omega) _).trans (hb6.mono (by have := B5.out.size; first | assumption | (simp <;> omega) | (simp; done))))
    clear hb6
    go_simp
    go_wp2_with fail
    refine (H6a.out _).mono ?_
    rintro e V7 ⟨rfl, hb7⟩
    have B7 : Hid (Below w.heap.size w V7) := by first | exact Lib.hid ((B6.out).trans (hb7.mono (by have := B6.out.size; first | assumption | (simp <;> omega) | (simp; done)))) | exact Lib.hid (((B6.out).alloc (B6.out.size) _).trans (hb7.mono (by have := B6.out.size; first | assumption | (simp <;> omega) | (simp; done)))) | exact Lib.hid ((((B6.out).alloc (B6.out.size) _).alloc (by have := B6.out.size; simp <;> omega) _).trans (hb7.mono (by have := B6.out.size; first | assumption | (simp <;> omega) | (simp; done)))) | exact Lib.hid (((((B6.out).alloc (B6.out.size) _).alloc (by have := B6.out.size; simp <;> omega) _).alloc (by have := B6.out.size; simp <;> omega) _).trans (hb7.mono (by have := B6.out.size; first | assumption | (simp <;> omega) | (simp; done))))
    clear hb7
    go_simp
    go_wp2_with fail
    refine (H7.out _ (by first | exact tw_keep hM (B7.out) | exact tw_keep hM ((B7.out).alloc (B7.out.size) _) | exact tw_keep hM (((B7.out).alloc (B7.out.size) _).alloc (by have := B7.out.size; simp <;> omega) _) | exact tw_keep hM ((((B7.out).alloc (B7.out.size) _).alloc (by have := B7.out.size; simp <;> omega) _).alloc (by have := B7.out.size; simp <;> omega) _))).mono ?_
    rintro e V8 ⟨rfl, hb8⟩
    have B8 : Hid (Below w.heap.size w V8) := by first | exact Lib.hid ((B7.out).trans (hb8.mono (by have := B7.out.size; first | assumption | (simp <;> omega) | (simp; done)))) | exact Lib.hid (((B7.out).alloc (B7.out.size) _).trans (hb8.mono (by have := B7.out.size; first | assumption | (simp <;> omega) | (simp; done)))) | exact Lib.hid ((((B7.out).alloc (B7.out.size) _).alloc (by have := B7.out.size; simp <;> omega) _).trans (hb8.mono (by have := B7.out.size; first | assumption | (simp <;> omega) | (simp; done)))) | exact Lib.hid (((((B7.out).alloc (B7.out.size) _).alloc (by have := B7.out.size; simp <;> omega) _).alloc (by have := B7.out.size; simp <;> omega) _).trans (hb8.mono (by have := B7.out.size; first | assumption | (simp <;> omega) | (simp; done))))
    clear hb8
    go_simp
    go_wp2
    go_ret
    exact ⟨rfl, by first | exact B8.out | exact B8.out.alloc B8.out.size _⟩
  · rw [decide_eq_false h] at X0
    have H0 := Lib.hid X0
    clear X0
    replace hM := Lib.hid hM
    go_enter Tryd.func4, Tryd.ntmps4
    go_wp2_with fail
    
    refine (H0.out _).mono ?_
    rintro e V1 ⟨rfl, hb1⟩
    have B1 : Hid (Below w.heap.size w V1) := by first | exact Lib.hid ((Below.refl w.heap.size w).trans (hb1.mono (by first | assumption | (simp <;> omega) | (simp; done)))) | exact Lib.hid (((Below.refl w.heap.size w).alloc (Nat.le_refl _) _).trans (hb1.mono (by first | assumption | (simp <;> omega) | (simp; done)))) | exact Lib.hid ((((Below.refl w.heap.size w).alloc (Nat.le_refl _) _).alloc (by simp <;> omega) _).trans (hb1.mono (by first | assumption | (simp <;> omega) | (simp; done)))) | exact Lib.hid (((((Below.refl w.heap.size w).alloc (Nat.le_refl _) _).alloc (by simp <;> omega) _).alloc (by simp <;> omega) _).trans (hb1.mono (by first | assumption | (simp <;> omega) | (simp; done))))
    clear hb1
    go_simp
    go_wp2_with fail
    refine (H7.out _ (by first | exact tw_keep hM (B1.out) | exact tw_keep hM ((B1.out).alloc (B1.out.size) _) | exact tw_keep hM (((B1.out).alloc (B1.out.size) _).alloc (by have := B1.out.size; simp <;> omega) _) | exact tw_keep hM ((((B1.out).alloc (B1.out.size) _).alloc (by have := B1.out.size; simp <;> omega) _).alloc (by have := B1.out.size; simp <;> omega) _))).mono ?_
    rintro e V2 ⟨rfl, hb2⟩
    have B2 : Hid (Below w.heap.size w V2) := by first | exact Lib.hid ((B1.out).trans (hb2.mono (by have := B1.out.size; first | assumption | (simp <;> omega) | (simp; done)))) | exact Lib.hid (((B1.out).alloc (B1.out.size) _).trans (hb2.mono (by have := B1.out.size; first | assumption | (simp <;> omega) | (simp; done)))) | exact Lib.hid ((((B1.out).alloc (B1.out.size) _).alloc (by have := B1.out.size; simp <;> omega) _).trans (hb2.mono (by have := B1.out.size; first | assumption | (simp <;> omega) | (simp; done)))) | exact Lib.hid (((((B1.out).alloc (B1.out.size) _).alloc (by have := B1.out.size; simp <;> omega) _).alloc (by have := B1.out.size; simp <;> omega) _).trans (hb2.mono (by have := B1.out.size; first | assumption | (simp <;> omega) | (simp; done))))
    clear hb2
    go_simp
    go_wp2
    go_ret
    exact ⟨rfl, by first | exact B2.out | exact B2.out.alloc B2.out.size _⟩
set_option maxHeartbeats 3200000 in
set_option maxRecDepth 100000 in
theorem wordsDays_walk (L : List UInt8) (hL : L.length ≤ 9223372036854775807) (w : World) (hM : TW w) : Calls Tryd.prog 5 #[.string (bs L)] w fun e w' => e = .returned (.bool true) ∧ Below w.heap.size w w' := by
  have H7 := Lib.hid awake14_any
  have X0 := fun w => grow2 (rSmall_any L hL w)
  by_cases h : L.length ≤ 2000
  · rw [decide_eq_true h] at X0
    have H0 := Lib.hid X0
    clear X0
    have hl : L.length ≤ 100000 := by omega
    have H1a := Lib.hid (pDay_any L hl)
    have H2a := Lib.hid (rDay_any L hl)
    have H3a := Lib.hid (pAbbr_any L hl)
    have H4a := Lib.hid (fun w => grow2 (rAbbr_any L hl w))
    have H5a := Lib.hid (pName_any L hl)
    have H6a := Lib.hid (fun w => grow2 (rName_any L hl w))
    generalize (dayR L).1 = a at *
    generalize (dayR L).2.1 = b at *
    generalize (dayR L).2.2.1 = c at *
    generalize (dayR L).2.2.2 = d at *
    generalize abbE L = x at *
    generalize namE L = y at *
    replace hM := Lib.hid hM
    go_enter Tryd.func5, Tryd.ntmps5
    go_wp2_with fail
    
    refine (H0.out _).mono ?_
    rintro e V1 ⟨rfl, hb1⟩
    have B1 : Hid (Below w.heap.size w V1) := by first | exact Lib.hid ((Below.refl w.heap.size w).trans (hb1.mono (by first | assumption | (simp <;> omega) | (simp; done)))) | exact Lib.hid (((Below.refl w.heap.size w).alloc (Nat.le_refl _) _).trans (hb1.mono (by first | assumption | (simp <;> omega) | (simp; done)))) | exact Lib.hid ((((Below.refl w.heap.size w).alloc (Nat.le_refl _) _).alloc (by simp <;> omega) _).trans (hb1.mono (by first | assumption | (simp <;> omega) | (simp; done)))) | exact Lib.hid (((((Below.refl w.heap.size w).alloc (Nat.le_refl _) _).alloc (by simp <;> omega) _).alloc (by simp <;> omega) _).trans (hb1.mono (by first | assumption | (simp <;> omega) | (simp; done))))
    clear hb1
    go_simp
    go_wp2_with fail
    refine (H1a.out _ (by first | exact tw_keep hM (B1.out) | exact tw_keep hM ((B1.out).alloc (B1.out.size) _) | exact tw_keep hM (((B1.out).alloc (B1.out.size) _).alloc (by have := B1.out.size; simp <;> omega) _) | exact tw_keep hM ((((B1.out).alloc (B1.out.size) _).alloc (by have := B1.out.size; simp <;> omega) _).alloc (by have := B1.out.size; simp <;> omega) _))).mono ?_
    rintro e V2 ⟨rfl, hb2⟩
    have B2 : Hid (Below w.heap.size w V2) := by first | exact Lib.hid ((B1.out).trans (hb2.mono (by have := B1.out.size; first | assumption | (simp <;> omega) | (simp; done)))) | exact Lib.hid (((B1.out).alloc (B1.out.size) _).trans (hb2.mono (by have := B1.out.size; first | assumption | (simp <;> omega) | (simp; done)))) | exact Lib.hid ((((B1.out).alloc (B1.out.size) _).alloc (by have := B1.out.size; simp <;> omega) _).trans (hb2.mono (by have := B1.out.size; first | assumption | (simp <;> omega) | (simp; done)))) | exact Lib.hid (((((B1.out).alloc (B1.out.size) _).alloc (by have := B1.out.size; simp <;> omega) _).alloc (by have := B1.out.size; simp <;> omega) _).trans (hb2.mono (by have := B1.out.size; first | assumption | (simp <;> omega) | (simp; done))))
    clear hb2
    go_simp
    go_wp2_with fail
    refine (H2a.out _).mono ?_
    rintro e V3 ⟨rfl, hb3⟩
    have B3 := Lib.hid (((B2.out).alloc (B2.out.size) _).trans (hb3.mono (by have := B2.out.size; first | assumption | (simp <;> omega) | (simp; done))))
    have X1 := Lib.hid (row_call hb3 (heap_alloc_new _ _))
    clear hb3
    have X1_0 : V3.cell? ⟨V2.heap.size, 0, none⟩ = some (.int .i64 a) := cell_of_row _ _ _ _ _ _ X1.out
    have X1_1 : V3.cell? ⟨V2.heap.size, 1, none⟩ = some (.int .i64 b) := cell_of_row _ _ _ _ _ _ X1.out
    have X1_2 : V3.cell? ⟨V2.heap.size, 2, none⟩ = some (.int .i64 c) := cell_of_row _ _ _ _ _ _ X1.out
    have zX1 := lt_of_heap X1.out
    go_simp
    go_wp2_with fail
    refine (H3a.out _).mono ?_
    rintro e V4 ⟨rfl, hb4⟩
    clear X1_0 X1_1 X1_2 zX1
    have nX1Y1 := Lib.hid (lt_of_heap X1.out)
    have B4 := Lib.hid (((B3.out).alloc (B3.out.size) _).trans (hb4.mono (by have := B3.out.size; first | assumption | (simp <;> omega) | (simp; done))))
    replace X1 := Lib.hid (row_call hb4 (row_alloc X1.out _))
    have Y1 := Lib.hid (row_call hb4 (heap_alloc_new _ _))
    clear hb4
    have X1_0 : V4.cell? ⟨V2.heap.size, 0, none⟩ = some (.int .i64 a) := cell_of_row _ _ _ _ _ _ X1.out
    have X1_1 : V4.cell? ⟨V2.heap.size, 1, none⟩ = some (.int .i64 b) := cell_of_row _ _ _ _ _ _ X1.out
    have X1_2 : V4.cell? ⟨V2.heap.size, 2, none⟩ = some (.int .i64 c) := cell_of_row _ _ _ _ _ _ X1.out
    have Y1_0 : V4.cell? ⟨V3.heap.size, 0, none⟩ = some (.int .i64 a) := cell_of_row _ _ _ _ _ _ Y1.out
    have Y1_1 : V4.cell? ⟨V3.heap.size, 1, none⟩ = some (.int .i64 b) := cell_of_row _ _ _ _ _ _ Y1.out
    have Y1_2 : V4.cell? ⟨V3.heap.size, 2, none⟩ = some (.int .i64 c) := cell_of_row _ _ _ _ _ _ Y1.out
    have zX1 := lt_of_heap X1.out
    have zY1 := lt_of_heap Y1.out
    go_simp
    go_wp2_with fail
    refine (H4a.out _).mono ?_
    rintro e V5 ⟨rfl, hb5⟩
    clear X1_0 X1_1 X1_2 zX1 Y1_0 Y1_1 Y1_2 zY1
    have B5 : Hid (Below w.heap.size w V5) := by first | exact Lib.hid ((B4.out).trans (hb5.mono (by have := B4.out.size; first | assumption | (simp <;> omega) | (simp; done)))) | exact Lib.hid (((B4.out).alloc (B4.out.size) _).trans (hb5.mono (by have := B4.out.size; first | assumption | (simp <;> omega) | (simp; done)))) | exact Lib.hid ((((B4.out).alloc (B4.out.size) _).alloc (by have := B4.out.size; simp <;> omega) _).trans (hb5.mono (by have := B4.out.size; first | assumption | (simp <;> omega) | (simp; done)))) | exact Lib.hid (((((B4.out).alloc (B4.out.size) _).alloc (by have := B4.out.size; simp <;> omega) _).alloc (by have := B4.out.size; simp <;> omega) _).trans (hb5.mono (by have := B4.out.size; first | assumption | (simp <;> omega) | (simp; done))))
    first | replace X1 := Lib.hid (row_call hb5 X1.out) | replace X1 := Lib.hid (row_call hb5 (row_alloc X1.out _)) | replace X1 := Lib.hid (row_call hb5 (row_alloc (row_alloc X1.out _) _)) | replace X1 := Lib.hid (row_call hb5 (row_alloc (row_alloc (row_alloc X1.out _) _) _))
    first | replace Y1 := Lib.hid (row_call hb5 Y1.out) | replace Y1 := Lib.hid (row_call hb5 (row_alloc Y1.out _)) | replace Y1 := Lib.hid (row_call hb5 (row_alloc (row_alloc Y1.out _) _)) | replace Y1 := Lib.hid (row_call hb5 (row_alloc (row_alloc (row_alloc Y1.out _) _) _))
    clear hb5
    have X1_0 : V5.cell? ⟨V2.heap.size, 0, none⟩ = some (.int .i64 a) := cell_of_row _ _ _ _ _ _ X1.out
    have X1_1 : V5.cell? ⟨V2.heap.size, 1, none⟩ = some (.int .i64 b) := cell_of_row _ _ _ _ _ _ X1.out
    have X1_2 : V5.cell? ⟨V2.heap.size, 2, none⟩ = some (.int .i64 c) := cell_of_row _ _ _ _ _ _ X1.out
    have Y1_0 : V5.cell? ⟨V3.heap.size, 0, none⟩ = some (.int .i64 a) := cell_of_row _ _ _ _ _ _ Y1.out
    have Y1_1 : V5.cell? ⟨V3.heap.size, 1, none⟩ = some (.int .i64 b) := cell_of_row _ _ _ _ _ _ Y1.out
    have Y1_2 : V5.cell? ⟨V3.heap.size, 2, none⟩ = some (.int .i64 c) := cell_of_row _ _ _ _ _ _ Y1.out
    have zX1 := lt_of_heap X1.out
    have zY1 := lt_of_heap Y1.out
    go_simp
    go_wp2_with fail
    refine (H5a.out _).mono ?_
    rintro e V6 ⟨rfl, hb6⟩
    clear X1_0 X1_1 X1_2 zX1 Y1_0 Y1_1 Y1_2 zY1
    have B6 : Hid (Below w.heap.size w V6) := by first | exact Lib.hid ((B5.out).trans (hb6.mono (by have := B5.out.size; first | assumption | (simp <;> omega) | (simp; done)))) | exact Lib.hid (((B5.out).alloc (B5.out.size) _).trans (hb6.mono (by have := B5.out.size; first | assumption | (simp <;> omega) | (simp; done)))) | exact Lib.hid ((((B5.out).alloc (B5.out.size) _).alloc (by have := B5.out.size; simp <;> omega) _).trans (hb6.mono (by have := B5.out.size; first | assumption | (simp <;> omega) | (simp; done)))) | exact Lib.hid (((((B5.out).alloc (B5.out.size) _).alloc (by have := B5.out.size; simp <;> omega) _).alloc (by have := B5.out.size; simp <;> omega) _).trans (hb6.mono (by have := B5.out.size; first | assumption | (simp <;> omega) | (simp; done))))
    first | replace X1 := Lib.hid (row_call hb6 X1.out) | replace X1 := Lib.hid (row_call hb6 (row_alloc X1.out _)) | replace X1 := Lib.hid (row_call hb6 (row_alloc (row_alloc X1.out _) _)) | replace X1 := Lib.hid (row_call hb6 (row_alloc (row_alloc (row_alloc X1.out _) _) _))
    first | replace Y1 := Lib.hid (row_call hb6 Y1.out) | replace Y1 := Lib.hid (row_call hb6 (row_alloc Y1.out _)) | replace Y1 := Lib.hid (row_call hb6 (row_alloc (row_alloc Y1.out _) _)) | replace Y1 := Lib.hid (row_call hb6 (row_alloc (row_alloc (row_alloc Y1.out _) _) _))
    clear hb6
    have X1_0 : V6.cell? ⟨V2.heap.size, 0, none⟩ = some (.int .i64 a) := cell_of_row _ _ _ _ _ _ X1.out
    have X1_1 : V6.cell? ⟨V2.heap.size, 1, none⟩ = some (.int .i64 b) := cell_of_row _ _ _ _ _ _ X1.out
    have X1_2 : V6.cell? ⟨V2.heap.size, 2, none⟩ = some (.int .i64 c) := cell_of_row _ _ _ _ _ _ X1.out
    have Y1_0 : V6.cell? ⟨V3.heap.size, 0, none⟩ = some (.int .i64 a) := cell_of_row _ _ _ _ _ _ Y1.out
    have Y1_1 : V6.cell? ⟨V3.heap.size, 1, none⟩ = some (.int .i64 b) := cell_of_row _ _ _ _ _ _ Y1.out
    have Y1_2 : V6.cell? ⟨V3.heap.size, 2, none⟩ = some (.int .i64 c) := cell_of_row _ _ _ _ _ _ Y1.out
    have zX1 := lt_of_heap X1.out
    have zY1 := lt_of_heap Y1.out
    go_simp
    go_wp2_with fail
    refine (H6a.out _).mono ?_
    rintro e V7 ⟨rfl, hb7⟩
    clear X1_0 X1_1 X1_2 zX1 Y1_0 Y1_1 Y1_2 zY1
    have B7 : Hid (Below w.heap.size w V7) := by first | exact Lib.hid ((B6.out).trans (hb7.mono (by have := B6.out.size; first | assumption | (simp <;> omega) | (simp; done)))) | exact Lib.hid (((B6.out).alloc (B6.out.size) _).trans (hb7.mono (by have := B6.out.size; first | assumption | (simp <;> omega) | (simp; done)))) | exact Lib.hid ((((B6.out).alloc (B6.out.size) _).alloc (by have := B6.out.size; simp <;> omega) _).trans (hb7.mono (by have := B6.out.size; first | assumption | (simp <;> omega) | (simp; done)))) | exact Lib.hid (((((B6.out).alloc (B6.out.size) _).alloc (by have := B6.out.size; simp <;> omega) _).alloc (by have := B6.out.size; simp <;> omega) _).trans (hb7.mono (by have := B6.out.size; first | assumption | (simp <;> omega) | (simp; done))))
    first | replace X1 := Lib.hid (row_call hb7 X1.out) | replace X1 := Lib.hid (row_call hb7 (row_alloc X1.out _)) | replace X1 := Lib.hid (row_call hb7 (row_alloc (row_alloc X1.out _) _)) | replace X1 := Lib.hid (row_call hb7 (row_alloc (row_alloc (row_alloc X1.out _) _) _))
    first | replace Y1 := Lib.hid (row_call hb7 Y1.out) | replace Y1 := Lib.hid (row_call hb7 (row_alloc Y1.out _)) | replace Y1 := Lib.hid (row_call hb7 (row_alloc (row_alloc Y1.out _) _)) | replace Y1 := Lib.hid (row_call hb7 (row_alloc (row_alloc (row_alloc Y1.out _) _) _))
    clear hb7
    have X1_0 : V7.cell? ⟨V2.heap.size, 0, none⟩ = some (.int .i64 a) := cell_of_row _ _ _ _ _ _ X1.out
    have X1_1 : V7.cell? ⟨V2.heap.size, 1, none⟩ = some (.int .i64 b) := cell_of_row _ _ _ _ _ _ X1.out
    have X1_2 : V7.cell? ⟨V2.heap.size, 2, none⟩ = some (.int .i64 c) := cell_of_row _ _ _ _ _ _ X1.out
    have Y1_0 : V7.cell? ⟨V3.heap.size, 0, none⟩ = some (.int .i64 a) := cell_of_row _ _ _ _ _ _ Y1.out
    have Y1_1 : V7.cell? ⟨V3.heap.size, 1, none⟩ = some (.int .i64 b) := cell_of_row _ _ _ _ _ _ Y1.out
    have Y1_2 : V7.cell? ⟨V3.heap.size, 2, none⟩ = some (.int .i64 c) := cell_of_row _ _ _ _ _ _ Y1.out
    have zX1 := lt_of_heap X1.out
    have zY1 := lt_of_heap Y1.out
    go_simp
    go_wp2_with fail
    refine (H7.out _ (by first | exact tw_keep hM (B7.out) | exact tw_keep hM ((B7.out).alloc (B7.out.size) _) | exact tw_keep hM (((B7.out).alloc (B7.out.size) _).alloc (by have := B7.out.size; simp <;> omega) _) | exact tw_keep hM ((((B7.out).alloc (B7.out.size) _).alloc (by have := B7.out.size; simp <;> omega) _).alloc (by have := B7.out.size; simp <;> omega) _))).mono ?_
    rintro e V8 ⟨rfl, hb8⟩
    clear X1_0 X1_1 X1_2 zX1 Y1_0 Y1_1 Y1_2 zY1
    have B8 : Hid (Below w.heap.size w V8) := by first | exact Lib.hid ((B7.out).trans (hb8.mono (by have := B7.out.size; first | assumption | (simp <;> omega) | (simp; done)))) | exact Lib.hid (((B7.out).alloc (B7.out.size) _).trans (hb8.mono (by have := B7.out.size; first | assumption | (simp <;> omega) | (simp; done)))) | exact Lib.hid ((((B7.out).alloc (B7.out.size) _).alloc (by have := B7.out.size; simp <;> omega) _).trans (hb8.mono (by have := B7.out.size; first | assumption | (simp <;> omega) | (simp; done)))) | exact Lib.hid (((((B7.out).alloc (B7.out.size) _).alloc (by have := B7.out.size; simp <;> omega) _).alloc (by have := B7.out.size; simp <;> omega) _).trans (hb8.mono (by have := B7.out.size; first | assumption | (simp <;> omega) | (simp; done))))
    first | replace X1 := Lib.hid (row_call hb8 X1.out) | replace X1 := Lib.hid (row_call hb8 (row_alloc X1.out _)) | replace X1 := Lib.hid (row_call hb8 (row_alloc (row_alloc X1.out _) _)) | replace X1 := Lib.hid (row_call hb8 (row_alloc (row_alloc (row_alloc X1.out _) _) _))
    first | replace Y1 := Lib.hid (row_call hb8 Y1.out) | replace Y1 := Lib.hid (row_call hb8 (row_alloc Y1.out _)) | replace Y1 := Lib.hid (row_call hb8 (row_alloc (row_alloc Y1.out _) _)) | replace Y1 := Lib.hid (row_call hb8 (row_alloc (row_alloc (row_alloc Y1.out _) _) _))
    clear hb8
    have X1_0 : V8.cell? ⟨V2.heap.size, 0, none⟩ = some (.int .i64 a) := cell_of_row _ _ _ _ _ _ X1.out
    have X1_1 : V8.cell? ⟨V2.heap.size, 1, none⟩ = some (.int .i64 b) := cell_of_row _ _ _ _ _ _ X1.out
    have X1_2 : V8.cell? ⟨V2.heap.size, 2, none⟩ = some (.int .i64 c) := cell_of_row _ _ _ _ _ _ X1.out
    have Y1_0 : V8.cell? ⟨V3.heap.size, 0, none⟩ = some (.int .i64 a) := cell_of_row _ _ _ _ _ _ Y1.out
    have Y1_1 : V8.cell? ⟨V3.heap.size, 1, none⟩ = some (.int .i64 b) := cell_of_row _ _ _ _ _ _ Y1.out
    have Y1_2 : V8.cell? ⟨V3.heap.size, 2, none⟩ = some (.int .i64 c) := cell_of_row _ _ _ _ _ _ Y1.out
    have zX1 := lt_of_heap X1.out
    have zY1 := lt_of_heap Y1.out
    go_simp
    go_wp2
    go_ret
    exact ⟨rfl, by first | exact B8.out | exact B8.out.alloc B8.out.size _⟩
  · rw [decide_eq_false h] at X0
    have H0 := Lib.hid X0
    clear X0
    replace hM := Lib.hid hM
    go_enter Tryd.func5, Tryd.ntmps5
    go_wp2_with fail
    
    refine (H0.out _).mono ?_
    rintro e V1 ⟨rfl, hb1⟩
    have B1 : Hid (Below w.heap.size w V1) := by first | exact Lib.hid ((Below.refl w.heap.size w).trans (hb1.mono (by first | assumption | (simp <;> omega) | (simp; done)))) | exact Lib.hid (((Below.refl w.heap.size w).alloc (Nat.le_refl _) _).trans (hb1.mono (by first | assumption | (simp <;> omega) | (simp; done)))) | exact Lib.hid ((((Below.refl w.heap.size w).alloc (Nat.le_refl _) _).alloc (by simp <;> omega) _).trans (hb1.mono (by first | assumption | (simp <;> omega) | (simp; done)))) | exact Lib.hid (((((Below.refl w.heap.size w).alloc (Nat.le_refl _) _).alloc (by simp <;> omega) _).alloc (by simp <;> omega) _).trans (hb1.mono (by first | assumption | (simp <;> omega) | (simp; done))))
    clear hb1
    go_simp
    go_wp2_with fail
    refine (H7.out _ (by first | exact tw_keep hM (B1.out) | exact tw_keep hM ((B1.out).alloc (B1.out.size) _) | exact tw_keep hM (((B1.out).alloc (B1.out.size) _).alloc (by have := B1.out.size; simp <;> omega) _) | exact tw_keep hM ((((B1.out).alloc (B1.out.size) _).alloc (by have := B1.out.size; simp <;> omega) _).alloc (by have := B1.out.size; simp <;> omega) _))).mono ?_
    rintro e V2 ⟨rfl, hb2⟩
    have B2 : Hid (Below w.heap.size w V2) := by first | exact Lib.hid ((B1.out).trans (hb2.mono (by have := B1.out.size; first | assumption | (simp <;> omega) | (simp; done)))) | exact Lib.hid (((B1.out).alloc (B1.out.size) _).trans (hb2.mono (by have := B1.out.size; first | assumption | (simp <;> omega) | (simp; done)))) | exact Lib.hid ((((B1.out).alloc (B1.out.size) _).alloc (by have := B1.out.size; simp <;> omega) _).trans (hb2.mono (by have := B1.out.size; first | assumption | (simp <;> omega) | (simp; done)))) | exact Lib.hid (((((B1.out).alloc (B1.out.size) _).alloc (by have := B1.out.size; simp <;> omega) _).alloc (by have := B1.out.size; simp <;> omega) _).trans (hb2.mono (by have := B1.out.size; first | assumption | (simp <;> omega) | (simp; done))))
    clear hb2
    go_simp
    go_wp2
    go_ret
    exact ⟨rfl, by first | exact B2.out | exact B2.out.alloc B2.out.size _⟩
end Go.Proofs.YtlbeolialpmnmaaDoor
namespace Go.Proofs.YtlbeolialpmnmaaDoor
set_option linter.unusedVariables false
set_option linter.unusedSimpArgs false
open Go.ChangeShapes Go.WideShapes Go.ChangeAt Go.RowKit
set_option maxHeartbeats 3200000 in
set_option maxRecDepth 100000 in
theorem wordsOffsets_walk (n : Int) (w : World) (hM : TW w) : Calls Tryd.prog 6 #[.int .i64 n] w fun e w' => e = .returned (.bool true) ∧ Below w.heap.size w w' := by
  have H7 := Lib.hid awake14_any
  have X1 := pShowOffset_any n
  have X2 := rShowOffset_any n
  have lS := bs_list (offL n)
  by_cases he : offX n = 0
  · obtain ⟨b1, b2, b3⟩ := off_back he
    have X3 := pOffset_any (offL n) (by omega)
    rw [b1, b2] at X3
    rw [he] at X1 X2
    have H1 := Lib.hid X1
    have H2 := Lib.hid X2
    have H3 := Lib.hid X3
    clear X1 X2 X3 b1 b2 he
    generalize offL n = S at *
    replace hM := Lib.hid hM
    go_enter Tryd.func6, Tryd.ntmps6
    go_wp2_with fail
    
    refine (H1.out _).mono ?_
    rintro e V1 ⟨rfl, hb1⟩
    have B1 : Hid (Below w.heap.size w V1) := by first | exact Lib.hid ((Below.refl w.heap.size w).trans (hb1.mono (by first | assumption | (simp <;> omega) | (simp; done)))) | exact Lib.hid (((Below.refl w.heap.size w).alloc (Nat.le_refl _) _).trans (hb1.mono (by first | assumption | (simp <;> omega) | (simp; done)))) | exact Lib.hid ((((Below.refl w.heap.size w).alloc (Nat.le_refl _) _).alloc (by simp <;> omega) _).trans (hb1.mono (by first | assumption | (simp <;> omega) | (simp; done)))) | exact Lib.hid (((((Below.refl w.heap.size w).alloc (Nat.le_refl _) _).alloc (by simp <;> omega) _).alloc (by simp <;> omega) _).trans (hb1.mono (by first | assumption | (simp <;> omega) | (simp; done))))
    clear hb1
    go_simp
    go_wp2_with fail
    refine (H2.out _).mono ?_
    rintro e V2 ⟨rfl, hb2⟩
    have B2 : Hid (Below w.heap.size w V2) := by first | exact Lib.hid ((B1.out).trans (hb2.mono (by have := B1.out.size; first | assumption | (simp <;> omega) | (simp; done)))) | exact Lib.hid (((B1.out).alloc (B1.out.size) _).trans (hb2.mono (by have := B1.out.size; first | assumption | (simp <;> omega) | (simp; done)))) | exact Lib.hid ((((B1.out).alloc (B1.out.size) _).alloc (by have := B1.out.size; simp <;> omega) _).trans (hb2.mono (by have := B1.out.size; first | assumption | (simp <;> omega) | (simp; done)))) | exact Lib.hid (((((B1.out).alloc (B1.out.size) _).alloc (by have := B1.out.size; simp <;> omega) _).alloc (by have := B1.out.size; simp <;> omega) _).trans (hb2.mono (by have := B1.out.size; first | assumption | (simp <;> omega) | (simp; done))))
    clear hb2
    go_simp
    go_wp2_with fail
    refine (H3.out _).mono ?_
    rintro e V3 ⟨rfl, hb3⟩
    have B3 : Hid (Below w.heap.size w V3) := by first | exact Lib.hid ((B2.out).trans (hb3.mono (by have := B2.out.size; first | assumption | (simp <;> omega) | (simp; done)))) | exact Lib.hid (((B2.out).alloc (B2.out.size) _).trans (hb3.mono (by have := B2.out.size; first | assumption | (simp <;> omega) | (simp; done)))) | exact Lib.hid ((((B2.out).alloc (B2.out.size) _).alloc (by have := B2.out.size; simp <;> omega) _).trans (hb3.mono (by have := B2.out.size; first | assumption | (simp <;> omega) | (simp; done)))) | exact Lib.hid (((((B2.out).alloc (B2.out.size) _).alloc (by have := B2.out.size; simp <;> omega) _).alloc (by have := B2.out.size; simp <;> omega) _).trans (hb3.mono (by have := B2.out.size; first | assumption | (simp <;> omega) | (simp; done))))
    clear hb3
    go_simp
    go_wp2_with fail
    refine (H7.out _ (by first | exact tw_keep hM (B3.out) | exact tw_keep hM ((B3.out).alloc (B3.out.size) _) | exact tw_keep hM (((B3.out).alloc (B3.out.size) _).alloc (by have := B3.out.size; simp <;> omega) _) | exact tw_keep hM ((((B3.out).alloc (B3.out.size) _).alloc (by have := B3.out.size; simp <;> omega) _).alloc (by have := B3.out.size; simp <;> omega) _))).mono ?_
    rintro e V4 ⟨rfl, hb4⟩
    have B4 : Hid (Below w.heap.size w V4) := by first | exact Lib.hid ((B3.out).trans (hb4.mono (by have := B3.out.size; first | assumption | (simp <;> omega) | (simp; done)))) | exact Lib.hid (((B3.out).alloc (B3.out.size) _).trans (hb4.mono (by have := B3.out.size; first | assumption | (simp <;> omega) | (simp; done)))) | exact Lib.hid ((((B3.out).alloc (B3.out.size) _).alloc (by have := B3.out.size; simp <;> omega) _).trans (hb4.mono (by have := B3.out.size; first | assumption | (simp <;> omega) | (simp; done)))) | exact Lib.hid (((((B3.out).alloc (B3.out.size) _).alloc (by have := B3.out.size; simp <;> omega) _).alloc (by have := B3.out.size; simp <;> omega) _).trans (hb4.mono (by have := B3.out.size; first | assumption | (simp <;> omega) | (simp; done))))
    clear hb4
    go_simp
    go_wp2
    go_ret
    exact ⟨rfl, by first | exact B4.out | exact B4.out.alloc B4.out.size _⟩
  · obtain ⟨b1, b2⟩ := off_no he
    rw [b1, b2, bs_nil14] at X1 X2
    have H1 := Lib.hid X1
    have H2 := Lib.hid X2
    clear X1 X2 b1 b2 he lS
    replace hM := Lib.hid hM
    go_enter Tryd.func6, Tryd.ntmps6
    go_wp2_with fail
    
    refine (H1.out _).mono ?_
    rintro e V1 ⟨rfl, hb1⟩
    have B1 : Hid (Below w.heap.size w V1) := by first | exact Lib.hid ((Below.refl w.heap.size w).trans (hb1.mono (by first | assumption | (simp <;> omega) | (simp; done)))) | exact Lib.hid (((Below.refl w.heap.size w).alloc (Nat.le_refl _) _).trans (hb1.mono (by first | assumption | (simp <;> omega) | (simp; done)))) | exact Lib.hid ((((Below.refl w.heap.size w).alloc (Nat.le_refl _) _).alloc (by simp <;> omega) _).trans (hb1.mono (by first | assumption | (simp <;> omega) | (simp; done)))) | exact Lib.hid (((((Below.refl w.heap.size w).alloc (Nat.le_refl _) _).alloc (by simp <;> omega) _).alloc (by simp <;> omega) _).trans (hb1.mono (by first | assumption | (simp <;> omega) | (simp; done))))
    clear hb1
    go_simp
    go_wp2_with fail
    refine (H2.out _).mono ?_
    rintro e V2 ⟨rfl, hb2⟩
    have B2 : Hid (Below w.heap.size w V2) := by first | exact Lib.hid ((B1.out).trans (hb2.mono (by have := B1.out.size; first | assumption | (simp <;> omega) | (simp; done)))) | exact Lib.hid (((B1.out).alloc (B1.out.size) _).trans (hb2.mono (by have := B1.out.size; first | assumption | (simp <;> omega) | (simp; done)))) | exact Lib.hid ((((B1.out).alloc (B1.out.size) _).alloc (by have := B1.out.size; simp <;> omega) _).trans (hb2.mono (by have := B1.out.size; first | assumption | (simp <;> omega) | (simp; done)))) | exact Lib.hid (((((B1.out).alloc (B1.out.size) _).alloc (by have := B1.out.size; simp <;> omega) _).alloc (by have := B1.out.size; simp <;> omega) _).trans (hb2.mono (by have := B1.out.size; first | assumption | (simp <;> omega) | (simp; done))))
    clear hb2
    go_simp
    go_wp2_with fail
    refine (H7.out _ (by first | exact tw_keep hM (B2.out) | exact tw_keep hM ((B2.out).alloc (B2.out.size) _) | exact tw_keep hM (((B2.out).alloc (B2.out.size) _).alloc (by have := B2.out.size; simp <;> omega) _) | exact tw_keep hM ((((B2.out).alloc (B2.out.size) _).alloc (by have := B2.out.size; simp <;> omega) _).alloc (by have := B2.out.size; simp <;> omega) _))).mono ?_
    rintro e V3 ⟨rfl, hb3⟩
    have B3 : Hid (Below w.heap.size w V3) := by first | exact Lib.hid ((B2.out).trans (hb3.mono (by have := B2.out.size; first | assumption | (simp <;> omega) | (simp; done)))) | exact Lib.hid (((B2.out).alloc (B2.out.size) _).trans (hb3.mono (by have := B2.out.size; first | assumption | (simp <;> omega) | (simp; done)))) | exact Lib.hid ((((B2.out).alloc (B2.out.size) _).alloc (by have := B2.out.size; simp <;> omega) _).trans (hb3.mono (by have := B2.out.size; first | assumption | (simp <;> omega) | (simp; done)))) | exact Lib.hid (((((B2.out).alloc (B2.out.size) _).alloc (by have := B2.out.size; simp <;> omega) _).alloc (by have := B2.out.size; simp <;> omega) _).trans (hb3.mono (by have := B2.out.size; first | assumption | (simp <;> omega) | (simp; done))))
    clear hb3
    go_simp
    go_wp2
    go_ret
    exact ⟨rfl, by first | exact B3.out | exact B3.out.alloc B3.out.size _⟩
theorem u_mod (a : Int) (m : Int) (hm : 0 < m) : 0 ≤ (IntKind.u64.wrap a).tmod m ∧ (IntKind.u64.wrap a).tmod m < m := by
  have h : 0 ≤ IntKind.u64.wrap a := by rw [IntKind.wrap_u64]; omega
  rw [Int.tmod_eq_emod_of_nonneg h]
  exact ⟨Int.emod_nonneg _ (by omega), Int.emod_lt_of_pos _ hm⟩
theorem nm_big {n : Int} (h : 10 ≤ n) : nmL n = [dgt (n / 10)] ++ [dgt (n % 10)] := by unfold nmL; rw [if_pos h]; rfl
theorem nm_small {n : Int} (h : ¬ 10 ≤ n) : nmL n = [dgt (n % 10)] := by unfold nmL; rw [if_neg h]
set_option maxHeartbeats 6400000 in
set_option maxRecDepth 100000 in
theorem wkd_walk1 (a b : Int) (T : List UInt8) (hT : T.length ≤ 9223372036854775807) (x n : Int) (hx : (IntKind.u64.wrap a).tmod 7 = x) (x0 : 0 ≤ x) (x6 : x < 7) (hy : (IntKind.u64.wrap b).tmod 31 = n - 1) (n1 : 1 ≤ n) (n31 : n ≤ 31) (h10 : ¬ 10 ≤ n) (w : World) (hM : TW w) : Calls Tryd.prog 7 #[.int .i64 a, .int .i64 b, .string (bs T)] w fun e w' => e = .returned (.bool true) ∧ Below w.heap.size w w' := by
  have H7 := Lib.hid awake14_any
  obtain ⟨W, hW⟩ : ∃ W, W = x + 1 := ⟨_, rfl⟩
  obtain ⟨d1, d2, d3, d4⟩ := wk_days (w := W) (n := n) (by omega) (by omega) n1 n31
  have hSl := wkS_len W (by omega) (by omega)
  have X0 := rWeekdays_any W (by omega) (by omega)
  generalize wkS W = S at *
  have hNl : (nmL n).length ≤ 2 := by unfold nmL; split <;> simp
  have X1 := pDay_any (lastL ++ S) (by unfold lastL; simp; omega)
  have X2 := pDay_any (S ++ [62, 61] ++ nmL n) (by simp; omega)
  have X3 := pDay_any (S ++ [60, 61] ++ nmL n) (by simp; omega)
  have X4 := pDay_any (nmL n) (by omega)
  rw [d1] at X1
  rw [d2] at X2
  rw [d3] at X3
  rw [d4] at X4
  have c1 : (⟨#[108, 97, 115, 116, 45]⟩ : ByteArray) ++ bs S = bs (lastL ++ S) := by rw [lit_bs, append_bs]; rfl
  have c2 : bs S ++ ⟨#[62, 61]⟩ = bs (S ++ [62, 61]) := by rw [lit_bs, append_bs]
  have c3 : bs S ++ ⟨#[60, 61]⟩ = bs (S ++ [60, 61]) := by rw [lit_bs, append_bs]
  have c4 := append_bs (S ++ [62, 61]) (nmL n)
  have c5 := append_bs (S ++ [60, 61]) (nmL n)
  have z1 : (bs S).size = 3 := by rw [bs_size]; exact hSl
  have z2 : (bs (S ++ [62, 61])).size = 5 := by rw [bs_size]; simp; omega
  have z3 : (bs (S ++ [60, 61])).size = 5 := by rw [bs_size]; simp; omega
  have z4 := bs_size (nmL n)
  have hst : ¬ (9223372036854775807 < 5 + (nmL n).length) := by omega
  generalize hq : n % 10 = q at *
  have q0 : 0 ≤ q := by omega
  have q9 : q ≤ 9 := by omega
  have hq2 : n.tmod 10 = q := by rw [Int.tmod_eq_emod_of_nonneg (by omega)]; exact hq
  have k1 := fun w => conv_one w q q0 q9
  have hN := nm_small h10
  rw [hq] at hN
  rw [← hN] at k1
  replace hN := Lib.hid hN
  generalize S ++ [62, 61] ++ nmL n = S3 at *
  generalize S ++ [60, 61] ++ nmL n = S4 at *
  generalize S ++ [62, 61] = S1 at *
  generalize S ++ [60, 61] = S2 at *
  generalize lastL ++ S = S5 at *
  generalize nmL n = NM at *
  have H0 := Lib.hid X0
  have H1 := Lib.hid X1
  have H2 := Lib.hid X2
  have H3 := Lib.hid X3
  have H4 := Lib.hid X4
  have hW2 : x + 1 = W := hW.symm
  have hn2 : n - 1 + 1 = n := by omega
  have w1 : 1 ≤ W := by omega
  have w7 : W ≤ 7 := by omega
  replace hSl := Lib.hid hSl
  replace hNl := Lib.hid hNl
  clear X0 X1 X2 X3 X4 d1 d2 d3 d4 hW
  have HTL : Hid (T.length ≤ 9223372036854775807) := Lib.hid hT
  replace hM := Lib.hid hM
  go_enter Tryd.func7, Tryd.ntmps7
  go_wp2_with fail
  
  refine (H0.out _).mono ?_
  rintro e V1 ⟨rfl, hb1⟩
  have B1 : Hid (Below w.heap.size w V1) := by first | exact Lib.hid ((Below.refl w.heap.size w).trans (hb1.mono (by first | assumption | (simp <;> omega) | (simp; done)))) | exact Lib.hid (((Below.refl w.heap.size w).alloc (Nat.le_refl _) _).trans (hb1.mono (by first | assumption | (simp <;> omega) | (simp; done)))) | exact Lib.hid ((((Below.refl w.heap.size w).alloc (Nat.le_refl _) _).alloc (by simp <;> omega) _).trans (hb1.mono (by first | assumption | (simp <;> omega) | (simp; done)))) | exact Lib.hid (((((Below.refl w.heap.size w).alloc (Nat.le_refl _) _).alloc (by simp <;> omega) _).alloc (by simp <;> omega) _).trans (hb1.mono (by first | assumption | (simp <;> omega) | (simp; done))))
  clear hb1
  go_simp
  go_wp2_with fail
  refine (H1.out _ (by first | exact tw_keep hM (B1.out) | exact tw_keep hM ((B1.out).alloc (B1.out.size) _) | exact tw_keep hM (((B1.out).alloc (B1.out.size) _).alloc (by have := B1.out.size; simp <;> omega) _) | exact tw_keep hM ((((B1.out).alloc (B1.out.size) _).alloc (by have := B1.out.size; simp <;> omega) _).alloc (by have := B1.out.size; simp <;> omega) _))).mono ?_
  rintro e V2 ⟨rfl, hb2⟩
  have B2 : Hid (Below w.heap.size w V2) := by first | exact Lib.hid ((B1.out).trans (hb2.mono (by have := B1.out.size; first | assumption | (simp <;> omega) | (simp; done)))) | exact Lib.hid (((B1.out).alloc (B1.out.size) _).trans (hb2.mono (by have := B1.out.size; first | assumption | (simp <;> omega) | (simp; done)))) | exact Lib.hid ((((B1.out).alloc (B1.out.size) _).alloc (by have := B1.out.size; simp <;> omega) _).trans (hb2.mono (by have := B1.out.size; first | assumption | (simp <;> omega) | (simp; done)))) | exact Lib.hid (((((B1.out).alloc (B1.out.size) _).alloc (by have := B1.out.size; simp <;> omega) _).alloc (by have := B1.out.size; simp <;> omega) _).trans (hb2.mono (by have := B1.out.size; first | assumption | (simp <;> omega) | (simp; done))))
  clear hb2
  go_simp
  go_wp2_with fail
  refine (H2.out _ (by first | exact tw_keep hM ((B2.out).alloc (B2.out.size) _))).mono ?_
  rintro e V3 ⟨rfl, hb3⟩
  have B3 := Lib.hid (((B2.out).alloc (B2.out.size) _).trans (hb3.mono (by have := B2.out.size; first | assumption | (simp <;> omega) | (simp; done))))
  have D1 := Lib.hid (row_call hb3 (heap_alloc_new _ _))
  clear hb3
  have D1_0 : V3.cell? ⟨V2.heap.size, 0, none⟩ = some (.int .i64 1) := cell_of_row _ _ _ _ _ _ D1.out
  have D1_1 : V3.cell? ⟨V2.heap.size, 1, none⟩ = some (.int .i64 0) := cell_of_row _ _ _ _ _ _ D1.out
  have D1_2 : V3.cell? ⟨V2.heap.size, 2, none⟩ = some (.int .i64 W) := cell_of_row _ _ _ _ _ _ D1.out
  have zD1 := lt_of_heap D1.out
  go_simp
  go_wp2_with fail
  refine (H3.out _ (by first | exact tw_keep hM ((B3.out).alloc (B3.out.size) _))).mono ?_
  rintro e V4 ⟨rfl, hb4⟩
  clear D1_0 D1_1 D1_2 zD1
  have nD1D2 := Lib.hid (lt_of_heap D1.out)
  have B4 := Lib.hid (((B3.out).alloc (B3.out.size) _).trans (hb4.mono (by have := B3.out.size; first | assumption | (simp <;> omega) | (simp; done))))
  replace D1 := Lib.hid (row_call hb4 (row_alloc D1.out _))
  have D2 := Lib.hid (row_call hb4 (heap_alloc_new _ _))
  clear hb4
  have D1_0 : V4.cell? ⟨V2.heap.size, 0, none⟩ = some (.int .i64 1) := cell_of_row _ _ _ _ _ _ D1.out
  have D1_1 : V4.cell? ⟨V2.heap.size, 1, none⟩ = some (.int .i64 0) := cell_of_row _ _ _ _ _ _ D1.out
  have D1_2 : V4.cell? ⟨V2.heap.size, 2, none⟩ = some (.int .i64 W) := cell_of_row _ _ _ _ _ _ D1.out
  have D2_0 : V4.cell? ⟨V3.heap.size, 0, none⟩ = some (.int .i64 2) := cell_of_row _ _ _ _ _ _ D2.out
  have D2_1 : V4.cell? ⟨V3.heap.size, 1, none⟩ = some (.int .i64 n) := cell_of_row _ _ _ _ _ _ D2.out
  have D2_2 : V4.cell? ⟨V3.heap.size, 2, none⟩ = some (.int .i64 W) := cell_of_row _ _ _ _ _ _ D2.out
  have zD1 := lt_of_heap D1.out
  have zD2 := lt_of_heap D2.out
  go_simp
  go_wp2_with fail
  refine (H4.out _ (by first | exact tw_keep hM ((B4.out).alloc (B4.out.size) _))).mono ?_
  rintro e V5 ⟨rfl, hb5⟩
  clear D1_0 D1_1 D1_2 zD1 D2_0 D2_1 D2_2 zD2
  have nD1D3 := Lib.hid (lt_of_heap D1.out)
  have nD2D3 := Lib.hid (lt_of_heap D2.out)
  have B5 := Lib.hid (((B4.out).alloc (B4.out.size) _).trans (hb5.mono (by have := B4.out.size; first | assumption | (simp <;> omega) | (simp; done))))
  replace D1 := Lib.hid (row_call hb5 (row_alloc D1.out _))
  replace D2 := Lib.hid (row_call hb5 (row_alloc D2.out _))
  have D3 := Lib.hid (row_call hb5 (heap_alloc_new _ _))
  clear hb5
  have D1_0 : V5.cell? ⟨V2.heap.size, 0, none⟩ = some (.int .i64 1) := cell_of_row _ _ _ _ _ _ D1.out
  have D1_1 : V5.cell? ⟨V2.heap.size, 1, none⟩ = some (.int .i64 0) := cell_of_row _ _ _ _ _ _ D1.out
  have D1_2 : V5.cell? ⟨V2.heap.size, 2, none⟩ = some (.int .i64 W) := cell_of_row _ _ _ _ _ _ D1.out
  have D2_0 : V5.cell? ⟨V3.heap.size, 0, none⟩ = some (.int .i64 2) := cell_of_row _ _ _ _ _ _ D2.out
  have D2_1 : V5.cell? ⟨V3.heap.size, 1, none⟩ = some (.int .i64 n) := cell_of_row _ _ _ _ _ _ D2.out
  have D2_2 : V5.cell? ⟨V3.heap.size, 2, none⟩ = some (.int .i64 W) := cell_of_row _ _ _ _ _ _ D2.out
  have D3_0 : V5.cell? ⟨V4.heap.size, 0, none⟩ = some (.int .i64 3) := cell_of_row _ _ _ _ _ _ D3.out
  have D3_1 : V5.cell? ⟨V4.heap.size, 1, none⟩ = some (.int .i64 n) := cell_of_row _ _ _ _ _ _ D3.out
  have D3_2 : V5.cell? ⟨V4.heap.size, 2, none⟩ = some (.int .i64 W) := cell_of_row _ _ _ _ _ _ D3.out
  have zD1 := lt_of_heap D1.out
  have zD2 := lt_of_heap D2.out
  have zD3 := lt_of_heap D3.out
  go_simp
  go_wp2
  have HBA : Hid (Below w.heap.size w (V5.alloc (.cells #[.int .i64 0, .int .i64 n, .int .i64 0] 33))) := Lib.hid (keepA B5.out _)
  have HW8 := Lib.hid rWeekdays_any
  have HL := Lib.hid (fun t h => pDay_any t h)
  have HS := Lib.hid (fun h w => grow2 (rSmall_any T h w))
  have lT := bs_list T
  have cT : (⟨#[108, 97, 115, 116, 45]⟩ : ByteArray) ++ bs T = bs (lastL ++ T) := by rw [lit_bs, append_bs]; rfl
  have zT := bs_size T
  clear H0 H1 H2 H3 H4 c1 c2 c3 c4 c5 z1 z2 z3 z4 hst k1
  go_loopw [17] (fun i wr => ∃ k : Nat, 1 ≤ k ∧ k ≤ 8 ∧ i = .int .i64 (k : Int) ∧ (∀ j : Nat, 1 ≤ j → j < k → T ≠ wkS (j : Int)) ∧ Below w.heap.size w wr) (fun i _ => 8 - (intOf i).toNat)
  case atStart => exact ⟨1, by omega, by omega, rfl, fun j h1 h2 => absurd h1 (by omega), HBA.out⟩
  case round =>
    obtain ⟨k, hk1, hk8, rfl, hno, hB⟩ := hrel
    obtain ⟨V20, rfl⟩ : ∃ V, V = wr := ⟨_, rfl⟩
    have B20 := Lib.hid hB
    clear hB HBA
    by_cases hlt : k < 8
    · have X5 := HW8.out (k : Int) (by omega) (by omega)
      have lk := bs_list (wkS (k : Int))
      by_cases hT2 : T = wkS (k : Int)
      · have t1 : (T == wkS (k : Int)) = true := by rw [← hT2]; simp
        replace hT2 := Lib.hid hT2
        replace hno := Lib.hid hno
        generalize wkS (k : Int) = K at *
        have H5 := Lib.hid X5
        clear X5
        
        go_wp2_with fail
        refine (H5.out _).mono ?_
        rintro e V21 ⟨rfl, hb21⟩
        have B21 : Hid (Below w.heap.size w V21) := by first | exact Lib.hid ((B20.out).trans (hb21.mono (by have := B20.out.size; first | assumption | (simp <;> omega) | (simp; done)))) | exact Lib.hid (((B20.out).alloc (B20.out.size) _).trans (hb21.mono (by have := B20.out.size; first | assumption | (simp <;> omega) | (simp; done)))) | exact Lib.hid ((((B20.out).alloc (B20.out.size) _).alloc (by have := B20.out.size; simp <;> omega) _).trans (hb21.mono (by have := B20.out.size; first | assumption | (simp <;> omega) | (simp; done)))) | exact Lib.hid (((((B20.out).alloc (B20.out.size) _).alloc (by have := B20.out.size; simp <;> omega) _).alloc (by have := B20.out.size; simp <;> omega) _).trans (hb21.mono (by have := B20.out.size; first | assumption | (simp <;> omega) | (simp; done))))
        clear hb21
        go_simp
        go_wp2_with fail
        refine (H7.out _ (by first | exact tw_keep hM (B21.out) | exact tw_keep hM ((B21.out).alloc (B21.out.size) _) | exact tw_keep hM (((B21.out).alloc (B21.out.size) _).alloc (by have := B21.out.size; simp <;> omega) _) | exact tw_keep hM ((((B21.out).alloc (B21.out.size) _).alloc (by have := B21.out.size; simp <;> omega) _).alloc (by have := B21.out.size; simp <;> omega) _))).mono ?_
        rintro e V22 ⟨rfl, hb22⟩
        have B22 : Hid (Below w.heap.size w V22) := by first | exact Lib.hid ((B21.out).trans (hb22.mono (by have := B21.out.size; first | assumption | (simp <;> omega) | (simp; done)))) | exact Lib.hid (((B21.out).alloc (B21.out.size) _).trans (hb22.mono (by have := B21.out.size; first | assumption | (simp <;> omega) | (simp; done)))) | exact Lib.hid ((((B21.out).alloc (B21.out.size) _).alloc (by have := B21.out.size; simp <;> omega) _).trans (hb22.mono (by have := B21.out.size; first | assumption | (simp <;> omega) | (simp; done)))) | exact Lib.hid (((((B21.out).alloc (B21.out.size) _).alloc (by have := B21.out.size; simp <;> omega) _).alloc (by have := B21.out.size; simp <;> omega) _).trans (hb22.mono (by have := B21.out.size; first | assumption | (simp <;> omega) | (simp; done))))
        clear hb22
        go_simp
        go_wp2
        go_ret
        exact ⟨rfl, by first | exact B22.out | exact B22.out.alloc B22.out.size _⟩
      · have t1 : (T == wkS (k : Int)) = false := beq_eq_false_iff_ne.2 hT2
        have hno2 : Hid (∀ j : Nat, 1 ≤ j → j < k + 1 → T ≠ wkS (j : Int)) := Lib.hid (fun j h1 h2 => by
          by_cases e : j = k
          · subst e; exact hT2
          · exact hno j h1 (by omega))
        replace hT2 := Lib.hid hT2
        replace hno := Lib.hid hno
        generalize wkS (k : Int) = K at *
        have H5 := Lib.hid X5
        clear X5
        
        go_wp2_with fail
        refine (H5.out _).mono ?_
        rintro e V21 ⟨rfl, hb21⟩
        have B21 : Hid (Below w.heap.size w V21) := by first | exact Lib.hid ((B20.out).trans (hb21.mono (by have := B20.out.size; first | assumption | (simp <;> omega) | (simp; done)))) | exact Lib.hid (((B20.out).alloc (B20.out.size) _).trans (hb21.mono (by have := B20.out.size; first | assumption | (simp <;> omega) | (simp; done)))) | exact Lib.hid ((((B20.out).alloc (B20.out.size) _).alloc (by have := B20.out.size; simp <;> omega) _).trans (hb21.mono (by have := B20.out.size; first | assumption | (simp <;> omega) | (simp; done)))) | exact Lib.hid (((((B20.out).alloc (B20.out.size) _).alloc (by have := B20.out.size; simp <;> omega) _).alloc (by have := B20.out.size; simp <;> omega) _).trans (hb21.mono (by have := B20.out.size; first | assumption | (simp <;> omega) | (simp; done))))
        clear hb21
        go_simp
        go_wp2
        exact ⟨⟨k + 1, by omega, by omega, by go_num, hno2.out, B21.out⟩, by simp [intOf]; omega⟩
    · obtain rfl : k = 8 := by omega
      have h0 : wkdI T = 0 := wkd_none (fun e => hno 1 (by omega) (by omega) e) (fun e => hno 2 (by omega) (by omega) e) (fun e => hno 3 (by omega) (by omega) e) (fun e => hno 4 (by omega) (by omega) e) (fun e => hno 5 (by omega) (by omega) e) (fun e => hno 6 (by omega) (by omega) e) (fun e => hno 7 (by omega) (by omega) e)
      have X5 := HS.out HTL.out
      replace hno := Lib.hid hno
      by_cases hs : T.length ≤ 2000
      · rw [decide_eq_true hs] at X5
        have X6 := HL.out (lastL ++ T) (by unfold lastL; simp; omega)
        rw [day_oddlast h0] at X6
        have hst : ¬ (9223372036854775807 < 5 + T.length) := by omega
        have H5 := Lib.hid X5
        have H6 := Lib.hid X6
        replace h0 := Lib.hid h0
        clear X5 X6
        generalize lastL ++ T = TT at *
        
        go_wp2_with fail
        refine (H5.out _).mono ?_
        rintro e V21 ⟨rfl, hb21⟩
        have B21 : Hid (Below w.heap.size w V21) := by first | exact Lib.hid ((B20.out).trans (hb21.mono (by have := B20.out.size; first | assumption | (simp <;> omega) | (simp; done)))) | exact Lib.hid (((B20.out).alloc (B20.out.size) _).trans (hb21.mono (by have := B20.out.size; first | assumption | (simp <;> omega) | (simp; done)))) | exact Lib.hid ((((B20.out).alloc (B20.out.size) _).alloc (by have := B20.out.size; simp <;> omega) _).trans (hb21.mono (by have := B20.out.size; first | assumption | (simp <;> omega) | (simp; done)))) | exact Lib.hid (((((B20.out).alloc (B20.out.size) _).alloc (by have := B20.out.size; simp <;> omega) _).alloc (by have := B20.out.size; simp <;> omega) _).trans (hb21.mono (by have := B20.out.size; first | assumption | (simp <;> omega) | (simp; done))))
        clear hb21
        go_simp
        go_wp2_with fail
        refine (H6.out _ (by first | exact tw_keep hM (B21.out) | exact tw_keep hM ((B21.out).alloc (B21.out.size) _) | exact tw_keep hM (((B21.out).alloc (B21.out.size) _).alloc (by have := B21.out.size; simp <;> omega) _) | exact tw_keep hM ((((B21.out).alloc (B21.out.size) _).alloc (by have := B21.out.size; simp <;> omega) _).alloc (by have := B21.out.size; simp <;> omega) _))).mono ?_
        rintro e V22 ⟨rfl, hb22⟩
        have B22 : Hid (Below w.heap.size w V22) := by first | exact Lib.hid ((B21.out).trans (hb22.mono (by have := B21.out.size; first | assumption | (simp <;> omega) | (simp; done)))) | exact Lib.hid (((B21.out).alloc (B21.out.size) _).trans (hb22.mono (by have := B21.out.size; first | assumption | (simp <;> omega) | (simp; done)))) | exact Lib.hid ((((B21.out).alloc (B21.out.size) _).alloc (by have := B21.out.size; simp <;> omega) _).trans (hb22.mono (by have := B21.out.size; first | assumption | (simp <;> omega) | (simp; done)))) | exact Lib.hid (((((B21.out).alloc (B21.out.size) _).alloc (by have := B21.out.size; simp <;> omega) _).alloc (by have := B21.out.size; simp <;> omega) _).trans (hb22.mono (by have := B21.out.size; first | assumption | (simp <;> omega) | (simp; done))))
        clear hb22
        go_simp
        go_wp2_with fail
        refine (H7.out _ (by first | exact tw_keep hM ((B22.out).alloc (B22.out.size) _))).mono ?_
        rintro e V23 ⟨rfl, hb23⟩
        have B23 := Lib.hid (((B22.out).alloc (B22.out.size) _).trans (hb23.mono (by have := B22.out.size; first | assumption | (simp <;> omega) | (simp; done))))
        have E1 := Lib.hid (row_call hb23 (heap_alloc_new _ _))
        clear hb23
        have E1_0 : V23.cell? ⟨V22.heap.size, 0, none⟩ = some (.int .i64 0) := cell_of_row _ _ _ _ _ _ E1.out
        have E1_1 : V23.cell? ⟨V22.heap.size, 1, none⟩ = some (.int .i64 0) := cell_of_row _ _ _ _ _ _ E1.out
        have E1_2 : V23.cell? ⟨V22.heap.size, 2, none⟩ = some (.int .i64 0) := cell_of_row _ _ _ _ _ _ E1.out
        have zE1 := lt_of_heap E1.out
        go_simp
        go_wp2
        go_ret
        exact ⟨rfl, by first | exact B23.out | exact B23.out.alloc B23.out.size _⟩
      · rw [decide_eq_false hs] at X5
        have H5 := Lib.hid X5
        replace h0 := Lib.hid h0
        clear X5
        
        go_wp2_with fail
        refine (H5.out _).mono ?_
        rintro e V21 ⟨rfl, hb21⟩
        have B21 : Hid (Below w.heap.size w V21) := by first | exact Lib.hid ((B20.out).trans (hb21.mono (by have := B20.out.size; first | assumption | (simp <;> omega) | (simp; done)))) | exact Lib.hid (((B20.out).alloc (B20.out.size) _).trans (hb21.mono (by have := B20.out.size; first | assumption | (simp <;> omega) | (simp; done)))) | exact Lib.hid ((((B20.out).alloc (B20.out.size) _).alloc (by have := B20.out.size; simp <;> omega) _).trans (hb21.mono (by have := B20.out.size; first | assumption | (simp <;> omega) | (simp; done)))) | exact Lib.hid (((((B20.out).alloc (B20.out.size) _).alloc (by have := B20.out.size; simp <;> omega) _).alloc (by have := B20.out.size; simp <;> omega) _).trans (hb21.mono (by have := B20.out.size; first | assumption | (simp <;> omega) | (simp; done))))
        clear hb21
        go_simp
        go_wp2_with fail
        refine (H7.out _ (by first | exact tw_keep hM (B21.out) | exact tw_keep hM ((B21.out).alloc (B21.out.size) _) | exact tw_keep hM (((B21.out).alloc (B21.out.size) _).alloc (by have := B21.out.size; simp <;> omega) _) | exact tw_keep hM ((((B21.out).alloc (B21.out.size) _).alloc (by have := B21.out.size; simp <;> omega) _).alloc (by have := B21.out.size; simp <;> omega) _))).mono ?_
        rintro e V22 ⟨rfl, hb22⟩
        have B22 : Hid (Below w.heap.size w V22) := by first | exact Lib.hid ((B21.out).trans (hb22.mono (by have := B21.out.size; first | assumption | (simp <;> omega) | (simp; done)))) | exact Lib.hid (((B21.out).alloc (B21.out.size) _).trans (hb22.mono (by have := B21.out.size; first | assumption | (simp <;> omega) | (simp; done)))) | exact Lib.hid ((((B21.out).alloc (B21.out.size) _).alloc (by have := B21.out.size; simp <;> omega) _).trans (hb22.mono (by have := B21.out.size; first | assumption | (simp <;> omega) | (simp; done)))) | exact Lib.hid (((((B21.out).alloc (B21.out.size) _).alloc (by have := B21.out.size; simp <;> omega) _).alloc (by have := B21.out.size; simp <;> omega) _).trans (hb22.mono (by have := B21.out.size; first | assumption | (simp <;> omega) | (simp; done))))
        clear hb22
        go_simp
        go_wp2
        go_ret
        exact ⟨rfl, by first | exact B22.out | exact B22.out.alloc B22.out.size _⟩
set_option maxHeartbeats 6400000 in
set_option maxRecDepth 100000 in
theorem wkd_walk2 (a b : Int) (T : List UInt8) (hT : T.length ≤ 9223372036854775807) (x n : Int) (hx : (IntKind.u64.wrap a).tmod 7 = x) (x0 : 0 ≤ x) (x6 : x < 7) (hy : (IntKind.u64.wrap b).tmod 31 = n - 1) (n1 : 1 ≤ n) (n31 : n ≤ 31) (h10 : 10 ≤ n) (w : World) (hM : TW w) : Calls Tryd.prog 7 #[.int .i64 a, .int .i64 b, .string (bs T)] w fun e w' => e = .returned (.bool true) ∧ Below w.heap.size w w' := by
  have H7 := Lib.hid awake14_any
  obtain ⟨W, hW⟩ : ∃ W, W = x + 1 := ⟨_, rfl⟩
  obtain ⟨d1, d2, d3, d4⟩ := wk_days (w := W) (n := n) (by omega) (by omega) n1 n31
  have hSl := wkS_len W (by omega) (by omega)
  have X0 := rWeekdays_any W (by omega) (by omega)
  generalize wkS W = S at *
  have hNl : (nmL n).length ≤ 2 := by unfold nmL; split <;> simp
  have X1 := pDay_any (lastL ++ S) (by unfold lastL; simp; omega)
  have X2 := pDay_any (S ++ [62, 61] ++ nmL n) (by simp; omega)
  have X3 := pDay_any (S ++ [60, 61] ++ nmL n) (by simp; omega)
  have X4 := pDay_any (nmL n) (by omega)
  rw [d1] at X1
  rw [d2] at X2
  rw [d3] at X3
  rw [d4] at X4
  have c1 : (⟨#[108, 97, 115, 116, 45]⟩ : ByteArray) ++ bs S = bs (lastL ++ S) := by rw [lit_bs, append_bs]; rfl
  have c2 : bs S ++ ⟨#[62, 61]⟩ = bs (S ++ [62, 61]) := by rw [lit_bs, append_bs]
  have c3 : bs S ++ ⟨#[60, 61]⟩ = bs (S ++ [60, 61]) := by rw [lit_bs, append_bs]
  have c4 := append_bs (S ++ [62, 61]) (nmL n)
  have c5 := append_bs (S ++ [60, 61]) (nmL n)
  have z1 : (bs S).size = 3 := by rw [bs_size]; exact hSl
  have z2 : (bs (S ++ [62, 61])).size = 5 := by rw [bs_size]; simp; omega
  have z3 : (bs (S ++ [60, 61])).size = 5 := by rw [bs_size]; simp; omega
  have z4 := bs_size (nmL n)
  have hst : ¬ (9223372036854775807 < 5 + (nmL n).length) := by omega
  generalize hq : n % 10 = q at *
  have q0 : 0 ≤ q := by omega
  have q9 : q ≤ 9 := by omega
  have hq2 : n.tmod 10 = q := by rw [Int.tmod_eq_emod_of_nonneg (by omega)]; exact hq
  have k1 := fun w => conv_one w q q0 q9
  have hN := nm_big h10
  rw [hq] at hN
  generalize hp : n / 10 = p at *
  have p0 : 0 ≤ p := by omega
  have p9 : p ≤ 9 := by omega
  have hp2 : n.tdiv 10 = p := by rw [Int.tdiv_eq_ediv_of_nonneg (by omega)]; exact hp
  have k2 := fun w o => conv_one2 w o p p0 p9
  have c6 : bs [dgt p] ++ bs [dgt q] = bs (nmL n) := by rw [hN, append_bs]
  have z5 : (bs [dgt p]).size = 1 := bs_size _
  have z6 : (bs [dgt q]).size = 1 := bs_size _
  generalize [dgt p] = P1 at *
  generalize [dgt q] = Q1 at *
  replace hN := Lib.hid hN
  generalize S ++ [62, 61] ++ nmL n = S3 at *
  generalize S ++ [60, 61] ++ nmL n = S4 at *
  generalize S ++ [62, 61] = S1 at *
  generalize S ++ [60, 61] = S2 at *
  generalize lastL ++ S = S5 at *
  generalize nmL n = NM at *
  have H0 := Lib.hid X0
  have H1 := Lib.hid X1
  have H2 := Lib.hid X2
  have H3 := Lib.hid X3
  have H4 := Lib.hid X4
  have hW2 : x + 1 = W := hW.symm
  have hn2 : n - 1 + 1 = n := by omega
  have w1 : 1 ≤ W := by omega
  have w7 : W ≤ 7 := by omega
  replace hSl := Lib.hid hSl
  replace hNl := Lib.hid hNl
  clear X0 X1 X2 X3 X4 d1 d2 d3 d4 hW
  have HTL : Hid (T.length ≤ 9223372036854775807) := Lib.hid hT
  replace hM := Lib.hid hM
  go_enter Tryd.func7, Tryd.ntmps7
  go_wp2_with fail
  
  refine (H0.out _).mono ?_
  rintro e V1 ⟨rfl, hb1⟩
  have B1 : Hid (Below w.heap.size w V1) := by first | exact Lib.hid ((Below.refl w.heap.size w).trans (hb1.mono (by first | assumption | (simp <;> omega) | (simp; done)))) | exact Lib.hid (((Below.refl w.heap.size w).alloc (Nat.le_refl _) _).trans (hb1.mono (by first | assumption | (simp <;> omega) | (simp; done)))) | exact Lib.hid ((((Below.refl w.heap.size w).alloc (Nat.le_refl _) _).alloc (by simp <;> omega) _).trans (hb1.mono (by first | assumption | (simp <;> omega) | (simp; done)))) | exact Lib.hid (((((Below.refl w.heap.size w).alloc (Nat.le_refl _) _).alloc (by simp <;> omega) _).alloc (by simp <;> omega) _).trans (hb1.mono (by first | assumption | (simp <;> omega) | (simp; done))))
  clear hb1
  go_simp
  go_wp2_with fail
  refine (H1.out _ (by first | exact tw_keep hM (B1.out) | exact tw_keep hM ((B1.out).alloc (B1.out.size) _) | exact tw_keep hM (((B1.out).alloc (B1.out.size) _).alloc (by have := B1.out.size; simp <;> omega) _) | exact tw_keep hM ((((B1.out).alloc (B1.out.size) _).alloc (by have := B1.out.size; simp <;> omega) _).alloc (by have := B1.out.size; simp <;> omega) _))).mono ?_
  rintro e V2 ⟨rfl, hb2⟩
  have B2 : Hid (Below w.heap.size w V2) := by first | exact Lib.hid ((B1.out).trans (hb2.mono (by have := B1.out.size; first | assumption | (simp <;> omega) | (simp; done)))) | exact Lib.hid (((B1.out).alloc (B1.out.size) _).trans (hb2.mono (by have := B1.out.size; first | assumption | (simp <;> omega) | (simp; done)))) | exact Lib.hid ((((B1.out).alloc (B1.out.size) _).alloc (by have := B1.out.size; simp <;> omega) _).trans (hb2.mono (by have := B1.out.size; first | assumption | (simp <;> omega) | (simp; done)))) | exact Lib.hid (((((B1.out).alloc (B1.out.size) _).alloc (by have := B1.out.size; simp <;> omega) _).alloc (by have := B1.out.size; simp <;> omega) _).trans (hb2.mono (by have := B1.out.size; first | assumption | (simp <;> omega) | (simp; done))))
  clear hb2
  go_simp
  go_wp2_with fail
  refine (H2.out _ (by first | exact tw_keep hM ((B2.out).alloc (B2.out.size) _))).mono ?_
  rintro e V3 ⟨rfl, hb3⟩
  have B3 := Lib.hid (((B2.out).alloc (B2.out.size) _).trans (hb3.mono (by have := B2.out.size; first | assumption | (simp <;> omega) | (simp; done))))
  have D1 := Lib.hid (row_call hb3 (heap_alloc_new _ _))
  clear hb3
  have D1_0 : V3.cell? ⟨V2.heap.size, 0, none⟩ = some (.int .i64 1) := cell_of_row _ _ _ _ _ _ D1.out
  have D1_1 : V3.cell? ⟨V2.heap.size, 1, none⟩ = some (.int .i64 0) := cell_of_row _ _ _ _ _ _ D1.out
  have D1_2 : V3.cell? ⟨V2.heap.size, 2, none⟩ = some (.int .i64 W) := cell_of_row _ _ _ _ _ _ D1.out
  have zD1 := lt_of_heap D1.out
  go_simp
  go_wp2_with fail
  refine (H3.out _ (by first | exact tw_keep hM ((B3.out).alloc (B3.out.size) _))).mono ?_
  rintro e V4 ⟨rfl, hb4⟩
  clear D1_0 D1_1 D1_2 zD1
  have nD1D2 := Lib.hid (lt_of_heap D1.out)
  have B4 := Lib.hid (((B3.out).alloc (B3.out.size) _).trans (hb4.mono (by have := B3.out.size; first | assumption | (simp <;> omega) | (simp; done))))
  replace D1 := Lib.hid (row_call hb4 (row_alloc D1.out _))
  have D2 := Lib.hid (row_call hb4 (heap_alloc_new _ _))
  clear hb4
  have D1_0 : V4.cell? ⟨V2.heap.size, 0, none⟩ = some (.int .i64 1) := cell_of_row _ _ _ _ _ _ D1.out
  have D1_1 : V4.cell? ⟨V2.heap.size, 1, none⟩ = some (.int .i64 0) := cell_of_row _ _ _ _ _ _ D1.out
  have D1_2 : V4.cell? ⟨V2.heap.size, 2, none⟩ = some (.int .i64 W) := cell_of_row _ _ _ _ _ _ D1.out
  have D2_0 : V4.cell? ⟨V3.heap.size, 0, none⟩ = some (.int .i64 2) := cell_of_row _ _ _ _ _ _ D2.out
  have D2_1 : V4.cell? ⟨V3.heap.size, 1, none⟩ = some (.int .i64 n) := cell_of_row _ _ _ _ _ _ D2.out
  have D2_2 : V4.cell? ⟨V3.heap.size, 2, none⟩ = some (.int .i64 W) := cell_of_row _ _ _ _ _ _ D2.out
  have zD1 := lt_of_heap D1.out
  have zD2 := lt_of_heap D2.out
  go_simp
  go_wp2_with fail
  refine (H4.out _ (by first | exact tw_keep hM ((B4.out).alloc (B4.out.size) _))).mono ?_
  rintro e V5 ⟨rfl, hb5⟩
  clear D1_0 D1_1 D1_2 zD1 D2_0 D2_1 D2_2 zD2
  have nD1D3 := Lib.hid (lt_of_heap D1.out)
  have nD2D3 := Lib.hid (lt_of_heap D2.out)
  have B5 := Lib.hid (((B4.out).alloc (B4.out.size) _).trans (hb5.mono (by have := B4.out.size; first | assumption | (simp <;> omega) | (simp; done))))
  replace D1 := Lib.hid (row_call hb5 (row_alloc D1.out _))
  replace D2 := Lib.hid (row_call hb5 (row_alloc D2.out _))
  have D3 := Lib.hid (row_call hb5 (heap_alloc_new _ _))
  clear hb5
  have D1_0 : V5.cell? ⟨V2.heap.size, 0, none⟩ = some (.int .i64 1) := cell_of_row _ _ _ _ _ _ D1.out
  have D1_1 : V5.cell? ⟨V2.heap.size, 1, none⟩ = some (.int .i64 0) := cell_of_row _ _ _ _ _ _ D1.out
  have D1_2 : V5.cell? ⟨V2.heap.size, 2, none⟩ = some (.int .i64 W) := cell_of_row _ _ _ _ _ _ D1.out
  have D2_0 : V5.cell? ⟨V3.heap.size, 0, none⟩ = some (.int .i64 2) := cell_of_row _ _ _ _ _ _ D2.out
  have D2_1 : V5.cell? ⟨V3.heap.size, 1, none⟩ = some (.int .i64 n) := cell_of_row _ _ _ _ _ _ D2.out
  have D2_2 : V5.cell? ⟨V3.heap.size, 2, none⟩ = some (.int .i64 W) := cell_of_row _ _ _ _ _ _ D2.out
  have D3_0 : V5.cell? ⟨V4.heap.size, 0, none⟩ = some (.int .i64 3) := cell_of_row _ _ _ _ _ _ D3.out
  have D3_1 : V5.cell? ⟨V4.heap.size, 1, none⟩ = some (.int .i64 n) := cell_of_row _ _ _ _ _ _ D3.out
  have D3_2 : V5.cell? ⟨V4.heap.size, 2, none⟩ = some (.int .i64 W) := cell_of_row _ _ _ _ _ _ D3.out
  have zD1 := lt_of_heap D1.out
  have zD2 := lt_of_heap D2.out
  have zD3 := lt_of_heap D3.out
  go_simp
  go_wp2
  have HBA : Hid (Below w.heap.size w (V5.alloc (.cells #[.int .i64 0, .int .i64 n, .int .i64 0] 33))) := Lib.hid (keepA B5.out _)
  have HW8 := Lib.hid rWeekdays_any
  have HL := Lib.hid (fun t h => pDay_any t h)
  have HS := Lib.hid (fun h w => grow2 (rSmall_any T h w))
  have lT := bs_list T
  have cT : (⟨#[108, 97, 115, 116, 45]⟩ : ByteArray) ++ bs T = bs (lastL ++ T) := by rw [lit_bs, append_bs]; rfl
  have zT := bs_size T
  clear H0 H1 H2 H3 H4 c1 c2 c3 c4 c5 z1 z2 z3 z4 hst k1
  go_loopw [17] (fun i wr => ∃ k : Nat, 1 ≤ k ∧ k ≤ 8 ∧ i = .int .i64 (k : Int) ∧ (∀ j : Nat, 1 ≤ j → j < k → T ≠ wkS (j : Int)) ∧ Below w.heap.size w wr) (fun i _ => 8 - (intOf i).toNat)
  case atStart => exact ⟨1, by omega, by omega, rfl, fun j h1 h2 => absurd h1 (by omega), HBA.out⟩
  case round =>
    obtain ⟨k, hk1, hk8, rfl, hno, hB⟩ := hrel
    obtain ⟨V20, rfl⟩ : ∃ V, V = wr := ⟨_, rfl⟩
    have B20 := Lib.hid hB
    clear hB HBA
    by_cases hlt : k < 8
    · have X5 := HW8.out (k : Int) (by omega) (by omega)
      have lk := bs_list (wkS (k : Int))
      by_cases hT2 : T = wkS (k : Int)
      · have t1 : (T == wkS (k : Int)) = true := by rw [← hT2]; simp
        replace hT2 := Lib.hid hT2
        replace hno := Lib.hid hno
        generalize wkS (k : Int) = K at *
        have H5 := Lib.hid X5
        clear X5
        
        go_wp2_with fail
        refine (H5.out _).mono ?_
        rintro e V21 ⟨rfl, hb21⟩
        have B21 : Hid (Below w.heap.size w V21) := by first | exact Lib.hid ((B20.out).trans (hb21.mono (by have := B20.out.size; first | assumption | (simp <;> omega) | (simp; done)))) | exact Lib.hid (((B20.out).alloc (B20.out.size) _).trans (hb21.mono (by have := B20.out.size; first | assumption | (simp <;> omega) | (simp; done)))) | exact Lib.hid ((((B20.out).alloc (B20.out.size) _).alloc (by have := B20.out.size; simp <;> omega) _).trans (hb21.mono (by have := B20.out.size; first | assumption | (simp <;> omega) | (simp; done)))) | exact Lib.hid (((((B20.out).alloc (B20.out.size) _).alloc (by have := B20.out.size; simp <;> omega) _).alloc (by have := B20.out.size; simp <;> omega) _).trans (hb21.mono (by have := B20.out.size; first | assumption | (simp <;> omega) | (simp; done))))
        clear hb21
        go_simp
        go_wp2_with fail
        refine (H7.out _ (by first | exact tw_keep hM (B21.out) | exact tw_keep hM ((B21.out).alloc (B21.out.size) _) | exact tw_keep hM (((B21.out).alloc (B21.out.size) _).alloc (by have := B21.out.size; simp <;> omega) _) | exact tw_keep hM ((((B21.out).alloc (B21.out.size) _).alloc (by have := B21.out.size; simp <;> omega) _).alloc (by have := B21.out.size; simp <;> omega) _))).mono ?_
        rintro e V22 ⟨rfl, hb22⟩
        have B22 : Hid (Below w.heap.size w V22) := by first | exact Lib.hid ((B21.out).trans (hb22.mono (by have := B21.out.size; first | assumption | (simp <;> omega) | (simp; done)))) | exact Lib.hid (((B21.out).alloc (B21.out.size) _).trans (hb22.mono (by have := B21.out.size; first | assumption | (simp <;> omega) | (simp; done)))) | exact Lib.hid ((((B21.out).alloc (B21.out.size) _).alloc (by have := B21.out.size; simp <;> omega) _).trans (hb22.mono (by have := B21.out.size; first | assumption | (simp <;> omega) | (simp; done)))) | exact Lib.hid (((((B21.out).alloc (B21.out.size) _).alloc (by have := B21.out.size; simp <;> omega) _).alloc (by have := B21.out.size; simp <;> omega) _).trans (hb22.mono (by have := B21.out.size; first | assumption | (simp <;> omega) | (simp; done))))
        clear hb22
        go_simp
        go_wp2
        go_ret
        exact ⟨rfl, by first | exact B22.out | exact B22.out.alloc B22.out.size _⟩
      · have t1 : (T == wkS (k : Int)) = false := beq_eq_false_iff_ne.2 hT2
        have hno2 : Hid (∀ j : Nat, 1 ≤ j → j < k + 1 → T ≠ wkS (j : Int)) := Lib.hid (fun j h1 h2 => by
          by_cases e : j = k
          · subst e; exact hT2
          · exact hno j h1 (by omega))
        replace hT2 := Lib.hid hT2
        replace hno := Lib.hid hno
        generalize wkS (k : Int) = K at *
        have H5 := Lib.hid X5
        clear X5
        
        go_wp2_with fail
        refine (H5.out _).mono ?_
        rintro e V21 ⟨rfl, hb21⟩
        have B21 : Hid (Below w.heap.size w V21) := by first | exact Lib.hid ((B20.out).trans (hb21.mono (by have := B20.out.size; first | assumption | (simp <;> omega) | (simp; done)))) | exact Lib.hid (((B20.out).alloc (B20.out.size) _).trans (hb21.mono (by have := B20.out.size; first | assumption | (simp <;> omega) | (simp; done)))) | exact Lib.hid ((((B20.out).alloc (B20.out.size) _).alloc (by have := B20.out.size; simp <;> omega) _).trans (hb21.mono (by have := B20.out.size; first | assumption | (simp <;> omega) | (simp; done)))) | exact Lib.hid (((((B20.out).alloc (B20.out.size) _).alloc (by have := B20.out.size; simp <;> omega) _).alloc (by have := B20.out.size; simp <;> omega) _).trans (hb21.mono (by have := B20.out.size; first | assumption | (simp <;> omega) | (simp; done))))
        clear hb21
        go_simp
        go_wp2
        exact ⟨⟨k + 1, by omega, by omega, by go_num, hno2.out, B21.out⟩, by simp [intOf]; omega⟩
    · obtain rfl : k = 8 := by omega
      have h0 : wkdI T = 0 := wkd_none (fun e => hno 1 (by omega) (by omega) e) (fun e => hno 2 (by omega) (by omega) e) (fun e => hno 3 (by omega) (by omega) e) (fun e => hno 4 (by omega) (by omega) e) (fun e => hno 5 (by omega) (by omega) e) (fun e => hno 6 (by omega) (by omega) e) (fun e => hno 7 (by omega) (by omega) e)
      have X5 := HS.out HTL.out
      replace hno := Lib.hid hno
      by_cases hs : T.length ≤ 2000
      · rw [decide_eq_true hs] at X5
        have X6 := HL.out (lastL ++ T) (by unfold lastL; simp; omega)
        rw [day_oddlast h0] at X6
        have hst : ¬ (9223372036854775807 < 5 + T.length) := by omega
        have H5 := Lib.hid X5
        have H6 := Lib.hid X6
        replace h0 := Lib.hid h0
        clear X5 X6
        generalize lastL ++ T = TT at *
        
        go_wp2_with fail
        refine (H5.out _).mono ?_
        rintro e V21 ⟨rfl, hb21⟩
        have B21 : Hid (Below w.heap.size w V21) := by first | exact Lib.hid ((B20.out).trans (hb21.mono (by have := B20.out.size; first | assumption | (simp <;> omega) | (simp; done)))) | exact Lib.hid (((B20.out).alloc (B20.out.size) _).trans (hb21.mono (by have := B20.out.size; first | assumption | (simp <;> omega) | (simp; done)))) | exact Lib.hid ((((B20.out).alloc (B20.out.size) _).alloc (by have := B20.out.size; simp <;> omega) _).trans (hb21.mono (by have := B20.out.size; first | assumption | (simp <;> omega) | (simp; done)))) | exact Lib.hid (((((B20.out).alloc (B20.out.size) _).alloc (by have := B20.out.size; simp <;> omega) _).alloc (by have := B20.out.size; simp <;> omega) _).trans (hb21.mono (by have := B20.out.size; first | assumption | (simp <;> omega) | (simp; done))))
        clear hb21
        go_simp
        go_wp2_with fail
        refine (H6.out _ (by first | exact tw_keep hM (B21.out) | exact tw_keep hM ((B21.out).alloc (B21.out.size) _) | exact tw_keep hM (((B21.out).alloc (B21.out.size) _).alloc (by have := B21.out.size; simp <;> omega) _) | exact tw_keep hM ((((B21.out).alloc (B21.out.size) _).alloc (by have := B21.out.size; simp <;> omega) _).alloc (by have := B21.out.size; simp <;> omega) _))).mono ?_
        rintro e V22 ⟨rfl, hb22⟩
        have B22 : Hid (Below w.heap.size w V22) := by first | exact Lib.hid ((B21.out).trans (hb22.mono (by have := B21.out.size; first | assumption | (simp <;> omega) | (simp; done)))) | exact Lib.hid (((B21.out).alloc (B21.out.size) _).trans (hb22.mono (by have := B21.out.size; first | assumption | (simp <;> omega) | (simp; done)))) | exact Lib.hid ((((B21.out).alloc (B21.out.size) _).alloc (by have := B21.out.size; simp <;> omega) _).trans (hb22.mono (by have := B21.out.size; first | assumption | (simp <;> omega) | (simp; done)))) | exact Lib.hid (((((B21.out).alloc (B21.out.size) _).alloc (by have := B21.out.size; simp <;> omega) _).alloc (by have := B21.out.size; simp <;> omega) _).trans (hb22.mono (by have := B21.out.size; first | assumption | (simp <;> omega) | (simp; done))))
        clear hb22
        go_simp
        go_wp2_with fail
        refine (H7.out _ (by first | exact tw_keep hM ((B22.out).alloc (B22.out.size) _))).mono ?_
        rintro e V23 ⟨rfl, hb23⟩
        have B23 := Lib.hid (((B22.out).alloc (B22.out.size) _).trans (hb23.mono (by have := B22.out.size; first | assumption | (simp <;> omega) | (simp; done))))
        have E1 := Lib.hid (row_call hb23 (heap_alloc_new _ _))
        clear hb23
        have E1_0 : V23.cell? ⟨V22.heap.size, 0, none⟩ = some (.int .i64 0) := cell_of_row _ _ _ _ _ _ E1.out
        have E1_1 : V23.cell? ⟨V22.heap.size, 1, none⟩ = some (.int .i64 0) := cell_of_row _ _ _ _ _ _ E1.out
        have E1_2 : V23.cell? ⟨V22.heap.size, 2, none⟩ = some (.int .i64 0) := cell_of_row _ _ _ _ _ _ E1.out
        have zE1 := lt_of_heap E1.out
        go_simp
        go_wp2
        go_ret
        exact ⟨rfl, by first | exact B23.out | exact B23.out.alloc B23.out.size _⟩
      · rw [decide_eq_false hs] at X5
        have H5 := Lib.hid X5
        replace h0 := Lib.hid h0
        clear X5
        
        go_wp2_with fail
        refine (H5.out _).mono ?_
        rintro e V21 ⟨rfl, hb21⟩
        have B21 : Hid (Below w.heap.size w V21) := by first | exact Lib.hid ((B20.out).trans (hb21.mono (by have := B20.out.size; first | assumption | (simp <;> omega) | (simp; done)))) | exact Lib.hid (((B20.out).alloc (B20.out.size) _).trans (hb21.mono (by have := B20.out.size; first | assumption | (simp <;> omega) | (simp; done)))) | exact Lib.hid ((((B20.out).alloc (B20.out.size) _).alloc (by have := B20.out.size; simp <;> omega) _).trans (hb21.mono (by have := B20.out.size; first | assumption | (simp <;> omega) | (simp; done)))) | exact Lib.hid (((((B20.out).alloc (B20.out.size) _).alloc (by have := B20.out.size; simp <;> omega) _).alloc (by have := B20.out.size; simp <;> omega) _).trans (hb21.mono (by have := B20.out.size; first | assumption | (simp <;> omega) | (simp; done))))
        clear hb21
        go_simp
        go_wp2_with fail
        refine (H7.out _ (by first | exact tw_keep hM (B21.out) | exact tw_keep hM ((B21.out).alloc (B21.out.size) _) | exact tw_keep hM (((B21.out).alloc (B21.out.size) _).alloc (by have := B21.out.size; simp <;> omega) _) | exact tw_keep hM ((((B21.out).alloc (B21.out.size) _).alloc (by have := B21.out.size; simp <;> omega) _).alloc (by have := B21.out.size; simp <;> omega) _))).mono ?_
        rintro e V22 ⟨rfl, hb22⟩
        have B22 : Hid (Below w.heap.size w V22) := by first | exact Lib.hid ((B21.out).trans (hb22.mono (by have := B21.out.size; first | assumption | (simp <;> omega) | (simp; done)))) | exact Lib.hid (((B21.out).alloc (B21.out.size) _).trans (hb22.mono (by have := B21.out.size; first | assumption | (simp <;> omega) | (simp; done)))) | exact Lib.hid ((((B21.out).alloc (B21.out.size) _).alloc (by have := B21.out.size; simp <;> omega) _).trans (hb22.mono (by have := B21.out.size; first | assumption | (simp <;> omega) | (simp; done)))) | exact Lib.hid (((((B21.out).alloc (B21.out.size) _).alloc (by have := B21.out.size; simp <;> omega) _).alloc (by have := B21.out.size; simp <;> omega) _).trans (hb22.mono (by have := B21.out.size; first | assumption | (simp <;> omega) | (simp; done))))
        clear hb22
        go_simp
        go_wp2
        go_ret
        exact ⟨rfl, by first | exact B22.out | exact B22.out.alloc B22.out.size _⟩
theorem wordsWeekdays_walk (a b : Int) (T : List UInt8) (hT : T.length ≤ 9223372036854775807) (w : World) (hM : TW w) : Calls Tryd.prog 7 #[.int .i64 a, .int .i64 b, .string (bs T)] w fun e w' => e = .returned (.bool true) ∧ Below w.heap.size w w' := by
  have h1 := u_mod a 7 (by decide)
  have h2 := u_mod b 31 (by decide)
  by_cases h : 10 ≤ (IntKind.u64.wrap b).tmod 31 + 1
  · exact wkd_walk2 a b T hT _ _ rfl h1.1 h1.2 (by omega) (by omega) (by omega) h w hM
  · exact wkd_walk1 a b T hT _ _ rfl h1.1 h1.2 (by omega) (by omega) (by omega) h w hM
theorem wordsNumbersS_walk (s : ByteArray) (lo hi : Int) (hs : s.size ≤ 9223372036854775807) (w : World) (hM : TW w) : Calls Tryd.prog 3 #[.string s, .int .i64 lo, .int .i64 hi] w fun e w' => e = .returned (.bool true) ∧ Below w.heap.size w w' := by
  have h := wordsNumbers_walk s.data.toList lo hi (by rw [size_toList]; omega) w hM
  rwa [bs_of] at h
theorem wordsTimesS_walk (s : ByteArray) (hs : s.size ≤ 9223372036854775807) (w : World) (hM : TW w) : Calls Tryd.prog 4 #[.string s] w fun e w' => e = .returned (.bool true) ∧ Below w.heap.size w w' := by
  have h := wordsTimes_walk s.data.toList (by rw [size_toList]; omega) w hM
  rwa [bs_of] at h
theorem wordsDaysS_walk (s : ByteArray) (hs : s.size ≤ 9223372036854775807) (w : World) (hM : TW w) : Calls Tryd.prog 5 #[.string s] w fun e w' => e = .returned (.bool true) ∧ Below w.heap.size w w' := by
  have h := wordsDays_walk s.data.toList (by rw [size_toList]; omega) w hM
  rwa [bs_of] at h
theorem wordsWeekdaysS_walk (a b : Int) (s : ByteArray) (hs : s.size ≤ 9223372036854775807) (w : World) (hM : TW w) : Calls Tryd.prog 7 #[.int .i64 a, .int .i64 b, .string s] w fun e w' => e = .returned (.bool true) ∧ Below w.heap.size w w' := by
  have h := wordsWeekdays_walk a b s.data.toList (by rw [size_toList]; omega) w hM
  rwa [bs_of] at h
end Go.Proofs.YtlbeolialpmnmaaDoor
