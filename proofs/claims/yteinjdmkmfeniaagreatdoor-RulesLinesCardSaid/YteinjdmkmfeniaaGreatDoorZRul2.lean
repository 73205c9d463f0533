/- Several texts in one: RulL, RulN, RulO. -/
import Derived.Test.YteinjdmkmfeniaaGreatDoorZRul1
import Derived.Test.YteinjdmkmfeniaaGreatDoorZRp2
import Derived.Test.YteinjdmkmfeniaaGreatDoorZRp4
import Derived.Test.YteinjdmkmfeniaaGreatDoorZRp5
namespace Go.Proofs.YteinjdmkmfeniaaGreatDoor
set_option linter.unusedVariables false
set_option linter.unusedSimpArgs false
open Go.ChangeShapes Go.WideShapes Go.ChangeAt Go.RowKit
theorem rd_nil (w : World) : Rd w none [] := fun j u h => by simp at h
theorem rd2_keep {w w' : World} {A B : Option Addr} {xs ys : List Value} (h : Hid (KX w ∧ Rd w A xs ∧ Rd w B ys)) (hb : Below w.heap.size w w') : KX w' ∧ Rd w' A xs ∧ Rd w' B ys := ⟨kx_keep (Lib.hid h.out.1) hb, h.out.2.1.below hb (Nat.le_refl _), h.out.2.2.below hb (Nat.le_refl _)⟩
set_option maxHeartbeats 3200000 in
set_option maxRecDepth 100000 in
theorem awake15_any (w : World) (hK : KX w) : Calls Tryz.prog 6 #[] w fun e w' => e = .returned (.bool true) ∧ Below w.heap.size w w' := by
  have hck : ckP landZ = 0 := (ckP_zero landZ).2 land_ok
  have hsh : shQ landZ = landL := by unfold shQ; rw [if_pos hck]; exact land_shw
  have z1 : bs landL = ⟨#[122, 111, 110, 101, 32, 77, 105, 100, 47, 76, 97, 110, 100, 10, 98, 97, 115, 101, 32, 43, 48, 49, 58, 48, 48, 32, 67, 69, 84, 10, 114, 117, 108, 101, 32, 49, 57, 57, 54, 32, 111, 110, 32, 109, 97, 114, 32, 108, 97, 115, 116, 45, 115, 117, 110, 32, 48, 49, 58, 48, 48, 32, 43, 48, 48, 58, 48, 48, 32, 43, 48, 50, 58, 48, 48, 32, 100, 115, 116, 32, 67, 69, 83, 84, 10, 114, 117, 108, 101, 32, 49, 57, 57, 54, 32, 111, 110, 32, 111, 99, 116, 32, 108, 97, 115, 116, 45, 115, 117, 110, 32, 48, 49, 58, 48, 48, 32, 43, 48, 48, 58, 48, 48, 32, 43, 48, 49, 58, 48, 48, 32, 115, 116, 100, 32, 67, 69, 84, 10]⟩ := by unfold bs; rfl
  have z2 : bs oddZ = ⟨#[122, 111, 110, 101, 32, 65, 10, 114, 117, 108, 101, 32, 49, 32, 111, 110, 32, 106, 97, 110, 32, 49, 32, 48, 48, 58, 48, 48, 32, 43, 48, 48, 58, 48, 48, 32, 43, 48, 48, 58, 48, 48, 32, 115, 116, 100, 32, 65]⟩ := by unfold bs; rfl
  have l3 : (bs landL).toList = [122, 111, 110, 101, 32, 77, 105, 100, 47, 76, 97, 110, 100, 10, 98, 97, 115, 101, 32, 43, 48, 49, 58, 48, 48, 32, 67, 69, 84, 10, 114, 117, 108, 101, 32, 49, 57, 57, 54, 32, 111, 110, 32, 109, 97, 114, 32, 108, 97, 115, 116, 45, 115, 117, 110, 32, 48, 49, 58, 48, 48, 32, 43, 48, 48, 58, 48, 48, 32, 43, 48, 50, 58, 48, 48, 32, 100, 115, 116, 32, 67, 69, 83, 84, 10, 114, 117, 108, 101, 32, 49, 57, 57, 54, 32, 111, 110, 32, 111, 99, 116, 32, 108, 97, 115, 116, 45, 115, 117, 110, 32, 48, 49, 58, 48, 48, 32, 43, 48, 48, 58, 48, 48, 32, 43, 48, 49, 58, 48, 48, 32, 115, 116, 100, 32, 67, 69, 84, 10] := bs_list _
  have l4 : (bs midL).toList = [77, 105, 100, 47, 76, 97, 110, 100] := bs_list _
  have X1 : ∀ w, KX w → Calls Tryz.prog 8 #[.string (bs landL)] w fun e w' => ∃ (A : Option Addr) (c : Nat), e = .returned (.tuple #[.agg #[.string (bs midL), .int .i64 3600, .bool false, .string (bs [67, 69, 84]), .slice A 2 c], .int .i64 0, .int .i64 0]) ∧ Rd w' A (linVs landZ.lns) ∧ Below w.heap.size w w' := by
    intro w hK; have := pRuParse_any landL land_len w hK; rw [land_prs] at this; exact this
  have X2 : ∀ (A : Option Addr) (c : Nat) w, KX w → Rd w A (linVs landZ.lns) → Calls Tryz.prog 7 #[.agg #[.string (bs midL), .int .i64 3600, .bool false, .string (bs [67, 69, 84]), .slice A 2 c]] w fun e w' => e = .returned (.tuple #[.string (bs landL), .int .i64 0]) ∧ Below w.heap.size w w' := by
    intro A c w hK h; have := pRuShow_any landZ A c w hK h (SB.of land_ok); rw [hck, hsh] at this; exact this
  have X3 : ∀ w, KX w → Calls Tryz.prog 8 #[.string (bs oddZ)] w fun e w' => ∃ (A : Option Addr) (c : Nat), e = .returned (.tuple #[.agg #[.string (bs []), .int .i64 0, .bool false, .string (bs []), .slice A 0 c], .int .i64 2, .int .i64 2]) ∧ Rd w' A (linVs []) ∧ Below w.heap.size w w' := by
    intro w hK; have := pRuParse_any oddZ (by decide) w hK; rw [odd_prs] at this; exact this
  rw [z1] at X1
  rw [z2] at X3
  have H1 := Lib.hid X1
  have H2 := Lib.hid X2
  have H3 := Lib.hid X3
  clear X1 X2 X3 z1 z2 hck hsh
  generalize bs landL = S at *
  generalize bs midL = M at *
  generalize bs [67, 69, 84] = K at *
  generalize bs [] = Z at *
  replace hK := Lib.hid hK
  go_enter Tryz.func6, Tryz.ntmps6
  go_wp2_with fail
  refine (H1.out _ hK.out).mono ?_
  rintro e w1 ⟨A, c, rfl, hR, hb1⟩
  obtain ⟨b, o, rfl, hb, hc⟩ := hR.lin (k := 0) (by decide)
  have k3 : w1.cell? ⟨b, o + 3, none⟩ = some (.int .i64 1048576) := by have := (hc 0 (by decide)).2.2.2.1; simpa [landZ] using this
  have hM := Lib.hid (And.intro (kx_keep hK hb1) (And.intro hR hR))
  have K3 := Lib.hid k3
  have H4 := Lib.hid (fun w (h : KX w ∧ Rd w (some ⟨b, o, none⟩) (linVs landZ.lns) ∧ Rd w (some ⟨b, o, none⟩) (linVs landZ.lns)) => H2.out (some ⟨b, o, none⟩) c w h.1 h.2.1)
  replace hb1 := Lib.hid hb1
  clear hR hc k3 H2
  go_simp
  go_wp2_with fail
  
  refine (H4.out _ (by first | exact rd2_keep hM ((Below.refl w1.heap.size w1).alloc (Nat.le_refl _) _))).mono ?_
  rintro e V1 ⟨rfl, hb1⟩
  have B1 := Lib.hid (((Below.refl w1.heap.size w1).alloc (Nat.le_refl _) _).trans (hb1.mono (by first | assumption | (simp <;> omega) | (simp; done))))
  have X1 := Lib.hid (row_call hb1 (heap_alloc_new _ _))
  clear hb1
  have X1_0 : V1.cell? ⟨w1.heap.size, 0, none⟩ = some (.string M) := cell_of_row _ _ _ _ _ _ X1.out
  have X1_1 : V1.cell? ⟨w1.heap.size, 1, none⟩ = some (.int .i64 3600) := cell_of_row _ _ _ _ _ _ X1.out
  have X1_2 : V1.cell? ⟨w1.heap.size, 2, none⟩ = some (.bool false) := cell_of_row _ _ _ _ _ _ X1.out
  have X1_3 : V1.cell? ⟨w1.heap.size, 3, none⟩ = some (.string K) := cell_of_row _ _ _ _ _ _ X1.out
  have X1_4 : V1.cell? ⟨w1.heap.size, 4, none⟩ = some (.slice (some ⟨b,o,none⟩) 2 c) := cell_of_row _ _ _ _ _ _ X1.out
  have zX1 := lt_of_heap X1.out
  go_simp
  go_wp2_with fail
  refine (H3.out _ (rd2_keep hM B1.out).1).mono ?_
  rintro e w9 ⟨A2, c2, rfl, -, hb9⟩
  have y1 : w1.heap.size < V1.heap.size := zX1
  have y2 := B1.out.size
  have x0 : w9.cell? ⟨w1.heap.size, 0, none⟩ = some (.string M) := (hb9.cell (p := ⟨w1.heap.size, 0, none⟩) y1).trans X1_0
  have x4 : w9.cell? ⟨w1.heap.size, 4, none⟩ = some (.slice (some ⟨b, o, none⟩) 2 c) := (hb9.cell (p := ⟨w1.heap.size, 4, none⟩) y1).trans X1_4
  have k3 : w9.cell? ⟨b, o + 3, none⟩ = some (.int .i64 1048576) := (hb9.cell (p := ⟨b, o + 3, none⟩) (by show b < V1.heap.size; omega)).trans ((B1.out.cell (p := ⟨b, o + 3, none⟩) hb).trans K3.out)
  have HB : Hid (Below w.heap.size w w9) := Lib.hid ((hb1.out.trans (B1.out.mono hb1.out.size)).trans (hb9.mono (Nat.le_trans hb1.out.size y2)))
  have y3 := hb9.size
  have y4 : w1.heap.size < w9.heap.size := by omega
  have y5 : b < w9.heap.size := by omega
  have y6 : ¬ (w1.heap.size = w9.heap.size) := by omega
  have y7 : ¬ (b = w9.heap.size) := by omega
  clear hb9 X1_0 X1_1 X1_2 X1_3 X1_4 X1 hM y1 y2 y3
  go_simp
  go_wp2
  go_ret
  exact ⟨rfl, HB.out.alloc HB.out.size _⟩
set_option maxHeartbeats 3200000 in
set_option maxRecDepth 100000 in
theorem rb_ok (N Ab S : ByteArray) (o : Int) (d : Bool) (n : Nat) (A : Option Addr) (c : Nat) (xs : List Value) (hn : n ≤ 1000)
    (H1 : Hid (∀ w, (KX w ∧ Rd w A xs ∧ Rd w A xs) → Calls Tryz.prog 7 #[.agg #[.string N, .int .i64 o, .bool d, .string Ab, .slice A n c]] w fun e w' => e = .returned (.tuple #[.string S, .int .i64 0]) ∧ Below w.heap.size w w'))
    (H2 : Hid (∀ w, KX w → Calls Tryz.prog 8 #[.string S] w fun e w' => ∃ (B : Option Addr) (c2 : Nat), e = .returned (.tuple #[.agg #[.string N, .int .i64 o, .bool d, .string Ab, .slice B n c2], .int .i64 0, .int .i64 0]) ∧ Rd w' B xs ∧ Below w.heap.size w w'))
    (H3 : Hid (∀ B c2 w, (KX w ∧ Rd w B xs ∧ Rd w A xs) → Calls Tryz.prog 9 #[.agg #[.string N, .int .i64 o, .bool d, .string Ab, .slice B n c2], .agg #[.string N, .int .i64 o, .bool d, .string Ab, .slice A n c]] w fun e w' => e = .returned (.bool true) ∧ Below w.heap.size w w'))
    (w : World) (hM : Hid (KX w ∧ Rd w A xs ∧ Rd w A xs)) : Calls Tryz.prog 3 #[.agg #[.string N, .int .i64 o, .bool d, .string Ab, .slice A n c]] w fun e w' => e = .returned (.bool true) ∧ Below w.heap.size w w' := by
  have f1 : decide ((1000 : Int) < n) = false := decide_eq_false (by omega)
  go_enter Tryz.func3, Tryz.ntmps3
  go_wp2_with fail
  
  refine (H1.out _ (by first | exact rd2_keep hM ((Below.refl w.heap.size w).alloc (Nat.le_refl _) _))).mono ?_
  rintro e V1 ⟨rfl, hb1⟩
  have B1 := Lib.hid (((Below.refl w.heap.size w).alloc (Nat.le_refl _) _).trans (hb1.mono (by first | assumption | (simp <;> omega) | (simp; done))))
  have A1 := Lib.hid (row_call hb1 (heap_alloc_new _ _))
  clear hb1
  have A1_0 : V1.cell? ⟨w.heap.size, 0, none⟩ = some (.string N) := cell_of_row _ _ _ _ _ _ A1.out
  have A1_1 : V1.cell? ⟨w.heap.size, 1, none⟩ = some (.int .i64 o) := cell_of_row _ _ _ _ _ _ A1.out
  have A1_2 : V1.cell? ⟨w.heap.size, 2, none⟩ = some (.bool d) := cell_of_row _ _ _ _ _ _ A1.out
  have A1_3 : V1.cell? ⟨w.heap.size, 3, none⟩ = some (.string Ab) := cell_of_row _ _ _ _ _ _ A1.out
  have A1_4 : V1.cell? ⟨w.heap.size, 4, none⟩ = some (.slice A n c) := cell_of_row _ _ _ _ _ _ A1.out
  have zA1 := lt_of_heap A1.out
  go_simp
  go_wp2_with fail
  refine (H2.out _ (rd2_keep hM B1.out).1).mono ?_
  rintro e w9 ⟨B, c2, rfl, hR2, hb9⟩
  have HB : Hid (Below w.heap.size w w9) := Lib.hid (B1.out.trans (hb9.mono B1.out.size))
  have A9 : Hid (w9.heap[w.heap.size]? = _) := Lib.hid (row_call hb9 A1.out)
  replace hM : Hid (KX w9 ∧ Rd w9 B xs ∧ Rd w9 A xs) := Lib.hid ⟨(rd2_keep hM HB.out).1, hR2, hM.out.2.1.below HB.out (Nat.le_refl _)⟩
  have HK := Lib.hid (fun w (h : KX w ∧ Rd w B xs ∧ Rd w A xs) => awake15_any w h.1)
  have H4 := Lib.hid (H3.out B c2)
  clear hR2 hb9 A1 B1 H3 H2 H1 A1_0 A1_1 A1_2 A1_3 A1_4
  
  have A9_0 : w9.cell? ⟨w.heap.size, 0, none⟩ = some (.string N) := cell_of_row _ _ _ _ _ _ A9.out
  have A9_1 : w9.cell? ⟨w.heap.size, 1, none⟩ = some (.int .i64 o) := cell_of_row _ _ _ _ _ _ A9.out
  have A9_2 : w9.cell? ⟨w.heap.size, 2, none⟩ = some (.bool d) := cell_of_row _ _ _ _ _ _ A9.out
  have A9_3 : w9.cell? ⟨w.heap.size, 3, none⟩ = some (.string Ab) := cell_of_row _ _ _ _ _ _ A9.out
  have A9_4 : w9.cell? ⟨w.heap.size, 4, none⟩ = some (.slice A n c) := cell_of_row _ _ _ _ _ _ A9.out
  have zA9 := lt_of_heap A9.out
  go_simp
  go_wp2_with fail
  refine (H4.out _ (by first | exact rd2_keep hM ((Below.refl w9.heap.size w9).alloc (Nat.le_refl _) _))).mono ?_
  rintro e V1 ⟨rfl, hb1⟩
  clear A9_0 A9_1 A9_2 A9_3 A9_4 zA9
  have nA9X1 := Lib.hid (lt_of_heap A9.out)
  have B1 := Lib.hid (((Below.refl w9.heap.size w9).alloc (Nat.le_refl _) _).trans (hb1.mono (by first | assumption | (simp <;> omega) | (simp; done))))
  replace A9 := Lib.hid (row_call hb1 (row_alloc A9.out _))
  have X1 := Lib.hid (row_call hb1 (heap_alloc_new _ _))
  clear hb1
  have A9_0 : V1.cell? ⟨w.heap.size, 0, none⟩ = some (.string N) := cell_of_row _ _ _ _ _ _ A9.out
  have A9_1 : V1.cell? ⟨w.heap.size, 1, none⟩ = some (.int .i64 o) := cell_of_row _ _ _ _ _ _ A9.out
  have A9_2 : V1.cell? ⟨w.heap.size, 2, none⟩ = some (.bool d) := cell_of_row _ _ _ _ _ _ A9.out
  have A9_3 : V1.cell? ⟨w.heap.size, 3, none⟩ = some (.string Ab) := cell_of_row _ _ _ _ _ _ A9.out
  have A9_4 : V1.cell? ⟨w.heap.size, 4, none⟩ = some (.slice A n c) := cell_of_row _ _ _ _ _ _ A9.out
  have X1_0 : V1.cell? ⟨w9.heap.size, 0, none⟩ = some (.string N) := cell_of_row _ _ _ _ _ _ X1.out
  have X1_1 : V1.cell? ⟨w9.heap.size, 1, none⟩ = some (.int .i64 o) := cell_of_row _ _ _ _ _ _ X1.out
  have X1_2 : V1.cell? ⟨w9.heap.size, 2, none⟩ = some (.bool d) := cell_of_row _ _ _ _ _ _ X1.out
  have X1_3 : V1.cell? ⟨w9.heap.size, 3, none⟩ = some (.string Ab) := cell_of_row _ _ _ _ _ _ X1.out
  have X1_4 : V1.cell? ⟨w9.heap.size, 4, none⟩ = some (.slice B n c2) := cell_of_row _ _ _ _ _ _ X1.out
  have zA9 := lt_of_heap A9.out
  have zX1 := lt_of_heap X1.out
  go_simp
  go_wp2_with fail
  refine (HK.out _ (by first | exact rd2_keep hM (B1.out) | exact rd2_keep hM ((B1.out).alloc (B1.out.size) _) | exact rd2_keep hM (((B1.out).alloc (B1.out.size) _).alloc (by have := B1.out.size; simp <;> omega) _) | exact rd2_keep hM ((((B1.out).alloc (B1.out.size) _).alloc (by have := B1.out.size; simp <;> omega) _).alloc (by have := B1.out.size; simp <;> omega) _))).mono ?_
  rintro e V2 ⟨rfl, hb2⟩
  clear A9_0 A9_1 A9_2 A9_3 A9_4 zA9 X1_0 X1_1 X1_2 X1_3 X1_4 zX1
  have B2 : Hid (Below w9.heap.size w9 V2) := by first | exact Lib.hid ((B1.out).trans (hb2.mono (by have := B1.out.size; first | assumption | (simp <;> omega) | (simp; done)))) | exact Lib.hid (((B1.out).alloc (B1.out.size) _).trans (hb2.mono (by have := B1.out.size; first | assumption | (simp <;> omega) | (simp; done)))) | exact Lib.hid ((((B1.out).alloc (B1.out.size) _).alloc (by have := B1.out.size; simp <;> omega) _).trans (hb2.mono (by have := B1.out.size; first | assumption | (simp <;> omega) | (simp; done)))) | exact Lib.hid (((((B1.out).alloc (B1.out.size) _).alloc (by have := B1.out.size; simp <;> omega) _).alloc (by have := B1.out.size; simp <;> omega) _).trans (hb2.mono (by have := B1.out.size; first | assumption | (simp <;> omega) | (simp; done))))
  first | replace A9 := Lib.hid (row_call hb2 A9.out) | replace A9 := Lib.hid (row_call hb2 (row_alloc A9.out _)) | replace A9 := Lib.hid (row_call hb2 (row_alloc (row_alloc A9.out _) _)) | replace A9 := Lib.hid (row_call hb2 (row_alloc (row_alloc (row_alloc A9.out _) _) _))
  first | replace X1 := Lib.hid (row_call hb2 X1.out) | replace X1 := Lib.hid (row_call hb2 (row_alloc X1.out _)) | replace X1 := Lib.hid (row_call hb2 (row_alloc (row_alloc X1.out _) _)) | replace X1 := Lib.hid (row_call hb2 (row_alloc (row_alloc (row_alloc X1.out _) _) _))
  clear hb2
  have A9_0 : V2.cell? ⟨w.heap.size, 0, none⟩ = some (.string N) := cell_of_row _ _ _ _ _ _ A9.out
  have A9_1 : V2.cell? ⟨w.heap.size, 1, none⟩ = some (.int .i64 o) := cell_of_row _ _ _ _ _ _ A9.out
  have A9_2 : V2.cell? ⟨w.heap.size, 2, none⟩ = some (.bool d) := cell_of_row _ _ _ _ _ _ A9.out
  have A9_3 : V2.cell? ⟨w.heap.size, 3, none⟩ = some (.string Ab) := cell_of_row _ _ _ _ _ _ A9.out
  have A9_4 : V2.cell? ⟨w.heap.size, 4, none⟩ = some (.slice A n c) := cell_of_row _ _ _ _ _ _ A9.out
  have X1_0 : V2.cell? ⟨w9.heap.size, 0, none⟩ = some (.string N) := cell_of_row _ _ _ _ _ _ X1.out
  have X1_1 : V2.cell? ⟨w9.heap.size, 1, none⟩ = some (.int .i64 o) := cell_of_row _ _ _ _ _ _ X1.out
  have X1_2 : V2.cell? ⟨w9.heap.size, 2, none⟩ = some (.bool d) := cell_of_row _ _ _ _ _ _ X1.out
  have X1_3 : V2.cell? ⟨w9.heap.size, 3, none⟩ = some (.string Ab) := cell_of_row _ _ _ _ _ _ X1.out
  have X1_4 : V2.cell? ⟨w9.heap.size, 4, none⟩ = some (.slice B n c2) := cell_of_row _ _ _ _ _ _ X1.out
  have zA9 := lt_of_heap A9.out
  have zX1 := lt_of_heap X1.out
  go_simp
  go_wp2
  go_ret
  exact ⟨rfl, HB.out.trans (B2.out.mono HB.out.size)⟩
set_option maxHeartbeats 3200000 in
set_option maxRecDepth 100000 in
theorem rb_no (N Ab S : ByteArray) (o E : Int) (d : Bool) (n : Nat) (A : Option Addr) (c : Nat) (xs : List Value) (hn : n ≤ 1000) (hE : (E != 0) = true) (hS : S = ⟨#[]⟩)
    (H1 : Hid (∀ w, (KX w ∧ Rd w A xs ∧ Rd w A xs) → Calls Tryz.prog 7 #[.agg #[.string N, .int .i64 o, .bool d, .string Ab, .slice A n c]] w fun e w' => e = .returned (.tuple #[.string S, .int .i64 E]) ∧ Below w.heap.size w w'))
    (w : World) (hM : Hid (KX w ∧ Rd w A xs ∧ Rd w A xs)) : Calls Tryz.prog 3 #[.agg #[.string N, .int .i64 o, .bool d, .string Ab, .slice A n c]] w fun e w' => e = .returned (.bool true) ∧ Below w.heap.size w w' := by
  subst hS
  have HK := Lib.hid (fun w (h : KX w ∧ Rd w A xs ∧ Rd w A xs) => awake15_any w h.1)
  have f1 : decide ((1000 : Int) < n) = false := decide_eq_false (by omega)
  go_enter Tryz.func3, Tryz.ntmps3
  go_wp2_with fail
  
  refine (H1.out _ (by first | exact rd2_keep hM ((Below.refl w.heap.size w).alloc (Nat.le_refl _) _))).mono ?_
  rintro e V1 ⟨rfl, hb1⟩
  have B1 := Lib.hid (((Below.refl w.heap.size w).alloc (Nat.le_refl _) _).trans (hb1.mono (by first | assumption | (simp <;> omega) | (simp; done))))
  have A1 := Lib.hid (row_call hb1 (heap_alloc_new _ _))
  clear hb1
  have A1_0 : V1.cell? ⟨w.heap.size, 0, none⟩ = some (.string N) := cell_of_row _ _ _ _ _ _ A1.out
  have A1_1 : V1.cell? ⟨w.heap.size, 1, none⟩ = some (.int .i64 o) := cell_of_row _ _ _ _ _ _ A1.out
  have A1_2 : V1.cell? ⟨w.heap.size, 2, none⟩ = some (.bool d) := cell_of_row _ _ _ _ _ _ A1.out
  have A1_3 : V1.cell? ⟨w.heap.size, 3, none⟩ = some (.string Ab) := cell_of_row _ _ _ _ _ _ A1.out
  have A1_4 : V1.cell? ⟨w.heap.size, 4, none⟩ = some (.slice A n c) := cell_of_row _ _ _ _ _ _ A1.out
  have zA1 := lt_of_heap A1.out
  go_simp
  go_wp2_with fail
  refine (HK.out _ (by first | exact rd2_keep hM (B1.out) | exact rd2_keep hM ((B1.out).alloc (B1.out.size) _) | exact rd2_keep hM (((B1.out).alloc (B1.out.size) _).alloc (by have := B1.out.size; simp <;> omega) _) | exact rd2_keep hM ((((B1.out).alloc (B1.out.size) _).alloc (by have := B1.out.size; simp <;> omega) _).alloc (by have := B1.out.size; simp <;> omega) _))).mono ?_
  rintro e V2 ⟨rfl, hb2⟩
  clear A1_0 A1_1 A1_2 A1_3 A1_4 zA1
  have B2 : Hid (Below w.heap.size w V2) := by first | exact Lib.hid ((B1.out).trans (hb2.mono (by have := B1.out.size; first | assumption | (simp <;> omega) | (simp; done)))) | exact Lib.hid (((B1.out).alloc (B1.out.size) _).trans (hb2.mono (by have := B1.out.size; first | assumption | (simp <;> omega) | (simp; done)))) | exact Lib.hid ((((B1.out).alloc (B1.out.size) _).alloc (by have := B1.out.size; simp <;> omega) _).trans (hb2.mono (by have := B1.out.size; first | assumption | (simp <;> omega) | (simp; done)))) | exact Lib.hid (((((B1.out).alloc (B1.out.size) _).alloc (by have := B1.out.size; simp <;> omega) _).alloc (by have := B1.out.size; simp <;> omega) _).trans (hb2.mono (by have := B1.out.size; first | assumption | (simp <;> omega) | (simp; done))))
  first | replace A1 := Lib.hid (row_call hb2 A1.out) | replace A1 := Lib.hid (row_call hb2 (row_alloc A1.out _)) | replace A1 := Lib.hid (row_call hb2 (row_alloc (row_alloc A1.out _) _)) | replace A1 := Lib.hid (row_call hb2 (row_alloc (row_alloc (row_alloc A1.out _) _) _))
  clear hb2
  have A1_0 : V2.cell? ⟨w.heap.size, 0, none⟩ = some (.string N) := cell_of_row _ _ _ _ _ _ A1.out
  have A1_1 : V2.cell? ⟨w.heap.size, 1, none⟩ = some (.int .i64 o) := cell_of_row _ _ _ _ _ _ A1.out
  have A1_2 : V2.cell? ⟨w.heap.size, 2, none⟩ = some (.bool d) := cell_of_row _ _ _ _ _ _ A1.out
  have A1_3 : V2.cell? ⟨w.heap.size, 3, none⟩ = some (.string Ab) := cell_of_row _ _ _ _ _ _ A1.out
  have A1_4 : V2.cell? ⟨w.heap.size, 4, none⟩ = some (.slice A n c) := cell_of_row _ _ _ _ _ _ A1.out
  have zA1 := lt_of_heap A1.out
  go_simp
  go_wp2
  go_ret
  exact ⟨rfl, by first | exact B2.out | exact B2.out.alloc B2.out.size _⟩
set_option maxHeartbeats 3200000 in
set_option maxRecDepth 100000 in
theorem rb_big (N Ab : ByteArray) (o : Int) (d : Bool) (n : Nat) (A : Option Addr) (c : Nat) (xs : List Value) (hn : 1000 < n) (w : World) (hM : Hid (KX w ∧ Rd w A xs ∧ Rd w A xs)) : Calls Tryz.prog 3 #[.agg #[.string N, .int .i64 o, .bool d, .string Ab, .slice A n c]] w fun e w' => e = .returned (.bool true) ∧ Below w.heap.size w w' := by
  have HK := Lib.hid (fun w (h : KX w ∧ Rd w A xs ∧ Rd w A xs) => awake15_any w h.1)
  have f1 : decide ((1000 : Int) < n) = true := decide_eq_true (by omega)
  go_enter Tryz.func3, Tryz.ntmps3
  go_wp2_with fail
  
  refine (HK.out _ (by first | exact rd2_keep hM ((Below.refl w.heap.size w).alloc (Nat.le_refl _) _))).mono ?_
  rintro e V1 ⟨rfl, hb1⟩
  have B1 := Lib.hid (((Below.refl w.heap.size w).alloc (Nat.le_refl _) _).trans (hb1.mono (by first | assumption | (simp <;> omega) | (simp; done))))
  have A1 := Lib.hid (row_call hb1 (heap_alloc_new _ _))
  clear hb1
  have A1_0 : V1.cell? ⟨w.heap.size, 0, none⟩ = some (.string N) := cell_of_row _ _ _ _ _ _ A1.out
  have A1_1 : V1.cell? ⟨w.heap.size, 1, none⟩ = some (.int .i64 o) := cell_of_row _ _ _ _ _ _ A1.out
  have A1_2 : V1.cell? ⟨w.heap.size, 2, none⟩ = some (.bool d) := cell_of_row _ _ _ _ _ _ A1.out
  have A1_3 : V1.cell? ⟨w.heap.size, 3, none⟩ = some (.string Ab) := cell_of_row _ _ _ _ _ _ A1.out
  have A1_4 : V1.cell? ⟨w.heap.size, 4, none⟩ = some (.slice A n c) := cell_of_row _ _ _ _ _ _ A1.out
  have zA1 := lt_of_heap A1.out
  go_simp
  go_wp2
  go_ret
  exact ⟨rfl, by first | exact B1.out | exact B1.out.alloc B1.out.size _⟩
theorem rulesBack_walk (z : Src) (A : Option Addr) (c : Nat) (w : World) (hR : Rd w A (linVs z.lns)) (hS : SB z) (hK : KX w) : Calls Tryz.prog 3 #[.agg #[.string (bs z.nam), .int .i64 z.off, .bool z.dst, .string (bs z.abb), .slice A z.lns.length c]] w fun e w' => e = .returned (.bool true) ∧ Below w.heap.size w w' := by
  by_cases hb : 1000 < z.lns.length
  · exact rb_big _ _ _ _ _ A c (linVs z.lns) hb w (Lib.hid ⟨hK, hR, hR⟩)
  · by_cases hz : ckP z = 0
    · have hok := (ckP_zero z).1 hz
      have hs : shQ z = shwR z := if_pos hz
      refine rb_ok _ _ (bs (shwR z)) _ _ _ A c (linVs z.lns) (by omega) (Lib.hid fun w h => ?_) (Lib.hid fun w h => ?_) (Lib.hid fun B c2 w h => ?_) w (Lib.hid ⟨hK, hR, hR⟩)
      · have := pRuShow_any z A c w h.1 h.2.1 hS
        rw [hz, hs] at this
        exact this
      · have := pRuParse_any (shwR z) (shw_len hok) w h
        rw [prs_shw hok] at this
        exact this
      · exact rSame_any z B A c2 c w (by have := (pl_nam hok.2.2.1).2; omega) (by omega) h.2.1 h.2.2
    · have hs : shQ z = [] := if_neg hz
      refine rb_no _ _ (bs []) _ (ckP z) _ _ A c (linVs z.lns) (by omega) (by rw [bne_iff_ne]; exact hz) (by unfold bs; rfl) (Lib.hid fun w h => ?_) w (Lib.hid ⟨hK, hR, hR⟩)
      have := pRuShow_any z A c w h.1 h.2.1 hS
      rw [hs] at this
      exact this
end Go.Proofs.YteinjdmkmfeniaaGreatDoor
namespace Go.Proofs.YteinjdmkmfeniaaGreatDoor
set_option linter.unusedVariables false
set_option linter.unusedSimpArgs false
open Go.ChangeShapes Go.WideShapes Go.ChangeAt Go.RowKit
set_option maxHeartbeats 3200000 in
set_option maxRecDepth 100000 in
theorem ra_ok (L N Ab S : ByteArray) (o : Int) (d : Bool) (n : Nat) (xs : List Value)
    (H1 : Hid (∀ w, KX w → Calls Tryz.prog 8 #[.string L] w fun e w' => ∃ (B : Option Addr) (c2 : Nat), e = .returned (.tuple #[.agg #[.string N, .int .i64 o, .bool d, .string Ab, .slice B n c2], .int .i64 0, .int .i64 0]) ∧ Rd w' B xs ∧ Below w.heap.size w w'))
    (H2 : Hid (∀ A c w, (KX w ∧ Rd w A xs ∧ Rd w A xs) → Calls Tryz.prog 7 #[.agg #[.string N, .int .i64 o, .bool d, .string Ab, .slice A n c]] w fun e w' => e = .returned (.tuple #[.string S, .int .i64 0]) ∧ Below w.heap.size w w'))
    (H3 : Hid (∀ w, KX w → Calls Tryz.prog 8 #[.string S] w fun e w' => ∃ (B : Option Addr) (c2 : Nat), e = .returned (.tuple #[.agg #[.string N, .int .i64 o, .bool d, .string Ab, .slice B n c2], .int .i64 0, .int .i64 0]) ∧ Rd w' B xs ∧ Below w.heap.size w w'))
    (H5 : Hid (∀ A c B c2 w, (KX w ∧ Rd w B xs ∧ Rd w A xs) → Calls Tryz.prog 9 #[.agg #[.string N, .int .i64 o, .bool d, .string Ab, .slice B n c2], .agg #[.string N, .int .i64 o, .bool d, .string Ab, .slice A n c]] w fun e w' => e = .returned (.bool true) ∧ Below w.heap.size w w'))
    (H6 : Hid (∀ A c B w, (KX w ∧ Rd w B xs ∧ Rd w A xs) → Calls Tryz.prog 10 #[.agg #[.string N, .int .i64 o, .bool d, .string Ab, .slice A n c]] w fun e w' => e = .returned (.int .i64 0) ∧ Below w.heap.size w w'))
    (w : World) (hK : KX w) : Calls Tryz.prog 4 #[.string L] w fun e w' => e = .returned (.bool true) ∧ Below w.heap.size w w' := by
  replace hK := Lib.hid hK
  go_enter Tryz.func4, Tryz.ntmps4
  go_wp2_with fail
  refine (H1.out _ hK.out).mono ?_
  rintro e w1 ⟨A, c, rfl, hR, hb1⟩
  have hM := Lib.hid (And.intro (kx_keep hK hb1) (And.intro hR hR))
  have H4 := Lib.hid (H2.out A c)
  replace hb1 := Lib.hid hb1
  clear hR H1 H2
  go_simp
  go_wp2_with fail
  
  refine (H4.out _ (by first | exact rd2_keep hM ((Below.refl w1.heap.size w1).alloc (Nat.le_refl _) _))).mono ?_
  rintro e V1 ⟨rfl, hb1⟩
  have B1 := Lib.hid (((Below.refl w1.heap.size w1).alloc (Nat.le_refl _) _).trans (hb1.mono (by first | assumption | (simp <;> omega) | (simp; done))))
  have X1 := Lib.hid (row_call hb1 (heap_alloc_new _ _))
  clear hb1
  have X1_0 : V1.cell? ⟨w1.heap.size, 0, none⟩ = some (.string N) := cell_of_row _ _ _ _ _ _ X1.out
  have X1_1 : V1.cell? ⟨w1.heap.size, 1, none⟩ = some (.int .i64 o) := cell_of_row _ _ _ _ _ _ X1.out
  have X1_2 : V1.cell? ⟨w1.heap.size, 2, none⟩ = some (.bool d) := cell_of_row _ _ _ _ _ _ X1.out
  have X1_3 : V1.cell? ⟨w1.heap.size, 3, none⟩ = some (.string Ab) := cell_of_row _ _ _ _ _ _ X1.out
  have X1_4 : V1.cell? ⟨w1.heap.size, 4, none⟩ = some (.slice A n c) := cell_of_row _ _ _ _ _ _ X1.out
  have zX1 := lt_of_heap X1.out
  go_simp
  go_wp2_with fail
  refine (H3.out _ (rd2_keep hM B1.out).1).mono ?_
  rintro e w9 ⟨B, c2, rfl, hR2, hb9⟩
  have HB : Hid (Below w1.heap.size w1 w9) := Lib.hid (B1.out.trans (hb9.mono B1.out.size))
  have A9 : Hid (w9.heap[w1.heap.size]? = _) := Lib.hid (row_call hb9 X1.out)
  replace hM : Hid (KX w9 ∧ Rd w9 B xs ∧ Rd w9 A xs) := Lib.hid ⟨(rd2_keep hM HB.out).1, hR2, hM.out.2.1.below HB.out (Nat.le_refl _)⟩
  have HK := Lib.hid (fun w (h : KX w ∧ Rd w B xs ∧ Rd w A xs) => awake15_any w h.1)
  have H7 := Lib.hid (H5.out A c B c2)
  have H8 := Lib.hid (H6.out A c B)
  clear hR2 hb9 X1 B1 H3 H4 H5 H6 X1_0 X1_1 X1_2 X1_3 X1_4
  
  have A9_0 : w9.cell? ⟨w1.heap.size, 0, none⟩ = some (.string N) := cell_of_row _ _ _ _ _ _ A9.out
  have A9_1 : w9.cell? ⟨w1.heap.size, 1, none⟩ = some (.int .i64 o) := cell_of_row _ _ _ _ _ _ A9.out
  have A9_2 : w9.cell? ⟨w1.heap.size, 2, none⟩ = some (.bool d) := cell_of_row _ _ _ _ _ _ A9.out
  have A9_3 : w9.cell? ⟨w1.heap.size, 3, none⟩ = some (.string Ab) := cell_of_row _ _ _ _ _ _ A9.out
  have A9_4 : w9.cell? ⟨w1.heap.size, 4, none⟩ = some (.slice A n c) := cell_of_row _ _ _ _ _ _ A9.out
  have zA9 := lt_of_heap A9.out
  go_simp
  go_wp2_with fail
  refine (H7.out _ (by first | exact rd2_keep hM ((Below.refl w9.heap.size w9).alloc (Nat.le_refl _) _))).mono ?_
  rintro e V1 ⟨rfl, hb1⟩
  clear A9_0 A9_1 A9_2 A9_3 A9_4 zA9
  have nA9Y1 := Lib.hid (lt_of_heap A9.out)
  have B1 := Lib.hid (((Below.refl w9.heap.size w9).alloc (Nat.le_refl _) _).trans (hb1.mono (by first | assumption | (simp <;> omega) | (simp; done))))
  replace A9 := Lib.hid (row_call hb1 (row_alloc A9.out _))
  have Y1 := Lib.hid (row_call hb1 (heap_alloc_new _ _))
  clear hb1
  have A9_0 : V1.cell? ⟨w1.heap.size, 0, none⟩ = some (.string N) := cell_of_row _ _ _ _ _ _ A9.out
  have A9_1 : V1.cell? ⟨w1.heap.size, 1, none⟩ = some (.int .i64 o) := cell_of_row _ _ _ _ _ _ A9.out
  have A9_2 : V1.cell? ⟨w1.heap.size, 2, none⟩ = some (.bool d) := cell_of_row _ _ _ _ _ _ A9.out
  have A9_3 : V1.cell? ⟨w1.heap.size, 3, none⟩ = some (.string Ab) := cell_of_row _ _ _ _ _ _ A9.out
  have A9_4 : V1.cell? ⟨w1.heap.size, 4, none⟩ = some (.slice A n c) := cell_of_row _ _ _ _ _ _ A9.out
  have Y1_0 : V1.cell? ⟨w9.heap.size, 0, none⟩ = some (.string N) := cell_of_row _ _ _ _ _ _ Y1.out
  have Y1_1 : V1.cell? ⟨w9.heap.size, 1, none⟩ = some (.int .i64 o) := cell_of_row _ _ _ _ _ _ Y1.out
  have Y1_2 : V1.cell? ⟨w9.heap.size, 2, none⟩ = some (.bool d) := cell_of_row _ _ _ _ _ _ Y1.out
  have Y1_3 : V1.cell? ⟨w9.heap.size, 3, none⟩ = some (.string Ab) := cell_of_row _ _ _ _ _ _ Y1.out
  have Y1_4 : V1.cell? ⟨w9.heap.size, 4, none⟩ = some (.slice B n c2) := cell_of_row _ _ _ _ _ _ Y1.out
  have zA9 := lt_of_heap A9.out
  have zY1 := lt_of_heap Y1.out
  go_simp
  go_wp2_with fail
  refine (H8.out _ (by first | exact rd2_keep hM (B1.out) | exact rd2_keep hM ((B1.out).alloc (B1.out.size) _) | exact rd2_keep hM (((B1.out).alloc (B1.out.size) _).alloc (by have := B1.out.size; simp <;> omega) _) | exact rd2_keep hM ((((B1.out).alloc (B1.out.size) _).alloc (by have := B1.out.size; simp <;> omega) _).alloc (by have := B1.out.size; simp <;> omega) _))).mono ?_
  rintro e V2 ⟨rfl, hb2⟩
  clear A9_0 A9_1 A9_2 A9_3 A9_4 zA9 Y1_0 Y1_1 Y1_2 Y1_3 Y1_4 zY1
  have B2 : Hid (Below w9.heap.size w9 V2) := by first | exact Lib.hid ((B1.out).trans (hb2.mono (by have := B1.out.size; first | assumption | (simp <;> omega) | (simp; done)))) | exact Lib.hid (((B1.out).alloc (B1.out.size) _).trans (hb2.mono (by have := B1.out.size; first | assumption | (simp <;> omega) | (simp; done)))) | exact Lib.hid ((((B1.out).alloc (B1.out.size) _).alloc (by have := B1.out.size; simp <;> omega) _).trans (hb2.mono (by have := B1.out.size; first | assumption | (simp <;> omega) | (simp; done)))) | exact Lib.hid (((((B1.out).alloc (B1.out.size) _).alloc (by have := B1.out.size; simp <;> omega) _).alloc (by have := B1.out.size; simp <;> omega) _).trans (hb2.mono (by have := B1.out.size; first | assumption | (simp <;> omega) | (simp; done))))
  first | replace A9 := Lib.hid (row_call hb2 A9.out) | replace A9 := Lib.hid (row_call hb2 (row_alloc A9.out _)) | replace A9 := Lib.hid (row_call hb2 (row_alloc (row_alloc A9.out _) _)) | replace A9 := Lib.hid (row_call hb2 (row_alloc (row_alloc (row_alloc A9.out _) _) _))
  first | replace Y1 := Lib.hid (row_call hb2 Y1.out) | replace Y1 := Lib.hid (row_call hb2 (row_alloc Y1.out _)) | replace Y1 := Lib.hid (row_call hb2 (row_alloc (row_alloc Y1.out _) _)) | replace Y1 := Lib.hid (row_call hb2 (row_alloc (row_alloc (row_alloc Y1.out _) _) _))
  clear hb2
  have A9_0 : V2.cell? ⟨w1.heap.size, 0, none⟩ = some (.string N) := cell_of_row _ _ _ _ _ _ A9.out
  have A9_1 : V2.cell? ⟨w1.heap.size, 1, none⟩ = some (.int .i64 o) := cell_of_row _ _ _ _ _ _ A9.out
  have A9_2 : V2.cell? ⟨w1.heap.size, 2, none⟩ = some (.bool d) := cell_of_row _ _ _ _ _ _ A9.out
  have A9_3 : V2.cell? ⟨w1.heap.size, 3, none⟩ = some (.string Ab) := cell_of_row _ _ _ _ _ _ A9.out
  have A9_4 : V2.cell? ⟨w1.heap.size, 4, none⟩ = some (.slice A n c) := cell_of_row _ _ _ _ _ _ A9.out
  have Y1_0 : V2.cell? ⟨w9.heap.size, 0, none⟩ = some (.string N) := cell_of_row _ _ _ _ _ _ Y1.out
  have Y1_1 : V2.cell? ⟨w9.heap.size, 1, none⟩ = some (.int .i64 o) := cell_of_row _ _ _ _ _ _ Y1.out
  have Y1_2 : V2.cell? ⟨w9.heap.size, 2, none⟩ = some (.bool d) := cell_of_row _ _ _ _ _ _ Y1.out
  have Y1_3 : V2.cell? ⟨w9.heap.size, 3, none⟩ = some (.string Ab) := cell_of_row _ _ _ _ _ _ Y1.out
  have Y1_4 : V2.cell? ⟨w9.heap.size, 4, none⟩ = some (.slice B n c2) := cell_of_row _ _ _ _ _ _ Y1.out
  have zA9 := lt_of_heap A9.out
  have zY1 := lt_of_heap Y1.out
  go_simp
  go_wp2_with fail
  refine (HK.out _ (by first | exact rd2_keep hM (B2.out) | exact rd2_keep hM ((B2.out).alloc (B2.out.size) _) | exact rd2_keep hM (((B2.out).alloc (B2.out.size) _).alloc (by have := B2.out.size; simp <;> omega) _) | exact rd2_keep hM ((((B2.out).alloc (B2.out.size) _).alloc (by have := B2.out.size; simp <;> omega) _).alloc (by have := B2.out.size; simp <;> omega) _))).mono ?_
  rintro e V3 ⟨rfl, hb3⟩
  clear A9_0 A9_1 A9_2 A9_3 A9_4 zA9 Y1_0 Y1_1 Y1_2 Y1_3 Y1_4 zY1
  have B3 : Hid (Below w9.heap.size w9 V3) := by first | exact Lib.hid ((B2.out).trans (hb3.mono (by have := B2.out.size; first | assumption | (simp <;> omega) | (simp; done)))) | exact Lib.hid (((B2.out).alloc (B2.out.size) _).trans (hb3.mono (by have := B2.out.size; first | assumption | (simp <;> omega) | (simp; done)))) | exact Lib.hid ((((B2.out).alloc (B2.out.size) _).alloc (by have := B2.out.size; simp <;> omega) _).trans (hb3.mono (by have := B2.out.size; first | assumption | (simp <;> omega) | (simp; done)))) | exact Lib.hid (((((B2.out).alloc (B2.out.size) _).alloc (by have := B2.out.size; simp <;> omega) _).alloc (by have := B2.out.size; simp <;> omega) _).trans (hb3.mono (by have := B2.out.size; first | assumption | (simp <;> omega) | (simp; done))))
  first | replace A9 := Lib.hid (row_call hb3 A9.out) | replace A9 := Lib.hid (row_call hb3 (row_alloc A9.out _)) | replace A9 := Lib.hid (row_call hb3 (row_alloc (row_alloc A9.out _) _)) | replace A9 := Lib.hid (row_call hb3 (row_alloc (row_alloc (row_alloc A9.out _) _) _))
  first | replace Y1 := Lib.hid (row_call hb3 Y1.out) | replace Y1 := Lib.hid (row_call hb3 (row_alloc Y1.out _)) | replace Y1 := Lib.hid (row_call hb3 (row_alloc (row_alloc Y1.out _) _)) | replace Y1 := Lib.hid (row_call hb3 (row_alloc (row_alloc (row_alloc Y1.out _) _) _))
  clear hb3
  have A9_0 : V3.cell? ⟨w1.heap.size, 0, none⟩ = some (.string N) := cell_of_row _ _ _ _ _ _ A9.out
  have A9_1 : V3.cell? ⟨w1.heap.size, 1, none⟩ = some (.int .i64 o) := cell_of_row _ _ _ _ _ _ A9.out
  have A9_2 : V3.cell? ⟨w1.heap.size, 2, none⟩ = some (.bool d) := cell_of_row _ _ _ _ _ _ A9.out
  have A9_3 : V3.cell? ⟨w1.heap.size, 3, none⟩ = some (.string Ab) := cell_of_row _ _ _ _ _ _ A9.out
  have A9_4 : V3.cell? ⟨w1.heap.size, 4, none⟩ = some (.slice A n c) := cell_of_row _ _ _ _ _ _ A9.out
  have Y1_0 : V3.cell? ⟨w9.heap.size, 0, none⟩ = some (.string N) := cell_of_row _ _ _ _ _ _ Y1.out
  have Y1_1 : V3.cell? ⟨w9.heap.size, 1, none⟩ = some (.int .i64 o) := cell_of_row _ _ _ _ _ _ Y1.out
  have Y1_2 : V3.cell? ⟨w9.heap.size, 2, none⟩ = some (.bool d) := cell_of_row _ _ _ _ _ _ Y1.out
  have Y1_3 : V3.cell? ⟨w9.heap.size, 3, none⟩ = some (.string Ab) := cell_of_row _ _ _ _ _ _ Y1.out
  have Y1_4 : V3.cell? ⟨w9.heap.size, 4, none⟩ = some (.slice B n c2) := cell_of_row _ _ _ _ _ _ Y1.out
  have zA9 := lt_of_heap A9.out
  have zY1 := lt_of_heap Y1.out
  go_simp
  go_wp2
  go_ret
  exact ⟨rfl, hb1.out.trans ((HB.out.trans (B3.out.mono HB.out.size)).mono hb1.out.size)⟩
set_option maxHeartbeats 3200000 in
set_option maxRecDepth 100000 in
theorem ra_no (L : ByteArray) (E k : Int) (hE : (E != 0) = true)
    (H1 : Hid (∀ w, KX w → Calls Tryz.prog 8 #[.string L] w fun e w' => ∃ (B : Option Addr) (c2 : Nat), e = .returned (.tuple #[.agg #[.string ⟨#[]⟩, .int .i64 0, .bool false, .string ⟨#[]⟩, .slice B 0 c2], .int .i64 k, .int .i64 E]) ∧ Below w.heap.size w w'))
    (w : World) (hK : KX w) : Calls Tryz.prog 4 #[.string L] w fun e w' => e = .returned (.bool true) ∧ Below w.heap.size w w' := by
  replace hK := Lib.hid hK
  go_enter Tryz.func4, Tryz.ntmps4
  go_wp2_with fail
  refine (H1.out _ hK.out).mono ?_
  rintro e w1 ⟨A, c, rfl, hb1⟩
  have hM := Lib.hid (And.intro (kx_keep hK hb1) (And.intro (rd_nil w1) (rd_nil w1)))
  have HK := Lib.hid (fun w (h : KX w ∧ Rd w none [] ∧ Rd w none []) => awake15_any w h.1)
  replace hb1 := Lib.hid hb1
  clear H1
  go_simp
  go_wp2_with fail
  
  refine (HK.out _ (by first | exact rd2_keep hM ((Below.refl w1.heap.size w1).alloc (Nat.le_refl _) _))).mono ?_
  rintro e V1 ⟨rfl, hb1⟩
  have B1 := Lib.hid (((Below.refl w1.heap.size w1).alloc (Nat.le_refl _) _).trans (hb1.mono (by first | assumption | (simp <;> omega) | (simp; done))))
  have X1 := Lib.hid (row_call hb1 (heap_alloc_new _ _))
  clear hb1
  have X1_0 : V1.cell? ⟨w1.heap.size, 0, none⟩ = some (.string ⟨#[]⟩) := cell_of_row _ _ _ _ _ _ X1.out
  have X1_1 : V1.cell? ⟨w1.heap.size, 1, none⟩ = some (.int .i64 0) := cell_of_row _ _ _ _ _ _ X1.out
  have X1_2 : V1.cell? ⟨w1.heap.size, 2, none⟩ = some (.bool false) := cell_of_row _ _ _ _ _ _ X1.out
  have X1_3 : V1.cell? ⟨w1.heap.size, 3, none⟩ = some (.string ⟨#[]⟩) := cell_of_row _ _ _ _ _ _ X1.out
  have X1_4 : V1.cell? ⟨w1.heap.size, 4, none⟩ = some (.slice A 0 c) := cell_of_row _ _ _ _ _ _ X1.out
  have zX1 := lt_of_heap X1.out
  go_simp
  go_wp2
  go_ret
  exact ⟨rfl, hb1.out.trans (B1.out.mono hb1.out.size)⟩
theorem rulesAgain_walk (s : ByteArray) (hs : s.size ≤ 9223372036854775807) (w : World) (hK : KX w) : Calls Tryz.prog 4 #[.string s] w fun e w' => e = .returned (.bool true) ∧ Below w.heap.size w w' := by
  have hs2 := bs_of s
  have X1 := pRuParse_any s.data.toList (by rw [size_toList]; exact hs)
  rw [hs2] at X1
  by_cases he : (prsR s.data.toList).2.2 = 0
  · obtain ⟨hok, hk, _⟩ := prs_in he
    rw [he, hk] at X1
    have h16 := hok.1
    have hn := (pl_nam hok.2.2.1).2
    have hz := (ckP_zero _).2 hok
    have hsx : shQ (prsR s.data.toList).1 = shwR (prsR s.data.toList).1 := if_pos hz
    have hp := prs_shw hok
    generalize (prsR s.data.toList).1 = z at *
    refine ra_ok s (bs z.nam) (bs z.abb) (bs (shwR z)) z.off z.dst z.lns.length (linVs z.lns) (Lib.hid X1) (Lib.hid fun A c w h => ?_) (Lib.hid fun w h => ?_) (Lib.hid fun A c B c2 w h => ?_) (Lib.hid fun A c B w h => ?_) w hK
    · have := pRuShow_any z A c w h.1 h.2.1 (SB.of hok)
      rw [hz, hsx] at this
      exact this
    · have := pRuParse_any (shwR z) (shw_len hok) w h
      rw [hp] at this
      exact this
    · exact rSame_any z B A c2 c w (by omega) (by omega) h.2.1 h.2.2
    · have := pRuCheck_any z A c w h.1 h.2.2 (SB.of hok)
      rw [hz] at this
      exact this
  · have hz := prs_no he
    rw [hz] at X1
    refine ra_no s _ (prsR s.data.toList).2.1 (by rw [bne_iff_ne]; exact he) (Lib.hid fun w h => (X1 w h).mono ?_) w hK
    rintro e w' ⟨A, c, rfl, _, hb⟩
    exact ⟨A, c, by unfold src0; simp only [List.length_nil]; rw [show bs [] = ⟨#[]⟩ by unfold bs; rfl], hb⟩
end Go.Proofs.YteinjdmkmfeniaaGreatDoor
namespace Go.Proofs.YteinjdmkmfeniaaGreatDoor
set_option linter.unusedVariables false
set_option linter.unusedSimpArgs false
open Go.ChangeShapes Go.WideShapes Go.ChangeAt Go.RowKit
theorem ended_len (L : List UInt8) : (endedL L).length ≤ L.length + 1 := by unfold endedL; split <;> simp
set_option maxHeartbeats 3200000 in
set_option maxRecDepth 100000 in
theorem rl_no (L M : List UInt8) (N Ab : ByteArray) (o k E : Int) (d : Bool) (n : Nat) (hE : (E != 0) = true) (h2 : (0 : Int) = 0) (h3 : (0 : Int) = 0)
    (H1 : Hid (∀ w, KX w → Calls Tryz.prog 8 #[.string (bs L)] w fun e w' => ∃ (B : Option Addr) (c2 : Nat), e = .returned (.tuple #[.agg #[.string N, .int .i64 o, .bool d, .string Ab, .slice B n c2], .int .i64 k, .int .i64 E]) ∧ Below w.heap.size w w'))
    (w : World) (hK : KX w) : Calls Tryz.prog 5 #[.string (bs L), .string (bs M)] w fun e w' => e = .returned (.bool true) ∧ Below w.heap.size w w' := by
  replace hK := Lib.hid hK
  have hS := bs_size L
  have hSM := bs_size M
  try subst hE
  go_enter Tryz.func5, Tryz.ntmps5
  go_wp2_with fail
  refine (H1.out _ hK.out).mono ?_
  rintro e w1 ⟨A, c, rfl, hb1⟩
  have hM := Lib.hid (And.intro (kx_keep hK hb1) (And.intro (rd_nil w1) (rd_nil w1)))
  have HK := Lib.hid (fun w (h : KX w ∧ Rd w none [] ∧ Rd w none []) => awake15_any w h.1)
  replace hb1 := Lib.hid hb1
  clear H1
  go_simp
  go_wp2_with fail
  
  refine (HK.out _ (by first | exact rd2_keep hM ((Below.refl w1.heap.size w1).alloc (Nat.le_refl _) _))).mono ?_
  rintro e V1 ⟨rfl, hb1⟩
  have B1 := Lib.hid (((Below.refl w1.heap.size w1).alloc (Nat.le_refl _) _).trans (hb1.mono (by first | assumption | (simp <;> omega) | (simp; done))))
  have X1 := Lib.hid (row_call hb1 (heap_alloc_new _ _))
  clear hb1
  have X1_0 : V1.cell? ⟨w1.heap.size, 0, none⟩ = some (.string N) := cell_of_row _ _ _ _ _ _ X1.out
  have X1_1 : V1.cell? ⟨w1.heap.size, 1, none⟩ = some (.int .i64 o) := cell_of_row _ _ _ _ _ _ X1.out
  have X1_2 : V1.cell? ⟨w1.heap.size, 2, none⟩ = some (.bool d) := cell_of_row _ _ _ _ _ _ X1.out
  have X1_3 : V1.cell? ⟨w1.heap.size, 3, none⟩ = some (.string Ab) := cell_of_row _ _ _ _ _ _ X1.out
  have X1_4 : V1.cell? ⟨w1.heap.size, 4, none⟩ = some (.slice A n c) := cell_of_row _ _ _ _ _ _ X1.out
  have zX1 := lt_of_heap X1.out
  go_simp
  go_wp2
  go_ret
  exact ⟨rfl, hb1.out.trans (B1.out.mono hb1.out.size)⟩
set_option maxHeartbeats 3200000 in
set_option maxRecDepth 100000 in
theorem rl_long1 (L M : List UInt8) (N Ab : ByteArray) (o k E : Int) (d : Bool) (n : Nat) (hE : E = 0) (h2 : 2000 < L.length) (h3 : (0 : Int) = 0)
    (H1 : Hid (∀ w, KX w → Calls Tryz.prog 8 #[.string (bs L)] w fun e w' => ∃ (B : Option Addr) (c2 : Nat), e = .returned (.tuple #[.agg #[.string N, .int .i64 o, .bool d, .string Ab, .slice B n c2], .int .i64 k, .int .i64 E]) ∧ Below w.heap.size w w'))
    (w : World) (hK : KX w) : Calls Tryz.prog 5 #[.string (bs L), .string (bs M)] w fun e w' => e = .returned (.bool true) ∧ Below w.heap.size w w' := by
  replace hK := Lib.hid hK
  have hS := bs_size L
  have hSM := bs_size M
  try subst hE
  go_enter Tryz.func5, Tryz.ntmps5
  go_wp2_with fail
  refine (H1.out _ hK.out).mono ?_
  rintro e w1 ⟨A, c, rfl, hb1⟩
  have hM := Lib.hid (And.intro (kx_keep hK hb1) (And.intro (rd_nil w1) (rd_nil w1)))
  have HK := Lib.hid (fun w (h : KX w ∧ Rd w none [] ∧ Rd w none []) => awake15_any w h.1)
  replace hb1 := Lib.hid hb1
  clear H1
  go_simp
  go_wp2_with fail
  
  refine (HK.out _ (by first | exact rd2_keep hM ((Below.refl w1.heap.size w1).alloc (Nat.le_refl _) _))).mono ?_
  rintro e V1 ⟨rfl, hb1⟩
  have B1 := Lib.hid (((Below.refl w1.heap.size w1).alloc (Nat.le_refl _) _).trans (hb1.mono (by first | assumption | (simp <;> omega) | (simp; done))))
  have X1 := Lib.hid (row_call hb1 (heap_alloc_new _ _))
  clear hb1
  have X1_0 : V1.cell? ⟨w1.heap.size, 0, none⟩ = some (.string N) := cell_of_row _ _ _ _ _ _ X1.out
  have X1_1 : V1.cell? ⟨w1.heap.size, 1, none⟩ = some (.int .i64 o) := cell_of_row _ _ _ _ _ _ X1.out
  have X1_2 : V1.cell? ⟨w1.heap.size, 2, none⟩ = some (.bool d) := cell_of_row _ _ _ _ _ _ X1.out
  have X1_3 : V1.cell? ⟨w1.heap.size, 3, none⟩ = some (.string Ab) := cell_of_row _ _ _ _ _ _ X1.out
  have X1_4 : V1.cell? ⟨w1.heap.size, 4, none⟩ = some (.slice A n c) := cell_of_row _ _ _ _ _ _ X1.out
  have zX1 := lt_of_heap X1.out
  go_simp
  go_wp2
  go_ret
  exact ⟨rfl, hb1.out.trans (B1.out.mono hb1.out.size)⟩
set_option maxHeartbeats 3200000 in
set_option maxRecDepth 100000 in
theorem rl_long2 (L M : List UInt8) (N Ab : ByteArray) (o k E : Int) (d : Bool) (n : Nat) (hE : E = 0) (h2 : ¬ 2000 < L.length) (h3 : 100 < M.length)
    (H1 : Hid (∀ w, KX w → Calls Tryz.prog 8 #[.string (bs L)] w fun e w' => ∃ (B : Option Addr) (c2 : Nat), e = .returned (.tuple #[.agg #[.string N, .int .i64 o, .bool d, .string Ab, .slice B n c2], .int .i64 k, .int .i64 E]) ∧ Below w.heap.size w w'))
    (w : World) (hK : KX w) : Calls Tryz.prog 5 #[.string (bs L), .string (bs M)] w fun e w' => e = .returned (.bool true) ∧ Below w.heap.size w w' := by
  replace hK := Lib.hid hK
  have hS := bs_size L
  have hSM := bs_size M
  try subst hE
  go_enter Tryz.func5, Tryz.ntmps5
  go_wp2_with fail
  refine (H1.out _ hK.out).mono ?_
  rintro e w1 ⟨A, c, rfl, hb1⟩
  have hM := Lib.hid (And.intro (kx_keep hK hb1) (And.intro (rd_nil w1) (rd_nil w1)))
  have HK := Lib.hid (fun w (h : KX w ∧ Rd w none [] ∧ Rd w none []) => awake15_any w h.1)
  replace hb1 := Lib.hid hb1
  clear H1
  go_simp
  go_wp2_with fail
  
  refine (HK.out _ (by first | exact rd2_keep hM ((Below.refl w1.heap.size w1).alloc (Nat.le_refl _) _))).mono ?_
  rintro e V1 ⟨rfl, hb1⟩
  have B1 := Lib.hid (((Below.refl w1.heap.size w1).alloc (Nat.le_refl _) _).trans (hb1.mono (by first | assumption | (simp <;> omega) | (simp; done))))
  have X1 := Lib.hid (row_call hb1 (heap_alloc_new _ _))
  clear hb1
  have X1_0 : V1.cell? ⟨w1.heap.size, 0, none⟩ = some (.string N) := cell_of_row _ _ _ _ _ _ X1.out
  have X1_1 : V1.cell? ⟨w1.heap.size, 1, none⟩ = some (.int .i64 o) := cell_of_row _ _ _ _ _ _ X1.out
  have X1_2 : V1.cell? ⟨w1.heap.size, 2, none⟩ = some (.bool d) := cell_of_row _ _ _ _ _ _ X1.out
  have X1_3 : V1.cell? ⟨w1.heap.size, 3, none⟩ = some (.string Ab) := cell_of_row _ _ _ _ _ _ X1.out
  have X1_4 : V1.cell? ⟨w1.heap.size, 4, none⟩ = some (.slice A n c) := cell_of_row _ _ _ _ _ _ X1.out
  have zX1 := lt_of_heap X1.out
  go_simp
  go_wp2
  go_ret
  exact ⟨rfl, hb1.out.trans (B1.out.mono hb1.out.size)⟩
theorem nlN_take {L : List UInt8} {k : Nat} (h : k < L.length) : nlN (L.take (k + 1)) = nlN (L.take k) + if L[k].toNat = 10 then 1 else 0 := by
  rw [take_snoc h]
  unfold nlN
  rw [List.countP_append]
  by_cases hc : L[k].toNat = 10 <;> simp [hc]
theorem nlN_le (L : List UInt8) : nlN L ≤ L.length := List.countP_le_length
set_option maxHeartbeats 6400000 in
set_option maxRecDepth 100000 in
theorem rl_main (L M : List UInt8) (N Ab : ByteArray) (o : Int) (d : Bool) (n : Nat) (hL0 : 0 < L.length) (hL : L.length ≤ 2000) (hM : M.length ≤ 100)
    (H1 : Hid (∀ w, KX w → Calls Tryz.prog 8 #[.string (bs L)] w fun e w' => ∃ (B : Option Addr) (c2 : Nat), e = .returned (.tuple #[.agg #[.string N, .int .i64 o, .bool d, .string Ab, .slice B n c2], .int .i64 0, .int .i64 0]) ∧ Below w.heap.size w w'))
    (H9 : Hid ((∀ c ∈ M, oneB c) → ∀ w, KX w → Calls Tryz.prog 8 #[.string (bs (endedL L ++ (oddW ++ [32] ++ M ++ [10])))] w fun e w' => ∃ (B : Option Addr) (c2 : Nat), e = .returned (.tuple #[.agg #[.string ⟨#[]⟩, .int .i64 0, .bool false, .string ⟨#[]⟩, .slice B 0 c2], .int .i64 (1 + (nlN (endedL L) : Int)), .int .i64 (if 16 ≤ n then 1 else 2)]) ∧ Below w.heap.size w w'))
    (w : World) (hK : KX w) : Calls Tryz.prog 5 #[.string (bs L), .string (bs M)] w fun e w' => e = .returned (.bool true) ∧ Below w.heap.size w w' := by
  have H7 := Lib.hid awake15_any
  have hS := bs_size L
  have hSM := bs_size M
  have q1 : decide (2000 < (L.length : Int)) = false := decide_eq_false (by omega)
  have q2 : decide (100 < (M.length : Int)) = false := decide_eq_false (by omega)
  replace hK := Lib.hid hK
  go_enter Tryz.func5, Tryz.ntmps5
  go_wp2_with fail
  refine (H1.out _ hK.out).mono ?_
  rintro e w1 ⟨A, c, rfl, hb1⟩
  replace hb1 := Lib.hid hb1
  clear H1
  go_simp
  go_wp2
  go_loop [8] (fun i => ∃ k : Nat, k ≤ M.length ∧ i = .int .i64 (k : Int) ∧ ∀ c ∈ M.take k, oneB c) (fun i => M.length - (intOf i).toNat)
  case atStart => exact ⟨0, by omega, rfl, by simp⟩
  case round =>
    obtain ⟨k, hk, rfl, hall⟩ := hrel
    by_cases hlt : k < M.length
    · obtain ⟨x, hc⟩ : ∃ c : Nat, M[k].toNat = c := ⟨_, rfl⟩
      have hb := byte_bs M k hlt (by rw [hSM]; exact hlt) hc
      have hex : (x < 32 ∨ (¬ x < 32 ∧ 126 < x) ∨ (¬ x < 32 ∧ ¬ 126 < x ∧ x = 35)) ∨ (¬ x < 32 ∧ ¬ 126 < x ∧ x ≠ 35) := by omega
      rcases hex with hex | ⟨e1, e2, e3⟩
      · replace hc := Lib.hid hc
        replace hall := Lib.hid hall
        rcases hex with e1 | ⟨e1, e2⟩ | ⟨e1, e2, rfl⟩
        all_goals
          go_wp2_with fail
          refine (H7.out _ (kx_keep hK (hb1.out.alloc hb1.out.size _))).mono ?_
          rintro e w2 ⟨rfl, hb2⟩
          have HB : Hid (Below w.heap.size w w2) := Lib.hid ((hb1.out.alloc hb1.out.size _).trans (hb2.mono (by have := hb1.out.size; simp; omega)))
          clear hb2
          go_wp2
          go_ret
          exact ⟨rfl, HB.out⟩
      · have E : Hid (∀ c ∈ M.take (k + 1), oneB c) := Lib.hid (by
          intro c hc'
          rw [take_snoc hlt] at hc'
          rcases List.mem_append.1 hc' with h | h
          · exact hall c h
          · rw [List.mem_singleton.1 h]; unfold oneB; omega)
        have e4 : ((x : Int) == 35) = false := beq_eq_false_iff_ne.2 (by omega)
        replace hc := Lib.hid hc
        replace hall := Lib.hid hall
        go_wp2
        go_round
        case rel => exact ⟨k + 1, by omega, by go_num, E.out⟩
        case measure => simp [intOf]; omega
    · obtain rfl : k = M.length := by omega
      rw [List.take_length] at hall
      have H8 := Lib.hid (H9.out hall)
      clear H9 hall
      have hnl : ∀ k, k ≤ L.length → nlN (L.take k) ≤ 2000 := fun k hk => by have := nlN_le (L.take k); simp at this; omega
      go_wp2
      go_loop [9, 10] (fun l i => ∃ k : Nat, k ≤ L.length ∧ i = .int .i64 (k : Int) ∧ l = .int .i64 (1 + (nlN (L.take k) : Int))) (fun _ i => L.length - (intOf i).toNat)
      case atStart => exact ⟨0, by omega, rfl, rfl⟩
      case round =>
        obtain ⟨k, hk, rfl, rfl⟩ := hrel
        have hnk := hnl k hk
        by_cases hlt : k < L.length
        · obtain ⟨x, hc⟩ : ∃ c : Nat, L[k].toNat = c := ⟨_, rfl⟩
          have hb := byte_bs L k hlt (by rw [hS]; exact hlt) hc
          have E : Hid (nlN (L.take (k + 1)) = nlN (L.take k) + if x = 10 then 1 else 0) := Lib.hid (by rw [nlN_take hlt, hc])
          generalize nlN (L.take k) = N0 at *
          replace hc := Lib.hid hc
          by_cases h10 : x = 10
          · subst h10
            go_wp2
            go_round
            case rel => exact ⟨k + 1, by omega, by go_num, by rw [E.out, if_pos rfl]; go_num⟩
            case measure => simp [intOf]; omega
          · have b1 : ((x : Int) == 10) = false := beq_eq_false_iff_ne.2 (by omega)
            go_wp2
            go_round
            case rel => exact ⟨k + 1, by omega, by go_num, by rw [E.out, if_neg h10]; go_num⟩
            case measure => simp [intOf]; omega
        · obtain rfl : k = L.length := by omega
          rw [List.take_length]
          rw [List.take_length] at hnk
          obtain ⟨K, hKl⟩ : ∃ K, L.length = K + 1 := ⟨L.length - 1, by omega⟩
          obtain ⟨x, hx⟩ : ∃ c : Nat, (L[K]'(by omega)).toNat = c := ⟨_, rfl⟩
          have hb := byte_bs L K (by omega) (by rw [hS]; omega) hx
          have hlst : L.getLast? = some (L[K]'(by omega)) := by rw [List.getLast?_eq_getElem?, show L.length - 1 = K by omega]; exact List.getElem?_eq_getElem _
          clear hlt hk hnl
          rw [hKl] at hS q1 hL hL0
          by_cases h10 : x = 10
          · have hen : endedL L = L := by
              unfold endedL
              rw [if_pos]
              rw [hlst]
              have : L[K]'(by omega) = 10 := UInt8.toNat_inj.1 (by rw [hx, h10]; rfl)
              rw [this]
            rw [hen] at H8
            have ht : bs L ++ ⟨#[111, 100, 100, 119, 111, 114, 100, 32]⟩ ++ bs M ++ ⟨#[10]⟩ = bs (L ++ (oddW ++ [32] ++ M ++ [10])) := by
              rw [lit_bs15 #[111, 100, 100, 119, 111, 114, 100, 32], lit_bs15 #[10], append_bs, append_bs, append_bs]
              congr 1
              simp [oddW]
            rw [← ht] at H8
            clear ht hen
            go_wp2_with fail
            refine (H8.out _ (kx_keep hK (hb1.out.alloc hb1.out.size _))).mono ?_
            rintro e w2 ⟨B, c2, rfl, hb2⟩
            have r1 := row_new hb2
            have k4 : w2.cell? ⟨w1.heap.size, 4, none⟩ = some (.slice A n c) := row_cellA r1 4
            have y1 : w1.heap.size < w2.heap.size := lt_of_heap r1
            have HB2 : Hid (Below w.heap.size w w2) := Lib.hid ((hb1.out.alloc hb1.out.size _).trans (hb2.mono (by have := hb1.out.size; simp; omega)))
            clear hb2 r1 H8
            by_cases h16 : 16 ≤ n
            · rw [if_pos h16]
              have f1 : decide ((16 : Int) ≤ n) = true := decide_eq_true (by omega)
              go_simp
              go_wp2_with fail
              refine (H7.out _ (kx_keep hK (HB2.out.alloc HB2.out.size _))).mono ?_
              rintro e w3 ⟨rfl, hb3⟩
              have HB : Hid (Below w.heap.size w w3) := Lib.hid ((HB2.out.alloc HB2.out.size _).trans (hb3.mono (by have := HB2.out.size; simp; omega)))
              clear hb3
              go_simp
              go_wp2
              go_ret
              exact ⟨rfl, HB.out⟩
            · rw [if_neg h16]
              have f1 : decide ((16 : Int) ≤ n) = false := decide_eq_false (by omega)
              go_simp
              go_wp2_with fail
              refine (H7.out _ (kx_keep hK (HB2.out.alloc HB2.out.size _))).mono ?_
              rintro e w3 ⟨rfl, hb3⟩
              have HB : Hid (Below w.heap.size w w3) := Lib.hid ((HB2.out.alloc HB2.out.size _).trans (hb3.mono (by have := HB2.out.size; simp; omega)))
              clear hb3
              go_simp
              go_wp2
              go_ret
              exact ⟨rfl, HB.out⟩
          · have hen : endedL L = L ++ [10] := by
              unfold endedL
              rw [if_neg]
              rw [hlst]
              intro e
              have : L[K]'(by omega) = 10 := Option.some.inj e
              rw [this] at hx
              exact h10 (by rw [← hx]; rfl)
            have hnx : nlN (L ++ [10]) = nlN L + 1 := by unfold nlN; rw [List.countP_append]; rfl
            have b1 : ((x : Int) == 10) = false := beq_eq_false_iff_ne.2 (by omega)
            have hz2 : (1 + ((nlN L + 1 : Nat) : Int)) = 1 + (nlN L : Int) + 1 := by omega
            rw [hen, hnx, hz2] at H8
            clear hnx hz2
            have ht : bs L ++ ⟨#[10]⟩ ++ ⟨#[111, 100, 100, 119, 111, 114, 100, 32]⟩ ++ bs M ++ ⟨#[10]⟩ = bs (L ++ [10] ++ (oddW ++ [32] ++ M ++ [10])) := by
              rw [lit_bs15 #[111, 100, 100, 119, 111, 114, 100, 32], lit_bs15 #[10], append_bs, append_bs, append_bs, append_bs]
              congr 1
              simp [oddW]
            rw [← ht] at H8
            clear ht hen
            go_wp2_with fail
            refine (H8.out _ (kx_keep hK (hb1.out.alloc hb1.out.size _))).mono ?_
            rintro e w2 ⟨B, c2, rfl, hb2⟩
            have r1 := row_new hb2
            have k4 : w2.cell? ⟨w1.heap.size, 4, none⟩ = some (.slice A n c) := row_cellA r1 4
            have y1 : w1.heap.size < w2.heap.size := lt_of_heap r1
            have HB2 : Hid (Below w.heap.size w w2) := Lib.hid ((hb1.out.alloc hb1.out.size _).trans (hb2.mono (by have := hb1.out.size; simp; omega)))
            clear hb2 r1 H8
            by_cases h16 : 16 ≤ n
            · rw [if_pos h16]
              have f1 : decide ((16 : Int) ≤ n) = true := decide_eq_true (by omega)
              go_simp
              go_wp2_with fail
              refine (H7.out _ (kx_keep hK (HB2.out.alloc HB2.out.size _))).mono ?_
              rintro e w3 ⟨rfl, hb3⟩
              have HB : Hid (Below w.heap.size w w3) := Lib.hid ((HB2.out.alloc HB2.out.size _).trans (hb3.mono (by have := HB2.out.size; simp; omega)))
              clear hb3
              go_simp
              go_wp2
              go_ret
              exact ⟨rfl, HB.out⟩
            · rw [if_neg h16]
              have f1 : decide ((16 : Int) ≤ n) = false := decide_eq_false (by omega)
              go_simp
              go_wp2_with fail
              refine (H7.out _ (kx_keep hK (HB2.out.alloc HB2.out.size _))).mono ?_
              rintro e w3 ⟨rfl, hb3⟩
              have HB : Hid (Below w.heap.size w w3) := Lib.hid ((HB2.out.alloc HB2.out.size _).trans (hb3.mono (by have := HB2.out.size; simp; omega)))
              clear hb3
              go_simp
              go_wp2
              go_ret
              exact ⟨rfl, HB.out⟩
theorem prs_nil : (prsR []).2.2 ≠ 0 := by decide +kernel
theorem rulesLines_walk (s t : ByteArray) (hs0 : s.size ≤ 9223372036854775807) (hs1 : t.size ≤ 9223372036854775807) (w : World) (hK : KX w) : Calls Tryz.prog 5 #[.string s, .string t] w fun e w' => e = .returned (.bool true) ∧ Below w.heap.size w w' := by
  have hs := bs_of s
  have ht := bs_of t
  have X1 := pRuParse_any s.data.toList (by rw [size_toList]; exact hs0)
  have key : Calls Tryz.prog 5 #[.string (bs s.data.toList), .string (bs t.data.toList)] w fun e w' => e = .returned (.bool true) ∧ Below w.heap.size w w' := by
    generalize s.data.toList = L at *
    generalize t.data.toList = M at *
    by_cases he : (prsR L).2.2 = 0
    · obtain ⟨hok, hk, _⟩ := prs_in he
      rw [he, hk] at X1
      have X2 : ∀ w, KX w → Calls Tryz.prog 8 #[.string (bs L)] w fun e w' => ∃ (B : Option Addr) (c2 : Nat), e = .returned (.tuple #[.agg #[.string (bs (prsR L).1.nam), .int .i64 (prsR L).1.off, .bool (prsR L).1.dst, .string (bs (prsR L).1.abb), .slice B (prsR L).1.lns.length c2], .int .i64 0, .int .i64 0]) ∧ Below w.heap.size w w' := fun w h => (X1 w h).mono (by rintro e w' ⟨A, c, h, _, hb⟩; exact ⟨A, c, h, hb⟩)
      by_cases h1 : 2000 < L.length
      · exact rl_long1 L M _ _ _ _ _ _ _ rfl h1 rfl (Lib.hid X2) w hK
      · by_cases h2 : 100 < M.length
        · exact rl_long2 L M _ _ _ _ _ _ _ rfl h1 h2 (Lib.hid X2) w hK
        · have h0 : 0 < L.length := by
            cases hL : L with
            | nil => rw [hL] at he; exact absurd he prs_nil
            | cons x y => simp
          refine rl_main L M _ _ _ _ _ h0 (by omega) (by omega) (Lib.hid X2) (Lib.hid fun hb w h => ?_) w hK
          have X3 := pRuParse_any (endedL L ++ (oddW ++ [32] ++ M ++ [10])) (by have := ended_len L; simp [oddW]; omega) w h
          rw [prs_odd he (by omega) (by omega) hb] at X3
          refine X3.mono ?_
          rintro e w' ⟨A, c, h, _, hb⟩
          refine ⟨A, c, ?_, hb⟩
          rw [h]
          unfold src0
          simp only [List.length_nil]
          rw [show bs [] = ⟨#[]⟩ by unfold bs; rfl]
    · have X2 : ∀ w, KX w → Calls Tryz.prog 8 #[.string (bs L)] w fun e w' => ∃ (B : Option Addr) (c2 : Nat), e = .returned (.tuple #[.agg #[.string (bs (prsR L).1.nam), .int .i64 (prsR L).1.off, .bool (prsR L).1.dst, .string (bs (prsR L).1.abb), .slice B (prsR L).1.lns.length c2], .int .i64 (prsR L).2.1, .int .i64 (prsR L).2.2]) ∧ Below w.heap.size w w' := fun w h => (X1 w h).mono (by rintro e w' ⟨A, c, h, _, hb⟩; exact ⟨A, c, h, hb⟩)
      exact rl_no L M _ _ _ (prsR L).2.1 _ _ _ (by rw [bne_iff_ne]; exact he) rfl rfl (Lib.hid X2) w hK
  rw [hs, ht] at key
  exact key
end Go.Proofs.YteinjdmkmfeniaaGreatDoor
