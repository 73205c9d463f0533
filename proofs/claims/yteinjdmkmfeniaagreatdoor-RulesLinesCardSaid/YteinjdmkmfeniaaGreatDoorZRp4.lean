/- Several texts in one: RpK, RpM, RpL. -/
import Derived.Test.YteinjdmkmfeniaaGreatDoorZRul1
import Derived.Test.YteinjdmkmfeniaaGreatDoorZRp1
import Derived.Test.YteinjdmkmfeniaaGreatDoorZPlanQ1
import Derived.Test.YteinjdmkmfeniaaGreatDoorZRp2
import Derived.Test.YteinjdmkmfeniaaGreatDoorZLex2
import Derived.Test.YteinjdmkmfeniaaGreatDoorZRp3
namespace Go.Proofs.YteinjdmkmfeniaaGreatDoor
set_option linter.unusedVariables false
set_option linter.unusedSimpArgs false
open Go.ChangeShapes Go.WideShapes Go.ChangeAt Go.RowKit
theorem rdk_keep {w w' : World} {A : Option Addr} {xs : List Value} (h : Hid (KX w ∧ Rd w A xs)) (hb : Below w.heap.size w w') : KX w' ∧ Rd w' A xs := ⟨kx_keep (Lib.hid h.out.1) hb, h.out.2.below hb (Nat.le_refl _)⟩
set_option maxHeartbeats 1600000 in
set_option maxRecDepth 100000 in
theorem chk_big (S B : ByteArray) (off : Int) (dst : Bool) (A : Option Addr) (N c : Nat) (xs : List Value) (h16 : decide ((16 : Int) < (N : Int)) = true) (w : World) (hM : Hid (KX w ∧ Rd w A xs)) :
    Calls Tryz.prog 10 #[.agg #[.string S, .int .i64 off, .bool dst, .string B, .slice A N c]] w fun e w' => e = .returned (.int .i64 1) ∧ Below w.heap.size w w' := by
  go_enter Tryz.func10, Tryz.ntmps10
  go_wp2
  go_ret
  exact ⟨rfl, (Below.refl _ _).alloc (Nat.le_refl _) _⟩
set_option maxHeartbeats 1600000 in
set_option maxRecDepth 100000 in
theorem chk_tails (S B : ByteArray) (off : Int) (dst : Bool) (A : Option Addr) (N c : Nat) (xs : List Value) (h16 : decide ((16 : Int) < (N : Int)) = false) (tn : Int) (h4 : decide ((4 : Int) < tn) = true) (HT : Hid (∀ w, (KX w ∧ Rd w A xs) → Calls Tryz.prog 17 #[.slice A N c] w fun e w' => e = .returned (.int .i64 tn) ∧ Below w.heap.size w w')) (w : World) (hM : Hid (KX w ∧ Rd w A xs)) :
    Calls Tryz.prog 10 #[.agg #[.string S, .int .i64 off, .bool dst, .string B, .slice A N c]] w fun e w' => e = .returned (.int .i64 1) ∧ Below w.heap.size w w' := by
  go_enter Tryz.func10, Tryz.ntmps10
  go_wp2_with fail
  
  refine (HT.out _ (by first | exact rdk_keep hM ((Below.refl w.heap.size w).alloc (Nat.le_refl _) _))).mono ?_
  rintro e V1 ⟨rfl, hb1⟩
  have B1 := Lib.hid (((Below.refl w.heap.size w).alloc (Nat.le_refl _) _).trans (hb1.mono (by first | assumption | (simp <;> omega) | (simp; done))))
  have S1 := Lib.hid (row_call hb1 (heap_alloc_new _ _))
  clear hb1
  have S1_0 : V1.cell? ⟨w.heap.size, 0, none⟩ = some (.string S) := cell_of_row _ _ _ _ _ _ S1.out
  have S1_1 : V1.cell? ⟨w.heap.size, 1, none⟩ = some (.int .i64 off) := cell_of_row _ _ _ _ _ _ S1.out
  have S1_2 : V1.cell? ⟨w.heap.size, 2, none⟩ = some (.bool dst) := cell_of_row _ _ _ _ _ _ S1.out
  have S1_3 : V1.cell? ⟨w.heap.size, 3, none⟩ = some (.string B) := cell_of_row _ _ _ _ _ _ S1.out
  have S1_4 : V1.cell? ⟨w.heap.size, 4, none⟩ = some (.slice A N c) := cell_of_row _ _ _ _ _ _ S1.out
  have zS1 := lt_of_heap S1.out
  go_simp
  go_wp2
  go_ret
  exact ⟨rfl, B1.out⟩
set_option maxHeartbeats 1600000 in
set_option maxRecDepth 100000 in
theorem chk_name (S B : ByteArray) (off : Int) (dst : Bool) (A : Option Addr) (N c : Nat) (xs : List Value) (h16 : decide ((16 : Int) < (N : Int)) = false) (tn : Int) (h4 : decide ((4 : Int) < tn) = false) (ne : Int) (hne : (ne != 0) = true) (HT : Hid (∀ w, (KX w ∧ Rd w A xs) → Calls Tryz.prog 17 #[.slice A N c] w fun e w' => e = .returned (.int .i64 tn) ∧ Below w.heap.size w w')) (HN : Hid (∀ w, (KX w ∧ Rd w A xs) → Calls Tryz.prog 18 #[.string S] w fun e w' => e = .returned (.int .i64 ne) ∧ Below w.heap.size w w')) (w : World) (hM : Hid (KX w ∧ Rd w A xs)) :
    Calls Tryz.prog 10 #[.agg #[.string S, .int .i64 off, .bool dst, .string B, .slice A N c]] w fun e w' => e = .returned (.int .i64 2) ∧ Below w.heap.size w w' := by
  go_enter Tryz.func10, Tryz.ntmps10
  go_wp2_with fail
  
  refine (HT.out _ (by first | exact rdk_keep hM ((Below.refl w.heap.size w).alloc (Nat.le_refl _) _))).mono ?_
  rintro e V1 ⟨rfl, hb1⟩
  have B1 := Lib.hid (((Below.refl w.heap.size w).alloc (Nat.le_refl _) _).trans (hb1.mono (by first | assumption | (simp <;> omega) | (simp; done))))
  have S1 := Lib.hid (row_call hb1 (heap_alloc_new _ _))
  clear hb1
  have S1_0 : V1.cell? ⟨w.heap.size, 0, none⟩ = some (.string S) := cell_of_row _ _ _ _ _ _ S1.out
  have S1_1 : V1.cell? ⟨w.heap.size, 1, none⟩ = some (.int .i64 off) := cell_of_row _ _ _ _ _ _ S1.out
  have S1_2 : V1.cell? ⟨w.heap.size, 2, none⟩ = some (.bool dst) := cell_of_row _ _ _ _ _ _ S1.out
  have S1_3 : V1.cell? ⟨w.heap.size, 3, none⟩ = some (.string B) := cell_of_row _ _ _ _ _ _ S1.out
  have S1_4 : V1.cell? ⟨w.heap.size, 4, none⟩ = some (.slice A N c) := cell_of_row _ _ _ _ _ _ S1.out
  have zS1 := lt_of_heap S1.out
  go_simp
  go_wp2_with fail
  refine (HN.out _ (by first | exact rdk_keep hM (B1.out) | exact rdk_keep hM ((B1.out).alloc (B1.out.size) _) | exact rdk_keep hM (((B1.out).alloc (B1.out.size) _).alloc (by have := B1.out.size; simp <;> omega) _) | exact rdk_keep hM ((((B1.out).alloc (B1.out.size) _).alloc (by have := B1.out.size; simp <;> omega) _).alloc (by have := B1.out.size; simp <;> omega) _))).mono ?_
  rintro e V2 ⟨rfl, hb2⟩
  clear S1_0 S1_1 S1_2 S1_3 S1_4 zS1
  have B2 : Hid (Below w.heap.size w V2) := by first | exact Lib.hid ((B1.out).trans (hb2.mono (by have := B1.out.size; first | assumption | (simp <;> omega) | (simp; done)))) | exact Lib.hid (((B1.out).alloc (B1.out.size) _).trans (hb2.mono (by have := B1.out.size; first | assumption | (simp <;> omega) | (simp; done)))) | exact Lib.hid ((((B1.out).alloc (B1.out.size) _).alloc (by have := B1.out.size; simp <;> omega) _).trans (hb2.mono (by have := B1.out.size; first | assumption | (simp <;> omega) | (simp; done)))) | exact Lib.hid (((((B1.out).alloc (B1.out.size) _).alloc (by have := B1.out.size; simp <;> omega) _).alloc (by have := B1.out.size; simp <;> omega) _).trans (hb2.mono (by have := B1.out.size; first | assumption | (simp <;> omega) | (simp; done))))
  first | replace S1 := Lib.hid (row_call hb2 S1.out) | replace S1 := Lib.hid (row_call hb2 (row_alloc S1.out _)) | replace S1 := Lib.hid (row_call hb2 (row_alloc (row_alloc S1.out _) _)) | replace S1 := Lib.hid (row_call hb2 (row_alloc (row_alloc (row_alloc S1.out _) _) _))
  clear hb2
  have S1_0 : V2.cell? ⟨w.heap.size, 0, none⟩ = some (.string S) := cell_of_row _ _ _ _ _ _ S1.out
  have S1_1 : V2.cell? ⟨w.heap.size, 1, none⟩ = some (.int .i64 off) := cell_of_row _ _ _ _ _ _ S1.out
  have S1_2 : V2.cell? ⟨w.heap.size, 2, none⟩ = some (.bool dst) := cell_of_row _ _ _ _ _ _ S1.out
  have S1_3 : V2.cell? ⟨w.heap.size, 3, none⟩ = some (.string B) := cell_of_row _ _ _ _ _ _ S1.out
  have S1_4 : V2.cell? ⟨w.heap.size, 4, none⟩ = some (.slice A N c) := cell_of_row _ _ _ _ _ _ S1.out
  have zS1 := lt_of_heap S1.out
  go_simp
  go_wp2
  go_ret
  exact ⟨rfl, B2.out⟩
set_option maxHeartbeats 1600000 in
set_option maxRecDepth 100000 in
theorem chk_base (S B : ByteArray) (off : Int) (dst : Bool) (A : Option Addr) (N c : Nat) (xs : List Value) (h16 : decide ((16 : Int) < (N : Int)) = false) (tn : Int) (h4 : decide ((4 : Int) < tn) = false) (HT : Hid (∀ w, (KX w ∧ Rd w A xs) → Calls Tryz.prog 17 #[.slice A N c] w fun e w' => e = .returned (.int .i64 tn) ∧ Below w.heap.size w w')) (HN : Hid (∀ w, (KX w ∧ Rd w A xs) → Calls Tryz.prog 18 #[.string S] w fun e w' => e = .returned (.int .i64 0) ∧ Below w.heap.size w w')) (HM : Hid (∀ w, (KX w ∧ Rd w A xs) → Calls Tryz.prog 19 #[.agg #[.int .i64 off, .bool dst, .string B]] w fun e w' => e = .returned (.bool true) ∧ Below w.heap.size w w')) (w : World) (hM : Hid (KX w ∧ Rd w A xs)) :
    Calls Tryz.prog 10 #[.agg #[.string S, .int .i64 off, .bool dst, .string B, .slice A N c]] w fun e w' => e = .returned (.int .i64 2) ∧ Below w.heap.size w w' := by
  go_enter Tryz.func10, Tryz.ntmps10
  go_wp2_with fail
  
  refine (HT.out _ (by first | exact rdk_keep hM ((Below.refl w.heap.size w).alloc (Nat.le_refl _) _))).mono ?_
  rintro e V1 ⟨rfl, hb1⟩
  have B1 := Lib.hid (((Below.refl w.heap.size w).alloc (Nat.le_refl _) _).trans (hb1.mono (by first | assumption | (simp <;> omega) | (simp; done))))
  have S1 := Lib.hid (row_call hb1 (heap_alloc_new _ _))
  clear hb1
  have S1_0 : V1.cell? ⟨w.heap.size, 0, none⟩ = some (.string S) := cell_of_row _ _ _ _ _ _ S1.out
  have S1_1 : V1.cell? ⟨w.heap.size, 1, none⟩ = some (.int .i64 off) := cell_of_row _ _ _ _ _ _ S1.out
  have S1_2 : V1.cell? ⟨w.heap.size, 2, none⟩ = some (.bool dst) := cell_of_row _ _ _ _ _ _ S1.out
  have S1_3 : V1.cell? ⟨w.heap.size, 3, none⟩ = some (.string B) := cell_of_row _ _ _ _ _ _ S1.out
  have S1_4 : V1.cell? ⟨w.heap.size, 4, none⟩ = some (.slice A N c) := cell_of_row _ _ _ _ _ _ S1.out
  have zS1 := lt_of_heap S1.out
  go_simp
  go_wp2_with fail
  refine (HN.out _ (by first | exact rdk_keep hM (B1.out) | exact rdk_keep hM ((B1.out).alloc (B1.out.size) _) | exact rdk_keep hM (((B1.out).alloc (B1.out.size) _).alloc (by have := B1.out.size; simp <;> omega) _) | exact rdk_keep hM ((((B1.out).alloc (B1.out.size) _).alloc (by have := B1.out.size; simp <;> omega) _).alloc (by have := B1.out.size; simp <;> omega) _))).mono ?_
  rintro e V2 ⟨rfl, hb2⟩
  clear S1_0 S1_1 S1_2 S1_3 S1_4 zS1
  have B2 : Hid (Below w.heap.size w V2) := by first | exact Lib.hid ((B1.out).trans (hb2.mono (by have := B1.out.size; first | assumption | (simp <;> omega) | (simp; done)))) | exact Lib.hid (((B1.out).alloc (B1.out.size) _).trans (hb2.mono (by have := B1.out.size; first | assumption | (simp <;> omega) | (simp; done)))) | exact Lib.hid ((((B1.out).alloc (B1.out.size) _).alloc (by have := B1.out.size; simp <;> omega) _).trans (hb2.mono (by have := B1.out.size; first | assumption | (simp <;> omega) | (simp; done)))) | exact Lib.hid (((((B1.out).alloc (B1.out.size) _).alloc (by have := B1.out.size; simp <;> omega) _).alloc (by have := B1.out.size; simp <;> omega) _).trans (hb2.mono (by have := B1.out.size; first | assumption | (simp <;> omega) | (simp; done))))
  first | replace S1 := Lib.hid (row_call hb2 S1.out) | replace S1 := Lib.hid (row_call hb2 (row_alloc S1.out _)) | replace S1 := Lib.hid (row_call hb2 (row_alloc (row_alloc S1.out _) _)) | replace S1 := Lib.hid (row_call hb2 (row_alloc (row_alloc (row_alloc S1.out _) _) _))
  clear hb2
  have S1_0 : V2.cell? ⟨w.heap.size, 0, none⟩ = some (.string S) := cell_of_row _ _ _ _ _ _ S1.out
  have S1_1 : V2.cell? ⟨w.heap.size, 1, none⟩ = some (.int .i64 off) := cell_of_row _ _ _ _ _ _ S1.out
  have S1_2 : V2.cell? ⟨w.heap.size, 2, none⟩ = some (.bool dst) := cell_of_row _ _ _ _ _ _ S1.out
  have S1_3 : V2.cell? ⟨w.heap.size, 3, none⟩ = some (.string B) := cell_of_row _ _ _ _ _ _ S1.out
  have S1_4 : V2.cell? ⟨w.heap.size, 4, none⟩ = some (.slice A N c) := cell_of_row _ _ _ _ _ _ S1.out
  have zS1 := lt_of_heap S1.out
  go_simp
  go_wp2_with fail
  refine (HM.out _ (by first | exact rdk_keep hM (B2.out) | exact rdk_keep hM ((B2.out).alloc (B2.out.size) _) | exact rdk_keep hM (((B2.out).alloc (B2.out.size) _).alloc (by have := B2.out.size; simp <;> omega) _) | exact rdk_keep hM ((((B2.out).alloc (B2.out.size) _).alloc (by have := B2.out.size; simp <;> omega) _).alloc (by have := B2.out.size; simp <;> omega) _))).mono ?_
  rintro e V3 ⟨rfl, hb3⟩
  clear S1_0 S1_1 S1_2 S1_3 S1_4 zS1
  have B3 : Hid (Below w.heap.size w V3) := by first | exact Lib.hid ((B2.out).trans (hb3.mono (by have := B2.out.size; first | assumption | (simp <;> omega) | (simp; done)))) | exact Lib.hid (((B2.out).alloc (B2.out.size) _).trans (hb3.mono (by have := B2.out.size; first | assumption | (simp <;> omega) | (simp; done)))) | exact Lib.hid ((((B2.out).alloc (B2.out.size) _).alloc (by have := B2.out.size; simp <;> omega) _).trans (hb3.mono (by have := B2.out.size; first | assumption | (simp <;> omega) | (simp; done)))) | exact Lib.hid (((((B2.out).alloc (B2.out.size) _).alloc (by have := B2.out.size; simp <;> omega) _).alloc (by have := B2.out.size; simp <;> omega) _).trans (hb3.mono (by have := B2.out.size; first | assumption | (simp <;> omega) | (simp; done))))
  first | replace S1 := Lib.hid (row_call hb3 S1.out) | replace S1 := Lib.hid (row_call hb3 (row_alloc S1.out _)) | replace S1 := Lib.hid (row_call hb3 (row_alloc (row_alloc S1.out _) _)) | replace S1 := Lib.hid (row_call hb3 (row_alloc (row_alloc (row_alloc S1.out _) _) _))
  clear hb3
  have S1_0 : V3.cell? ⟨w.heap.size, 0, none⟩ = some (.string S) := cell_of_row _ _ _ _ _ _ S1.out
  have S1_1 : V3.cell? ⟨w.heap.size, 1, none⟩ = some (.int .i64 off) := cell_of_row _ _ _ _ _ _ S1.out
  have S1_2 : V3.cell? ⟨w.heap.size, 2, none⟩ = some (.bool dst) := cell_of_row _ _ _ _ _ _ S1.out
  have S1_3 : V3.cell? ⟨w.heap.size, 3, none⟩ = some (.string B) := cell_of_row _ _ _ _ _ _ S1.out
  have S1_4 : V3.cell? ⟨w.heap.size, 4, none⟩ = some (.slice A N c) := cell_of_row _ _ _ _ _ _ S1.out
  have zS1 := lt_of_heap S1.out
  go_simp
  go_wp2
  go_ret
  exact ⟨rfl, B3.out⟩
set_option maxHeartbeats 1600000 in
set_option maxRecDepth 100000 in
theorem chk_abbs (S B : ByteArray) (off : Int) (dst : Bool) (A : Option Addr) (N c : Nat) (xs : List Value) (h16 : decide ((16 : Int) < (N : Int)) = false) (tn : Int) (h4 : decide ((4 : Int) < tn) = false) (HT : Hid (∀ w, (KX w ∧ Rd w A xs) → Calls Tryz.prog 17 #[.slice A N c] w fun e w' => e = .returned (.int .i64 tn) ∧ Below w.heap.size w w')) (HN : Hid (∀ w, (KX w ∧ Rd w A xs) → Calls Tryz.prog 18 #[.string S] w fun e w' => e = .returned (.int .i64 0) ∧ Below w.heap.size w w')) (HM : Hid (∀ w, (KX w ∧ Rd w A xs) → Calls Tryz.prog 19 #[.agg #[.int .i64 off, .bool dst, .string B]] w fun e w' => e = .returned (.bool false) ∧ Below w.heap.size w w')) (HA : Hid (∀ w, (KX w ∧ Rd w A xs) → Calls Tryz.prog 20 #[.slice A N c, .func (.func 21) #[] #[]] w fun e w' => e = .returned (.bool true) ∧ Below w.heap.size w w')) (w : World) (hM : Hid (KX w ∧ Rd w A xs)) :
    Calls Tryz.prog 10 #[.agg #[.string S, .int .i64 off, .bool dst, .string B, .slice A N c]] w fun e w' => e = .returned (.int .i64 2) ∧ Below w.heap.size w w' := by
  go_enter Tryz.func10, Tryz.ntmps10
  go_wp2_with fail
  
  refine (HT.out _ (by first | exact rdk_keep hM ((Below.refl w.heap.size w).alloc (Nat.le_refl _) _))).mono ?_
  rintro e V1 ⟨rfl, hb1⟩
  have B1 := Lib.hid (((Below.refl w.heap.size w).alloc (Nat.le_refl _) _).trans (hb1.mono (by first | assumption | (simp <;> omega) | (simp; done))))
  have S1 := Lib.hid (row_call hb1 (heap_alloc_new _ _))
  clear hb1
  have S1_0 : V1.cell? ⟨w.heap.size, 0, none⟩ = some (.string S) := cell_of_row _ _ _ _ _ _ S1.out
  have S1_1 : V1.cell? ⟨w.heap.size, 1, none⟩ = some (.int .i64 off) := cell_of_row _ _ _ _ _ _ S1.out
  have S1_2 : V1.cell? ⟨w.heap.size, 2, none⟩ = some (.bool dst) := cell_of_row _ _ _ _ _ _ S1.out
  have S1_3 : V1.cell? ⟨w.heap.size, 3, none⟩ = some (.string B) := cell_of_row _ _ _ _ _ _ S1.out
  have S1_4 : V1.cell? ⟨w.heap.size, 4, none⟩ = some (.slice A N c) := cell_of_row _ _ _ _ _ _ S1.out
  have zS1 := lt_of_heap S1.out
  go_simp
  go_wp2_with fail
  refine (HN.out _ (by first | exact rdk_keep hM (B1.out) | exact rdk_keep hM ((B1.out).alloc (B1.out.size) _) | exact rdk_keep hM (((B1.out).alloc (B1.out.size) _).alloc (by have := B1.out.size; simp <;> omega) _) | exact rdk_keep hM ((((B1.out).alloc (B1.out.size) _).alloc (by have := B1.out.size; simp <;> omega) _).alloc (by have := B1.out.size; simp <;> omega) _))).mono ?_
  rintro e V2 ⟨rfl, hb2⟩
  clear S1_0 S1_1 S1_2 S1_3 S1_4 zS1
  have B2 : Hid (Below w.heap.size w V2) := by first | exact Lib.hid ((B1.out).trans (hb2.mono (by have := B1.out.size; first | assumption | (simp <;> omega) | (simp; done)))) | exact Lib.hid (((B1.out).alloc (B1.out.size) _).trans (hb2.mono (by have := B1.out.size; first | assumption | (simp <;> omega) | (simp; done)))) | exact Lib.hid ((((B1.out).alloc (B1.out.size) _).alloc (by have := B1.out.size; simp <;> omega) _).trans (hb2.mono (by have := B1.out.size; first | assumption | (simp <;> omega) | (simp; done)))) | exact Lib.hid (((((B1.out).alloc (B1.out.size) _).alloc (by have := B1.out.size; simp <;> omega) _).alloc (by have := B1.out.size; simp <;> omega) _).trans (hb2.mono (by have := B1.out.size; first | assumption | (simp <;> omega) | (simp; done))))
  first | replace S1 := Lib.hid (row_call hb2 S1.out) | replace S1 := Lib.hid (row_call hb2 (row_alloc S1.out _)) | replace S1 := Lib.hid (row_call hb2 (row_alloc (row_alloc S1.out _) _)) | replace S1 := Lib.hid (row_call hb2 (row_alloc (row_alloc (row_alloc S1.out _) _) _))
  clear hb2
  have S1_0 : V2.cell? ⟨w.heap.size, 0, none⟩ = some (.string S) := cell_of_row _ _ _ _ _ _ S1.out
  have S1_1 : V2.cell? ⟨w.heap.size, 1, none⟩ = some (.int .i64 off) := cell_of_row _ _ _ _ _ _ S1.out
  have S1_2 : V2.cell? ⟨w.heap.size, 2, none⟩ = some (.bool dst) := cell_of_row _ _ _ _ _ _ S1.out
  have S1_3 : V2.cell? ⟨w.heap.size, 3, none⟩ = some (.string B) := cell_of_row _ _ _ _ _ _ S1.out
  have S1_4 : V2.cell? ⟨w.heap.size, 4, none⟩ = some (.slice A N c) := cell_of_row _ _ _ _ _ _ S1.out
  have zS1 := lt_of_heap S1.out
  go_simp
  go_wp2_with fail
  refine (HM.out _ (by first | exact rdk_keep hM (B2.out) | exact rdk_keep hM ((B2.out).alloc (B2.out.size) _) | exact rdk_keep hM (((B2.out).alloc (B2.out.size) _).alloc (by have := B2.out.size; simp <;> omega) _) | exact rdk_keep hM ((((B2.out).alloc (B2.out.size) _).alloc (by have := B2.out.size; simp <;> omega) _).alloc (by have := B2.out.size; simp <;> omega) _))).mono ?_
  rintro e V3 ⟨rfl, hb3⟩
  clear S1_0 S1_1 S1_2 S1_3 S1_4 zS1
  have B3 : Hid (Below w.heap.size w V3) := by first | exact Lib.hid ((B2.out).trans (hb3.mono (by have := B2.out.size; first | assumption | (simp <;> omega) | (simp; done)))) | exact Lib.hid (((B2.out).alloc (B2.out.size) _).trans (hb3.mono (by have := B2.out.size; first | assumption | (simp <;> omega) | (simp; done)))) | exact Lib.hid ((((B2.out).alloc (B2.out.size) _).alloc (by have := B2.out.size; simp <;> omega) _).trans (hb3.mono (by have := B2.out.size; first | assumption | (simp <;> omega) | (simp; done)))) | exact Lib.hid (((((B2.out).alloc (B2.out.size) _).alloc (by have := B2.out.size; simp <;> omega) _).alloc (by have := B2.out.size; simp <;> omega) _).trans (hb3.mono (by have := B2.out.size; first | assumption | (simp <;> omega) | (simp; done))))
  first | replace S1 := Lib.hid (row_call hb3 S1.out) | replace S1 := Lib.hid (row_call hb3 (row_alloc S1.out _)) | replace S1 := Lib.hid (row_call hb3 (row_alloc (row_alloc S1.out _) _)) | replace S1 := Lib.hid (row_call hb3 (row_alloc (row_alloc (row_alloc S1.out _) _) _))
  clear hb3
  have S1_0 : V3.cell? ⟨w.heap.size, 0, none⟩ = some (.string S) := cell_of_row _ _ _ _ _ _ S1.out
  have S1_1 : V3.cell? ⟨w.heap.size, 1, none⟩ = some (.int .i64 off) := cell_of_row _ _ _ _ _ _ S1.out
  have S1_2 : V3.cell? ⟨w.heap.size, 2, none⟩ = some (.bool dst) := cell_of_row _ _ _ _ _ _ S1.out
  have S1_3 : V3.cell? ⟨w.heap.size, 3, none⟩ = some (.string B) := cell_of_row _ _ _ _ _ _ S1.out
  have S1_4 : V3.cell? ⟨w.heap.size, 4, none⟩ = some (.slice A N c) := cell_of_row _ _ _ _ _ _ S1.out
  have zS1 := lt_of_heap S1.out
  go_simp
  go_wp2_with fail
  refine (HA.out _ (by first | exact rdk_keep hM (B3.out) | exact rdk_keep hM ((B3.out).alloc (B3.out.size) _) | exact rdk_keep hM (((B3.out).alloc (B3.out.size) _).alloc (by have := B3.out.size; simp <;> omega) _) | exact rdk_keep hM ((((B3.out).alloc (B3.out.size) _).alloc (by have := B3.out.size; simp <;> omega) _).alloc (by have := B3.out.size; simp <;> omega) _))).mono ?_
  rintro e V4 ⟨rfl, hb4⟩
  clear S1_0 S1_1 S1_2 S1_3 S1_4 zS1
  have B4 : Hid (Below w.heap.size w V4) := by first | exact Lib.hid ((B3.out).trans (hb4.mono (by have := B3.out.size; first | assumption | (simp <;> omega) | (simp; done)))) | exact Lib.hid (((B3.out).alloc (B3.out.size) _).trans (hb4.mono (by have := B3.out.size; first | assumption | (simp <;> omega) | (simp; done)))) | exact Lib.hid ((((B3.out).alloc (B3.out.size) _).alloc (by have := B3.out.size; simp <;> omega) _).trans (hb4.mono (by have := B3.out.size; first | assumption | (simp <;> omega) | (simp; done)))) | exact Lib.hid (((((B3.out).alloc (B3.out.size) _).alloc (by have := B3.out.size; simp <;> omega) _).alloc (by have := B3.out.size; simp <;> omega) _).trans (hb4.mono (by have := B3.out.size; first | assumption | (simp <;> omega) | (simp; done))))
  first | replace S1 := Lib.hid (row_call hb4 S1.out) | replace S1 := Lib.hid (row_call hb4 (row_alloc S1.out _)) | replace S1 := Lib.hid (row_call hb4 (row_alloc (row_alloc S1.out _) _)) | replace S1 := Lib.hid (row_call hb4 (row_alloc (row_alloc (row_alloc S1.out _) _) _))
  clear hb4
  have S1_0 : V4.cell? ⟨w.heap.size, 0, none⟩ = some (.string S) := cell_of_row _ _ _ _ _ _ S1.out
  have S1_1 : V4.cell? ⟨w.heap.size, 1, none⟩ = some (.int .i64 off) := cell_of_row _ _ _ _ _ _ S1.out
  have S1_2 : V4.cell? ⟨w.heap.size, 2, none⟩ = some (.bool dst) := cell_of_row _ _ _ _ _ _ S1.out
  have S1_3 : V4.cell? ⟨w.heap.size, 3, none⟩ = some (.string B) := cell_of_row _ _ _ _ _ _ S1.out
  have S1_4 : V4.cell? ⟨w.heap.size, 4, none⟩ = some (.slice A N c) := cell_of_row _ _ _ _ _ _ S1.out
  have zS1 := lt_of_heap S1.out
  go_simp
  go_wp2
  go_ret
  exact ⟨rfl, B4.out⟩
set_option maxHeartbeats 1600000 in
set_option maxRecDepth 100000 in
theorem chk_dst (S B : ByteArray) (off : Int) (A : Option Addr) (N c : Nat) (xs : List Value) (h16 : decide ((16 : Int) < (N : Int)) = false) (tn : Int) (h4 : decide ((4 : Int) < tn) = false) (HT : Hid (∀ w, (KX w ∧ Rd w A xs) → Calls Tryz.prog 17 #[.slice A N c] w fun e w' => e = .returned (.int .i64 tn) ∧ Below w.heap.size w w')) (HN : Hid (∀ w, (KX w ∧ Rd w A xs) → Calls Tryz.prog 18 #[.string S] w fun e w' => e = .returned (.int .i64 0) ∧ Below w.heap.size w w')) (HM : Hid (∀ w, (KX w ∧ Rd w A xs) → Calls Tryz.prog 19 #[.agg #[.int .i64 off, .bool true, .string B]] w fun e w' => e = .returned (.bool false) ∧ Below w.heap.size w w')) (HA : Hid (∀ w, (KX w ∧ Rd w A xs) → Calls Tryz.prog 20 #[.slice A N c, .func (.func 21) #[] #[]] w fun e w' => e = .returned (.bool false) ∧ Below w.heap.size w w')) (w : World) (hM : Hid (KX w ∧ Rd w A xs)) :
    Calls Tryz.prog 10 #[.agg #[.string S, .int .i64 off, .bool true, .string B, .slice A N c]] w fun e w' => e = .returned (.int .i64 5) ∧ Below w.heap.size w w' := by
  go_enter Tryz.func10, Tryz.ntmps10
  go_wp2_with fail
  
  refine (HT.out _ (by first | exact rdk_keep hM ((Below.refl w.heap.size w).alloc (Nat.le_refl _) _))).mono ?_
  rintro e V1 ⟨rfl, hb1⟩
  have B1 := Lib.hid (((Below.refl w.heap.size w).alloc (Nat.le_refl _) _).trans (hb1.mono (by first | assumption | (simp <;> omega) | (simp; done))))
  have S1 := Lib.hid (row_call hb1 (heap_alloc_new _ _))
  clear hb1
  have S1_0 : V1.cell? ⟨w.heap.size, 0, none⟩ = some (.string S) := cell_of_row _ _ _ _ _ _ S1.out
  have S1_1 : V1.cell? ⟨w.heap.size, 1, none⟩ = some (.int .i64 off) := cell_of_row _ _ _ _ _ _ S1.out
  have S1_2 : V1.cell? ⟨w.heap.size, 2, none⟩ = some (.bool true) := cell_of_row _ _ _ _ _ _ S1.out
  have S1_3 : V1.cell? ⟨w.heap.size, 3, none⟩ = some (.string B) := cell_of_row _ _ _ _ _ _ S1.out
  have S1_4 : V1.cell? ⟨w.heap.size, 4, none⟩ = some (.slice A N c) := cell_of_row _ _ _ _ _ _ S1.out
  have zS1 := lt_of_heap S1.out
  go_simp
  go_wp2_with fail
  refine (HN.out _ (by first | exact rdk_keep hM (B1.out) | exact rdk_keep hM ((B1.out).alloc (B1.out.size) _) | exact rdk_keep hM (((B1.out).alloc (B1.out.size) _).alloc (by have := B1.out.size; simp <;> omega) _) | exact rdk_keep hM ((((B1.out).alloc (B1.out.size) _).alloc (by have := B1.out.size; simp <;> omega) _).alloc (by have := B1.out.size; simp <;> omega) _))).mono ?_
  rintro e V2 ⟨rfl, hb2⟩
  clear S1_0 S1_1 S1_2 S1_3 S1_4 zS1
  have B2 : Hid (Below w.heap.size w V2) := by first | exact Lib.hid ((B1.out).trans (hb2.mono (by have := B1.out.size; first | assumption | (simp <;> omega) | (simp; done)))) | exact Lib.hid (((B1.out).alloc (B1.out.size) _).trans (hb2.mono (by have := B1.out.size; first | assumption | (simp <;> omega) | (simp; done)))) | exact Lib.hid ((((B1.out).alloc (B1.out.size) _).alloc (by have := B1.out.size; simp <;> omega) _).trans (hb2.mono (by have := B1.out.size; first | assumption | (simp <;> omega) | (simp; done)))) | exact Lib.hid (((((B1.out).alloc (B1.out.size) _).alloc (by have := B1.out.size; simp <;> omega) _).alloc (by have := B1.out.size; simp <;> omega) _).trans (hb2.mono (by have := B1.out.size; first | assumption | (simp <;> omega) | (simp; done))))
  first | replace S1 := Lib.hid (row_call hb2 S1.out) | replace S1 := Lib.hid (row_call hb2 (row_alloc S1.out _)) | replace S1 := Lib.hid (row_call hb2 (row_alloc (row_alloc S1.out _) _)) | replace S1 := Lib.hid (row_call hb2 (row_alloc (row_alloc (row_alloc S1.out _) _) _))
  clear hb2
  have S1_0 : V2.cell? ⟨w.heap.size, 0, none⟩ = some (.string S) := cell_of_row _ _ _ _ _ _ S1.out
  have S1_1 : V2.cell? ⟨w.heap.size, 1, none⟩ = some (.int .i64 off) := cell_of_row _ _ _ _ _ _ S1.out
  have S1_2 : V2.cell? ⟨w.heap.size, 2, none⟩ = some (.bool true) := cell_of_row _ _ _ _ _ _ S1.out
  have S1_3 : V2.cell? ⟨w.heap.size, 3, none⟩ = some (.string B) := cell_of_row _ _ _ _ _ _ S1.out
  have S1_4 : V2.cell? ⟨w.heap.size, 4, none⟩ = some (.slice A N c) := cell_of_row _ _ _ _ _ _ S1.out
  have zS1 := lt_of_heap S1.out
  go_simp
  go_wp2_with fail
  refine (HM.out _ (by first | exact rdk_keep hM (B2.out) | exact rdk_keep hM ((B2.out).alloc (B2.out.size) _) | exact rdk_keep hM (((B2.out).alloc (B2.out.size) _).alloc (by have := B2.out.size; simp <;> omega) _) | exact rdk_keep hM ((((B2.out).alloc (B2.out.size) _).alloc (by have := B2.out.size; simp <;> omega) _).alloc (by have := B2.out.size; simp <;> omega) _))).mono ?_
  rintro e V3 ⟨rfl, hb3⟩
  clear S1_0 S1_1 S1_2 S1_3 S1_4 zS1
  have B3 : Hid (Below w.heap.size w V3) := by first | exact Lib.hid ((B2.out).trans (hb3.mono (by have := B2.out.size; first | assumption | (simp <;> omega) | (simp; done)))) | exact Lib.hid (((B2.out).alloc (B2.out.size) _).trans (hb3.mono (by have := B2.out.size; first | assumption | (simp <;> omega) | (simp; done)))) | exact Lib.hid ((((B2.out).alloc (B2.out.size) _).alloc (by have := B2.out.size; simp <;> omega) _).trans (hb3.mono (by have := B2.out.size; first | assumption | (simp <;> omega) | (simp; done)))) | exact Lib.hid (((((B2.out).alloc (B2.out.size) _).alloc (by have := B2.out.size; simp <;> omega) _).alloc (by have := B2.out.size; simp <;> omega) _).trans (hb3.mono (by have := B2.out.size; first | assumption | (simp <;> omega) | (simp; done))))
  first | replace S1 := Lib.hid (row_call hb3 S1.out) | replace S1 := Lib.hid (row_call hb3 (row_alloc S1.out _)) | replace S1 := Lib.hid (row_call hb3 (row_alloc (row_alloc S1.out _) _)) | replace S1 := Lib.hid (row_call hb3 (row_alloc (row_alloc (row_alloc S1.out _) _) _))
  clear hb3
  have S1_0 : V3.cell? ⟨w.heap.size, 0, none⟩ = some (.string S) := cell_of_row _ _ _ _ _ _ S1.out
  have S1_1 : V3.cell? ⟨w.heap.size, 1, none⟩ = some (.int .i64 off) := cell_of_row _ _ _ _ _ _ S1.out
  have S1_2 : V3.cell? ⟨w.heap.size, 2, none⟩ = some (.bool true) := cell_of_row _ _ _ _ _ _ S1.out
  have S1_3 : V3.cell? ⟨w.heap.size, 3, none⟩ = some (.string B) := cell_of_row _ _ _ _ _ _ S1.out
  have S1_4 : V3.cell? ⟨w.heap.size, 4, none⟩ = some (.slice A N c) := cell_of_row _ _ _ _ _ _ S1.out
  have zS1 := lt_of_heap S1.out
  go_simp
  go_wp2_with fail
  refine (HA.out _ (by first | exact rdk_keep hM (B3.out) | exact rdk_keep hM ((B3.out).alloc (B3.out.size) _) | exact rdk_keep hM (((B3.out).alloc (B3.out.size) _).alloc (by have := B3.out.size; simp <;> omega) _) | exact rdk_keep hM ((((B3.out).alloc (B3.out.size) _).alloc (by have := B3.out.size; simp <;> omega) _).alloc (by have := B3.out.size; simp <;> omega) _))).mono ?_
  rintro e V4 ⟨rfl, hb4⟩
  clear S1_0 S1_1 S1_2 S1_3 S1_4 zS1
  have B4 : Hid (Below w.heap.size w V4) := by first | exact Lib.hid ((B3.out).trans (hb4.mono (by have := B3.out.size; first | assumption | (simp <;> omega) | (simp; done)))) | exact Lib.hid (((B3.out).alloc (B3.out.size) _).trans (hb4.mono (by have := B3.out.size; first | assumption | (simp <;> omega) | (simp; done)))) | exact Lib.hid ((((B3.out).alloc (B3.out.size) _).alloc (by have := B3.out.size; simp <;> omega) _).trans (hb4.mono (by have := B3.out.size; first | assumption | (simp <;> omega) | (simp; done)))) | exact Lib.hid (((((B3.out).alloc (B3.out.size) _).alloc (by have := B3.out.size; simp <;> omega) _).alloc (by have := B3.out.size; simp <;> omega) _).trans (hb4.mono (by have := B3.out.size; first | assumption | (simp <;> omega) | (simp; done))))
  first | replace S1 := Lib.hid (row_call hb4 S1.out) | replace S1 := Lib.hid (row_call hb4 (row_alloc S1.out _)) | replace S1 := Lib.hid (row_call hb4 (row_alloc (row_alloc S1.out _) _)) | replace S1 := Lib.hid (row_call hb4 (row_alloc (row_alloc (row_alloc S1.out _) _) _))
  clear hb4
  have S1_0 : V4.cell? ⟨w.heap.size, 0, none⟩ = some (.string S) := cell_of_row _ _ _ _ _ _ S1.out
  have S1_1 : V4.cell? ⟨w.heap.size, 1, none⟩ = some (.int .i64 off) := cell_of_row _ _ _ _ _ _ S1.out
  have S1_2 : V4.cell? ⟨w.heap.size, 2, none⟩ = some (.bool true) := cell_of_row _ _ _ _ _ _ S1.out
  have S1_3 : V4.cell? ⟨w.heap.size, 3, none⟩ = some (.string B) := cell_of_row _ _ _ _ _ _ S1.out
  have S1_4 : V4.cell? ⟨w.heap.size, 4, none⟩ = some (.slice A N c) := cell_of_row _ _ _ _ _ _ S1.out
  have zS1 := lt_of_heap S1.out
  go_simp
  go_wp2
  go_ret
  exact ⟨rfl, B4.out⟩
set_option maxHeartbeats 1600000 in
set_option maxRecDepth 100000 in
theorem chk_may (S B : ByteArray) (off : Int) (A : Option Addr) (N c : Nat) (xs : List Value) (h16 : decide ((16 : Int) < (N : Int)) = false) (tn : Int) (h4 : decide ((4 : Int) < tn) = false) (HT : Hid (∀ w, (KX w ∧ Rd w A xs) → Calls Tryz.prog 17 #[.slice A N c] w fun e w' => e = .returned (.int .i64 tn) ∧ Below w.heap.size w w')) (HN : Hid (∀ w, (KX w ∧ Rd w A xs) → Calls Tryz.prog 18 #[.string S] w fun e w' => e = .returned (.int .i64 0) ∧ Below w.heap.size w w')) (HM : Hid (∀ w, (KX w ∧ Rd w A xs) → Calls Tryz.prog 19 #[.agg #[.int .i64 off, .bool false, .string B]] w fun e w' => e = .returned (.bool false) ∧ Below w.heap.size w w')) (HA : Hid (∀ w, (KX w ∧ Rd w A xs) → Calls Tryz.prog 20 #[.slice A N c, .func (.func 21) #[] #[]] w fun e w' => e = .returned (.bool false) ∧ Below w.heap.size w w')) (HB : Hid (∀ w, (KX w ∧ Rd w A xs) → Calls Tryz.prog 20 #[.slice A N c, .func (.func 22) #[] #[]] w fun e w' => e = .returned (.bool true) ∧ Below w.heap.size w w')) (w : World) (hM : Hid (KX w ∧ Rd w A xs)) :
    Calls Tryz.prog 10 #[.agg #[.string S, .int .i64 off, .bool false, .string B, .slice A N c]] w fun e w' => e = .returned (.int .i64 5) ∧ Below w.heap.size w w' := by
  go_enter Tryz.func10, Tryz.ntmps10
  go_wp2_with fail
  
  refine (HT.out _ (by first | exact rdk_keep hM ((Below.refl w.heap.size w).alloc (Nat.le_refl _) _))).mono ?_
  rintro e V1 ⟨rfl, hb1⟩
  have B1 := Lib.hid (((Below.refl w.heap.size w).alloc (Nat.le_refl _) _).trans (hb1.mono (by first | assumption | (simp <;> omega) | (simp; done))))
  have S1 := Lib.hid (row_call hb1 (heap_alloc_new _ _))
  clear hb1
  have S1_0 : V1.cell? ⟨w.heap.size, 0, none⟩ = some (.string S) := cell_of_row _ _ _ _ _ _ S1.out
  have S1_1 : V1.cell? ⟨w.heap.size, 1, none⟩ = some (.int .i64 off) := cell_of_row _ _ _ _ _ _ S1.out
  have S1_2 : V1.cell? ⟨w.heap.size, 2, none⟩ = some (.bool false) := cell_of_row _ _ _ _ _ _ S1.out
  have S1_3 : V1.cell? ⟨w.heap.size, 3, none⟩ = some (.string B) := cell_of_row _ _ _ _ _ _ S1.out
  have S1_4 : V1.cell? ⟨w.heap.size, 4, none⟩ = some (.slice A N c) := cell_of_row _ _ _ _ _ _ S1.out
  have zS1 := lt_of_heap S1.out
  go_simp
  go_wp2_with fail
  refine (HN.out _ (by first | exact rdk_keep hM (B1.out) | exact rdk_keep hM ((B1.out).alloc (B1.out.size) _) | exact rdk_keep hM (((B1.out).alloc (B1.out.size) _).alloc (by have := B1.out.size; simp <;> omega) _) | exact rdk_keep hM ((((B1.out).alloc (B1.out.size) _).alloc (by have := B1.out.size; simp <;> omega) _).alloc (by have := B1.out.size; simp <;> omega) _))).mono ?_
  rintro e V2 ⟨rfl, hb2⟩
  clear S1_0 S1_1 S1_2 S1_3 S1_4 zS1
  have B2 : Hid (Below w.heap.size w V2) := by first | exact Lib.hid ((B1.out).trans (hb2.mono (by have := B1.out.size; first | assumption | (simp <;> omega) | (simp; done)))) | exact Lib.hid (((B1.out).alloc (B1.out.size) _).trans (hb2.mono (by have := B1.out.size; first | assumption | (simp <;> omega) | (simp; done)))) | exact Lib.hid ((((B1.out).alloc (B1.out.size) _).alloc (by have := B1.out.size; simp <;> omega) _).trans (hb2.mono (by have := B1.out.size; first | assumption | (simp <;> omega) | (simp; done)))) | exact Lib.hid (((((B1.out).alloc (B1.out.size) _).alloc (by have := B1.out.size; simp <;> omega) _).alloc (by have := B1.out.size; simp <;> omega) _).trans (hb2.mono (by have := B1.out.size; first | assumption | (simp <;> omega) | (simp; done))))
  first | replace S1 := Lib.hid (row_call hb2 S1.out) | replace S1 := Lib.hid (row_call hb2 (row_alloc S1.out _)) | replace S1 := Lib.hid (row_call hb2 (row_alloc (row_alloc S1.out _) _)) | replace S1 := Lib.hid (row_call hb2 (row_alloc (row_alloc (row_alloc S1.out _) _) _))
  clear hb2
  have S1_0 : V2.cell? ⟨w.heap.size, 0, none⟩ = some (.string S) := cell_of_row _ _ _ _ _ _ S1.out
  have S1_1 : V2.cell? ⟨w.heap.size, 1, none⟩ = some (.int .i64 off) := cell_of_row _ _ _ _ _ _ S1.out
  have S1_2 : V2.cell? ⟨w.heap.size, 2, none⟩ = some (.bool false) := cell_of_row _ _ _ _ _ _ S1.out
  have S1_3 : V2.cell? ⟨w.heap.size, 3, none⟩ = some (.string B) := cell_of_row _ _ _ _ _ _ S1.out
  have S1_4 : V2.cell? ⟨w.heap.size, 4, none⟩ = some (.slice A N c) := cell_of_row _ _ _ _ _ _ S1.out
  have zS1 := lt_of_heap S1.out
  go_simp
  go_wp2_with fail
  refine (HM.out _ (by first | exact rdk_keep hM (B2.out) | exact rdk_keep hM ((B2.out).alloc (B2.out.size) _) | exact rdk_keep hM (((B2.out).alloc (B2.out.size) _).alloc (by have := B2.out.size; simp <;> omega) _) | exact rdk_keep hM ((((B2.out).alloc (B2.out.size) _).alloc (by have := B2.out.size; simp <;> omega) _).alloc (by have := B2.out.size; simp <;> omega) _))).mono ?_
  rintro e V3 ⟨rfl, hb3⟩
  clear S1_0 S1_1 S1_2 S1_3 S1_4 zS1
  have B3 : Hid (Below w.heap.size w V3) := by first | exact Lib.hid ((B2.out).trans (hb3.mono (by have := B2.out.size; first | assumption | (simp <;> omega) | (simp; done)))) | exact Lib.hid (((B2.out).alloc (B2.out.size) _).trans (hb3.mono (by have := B2.out.size; first | assumption | (simp <;> omega) | (simp; done)))) | exact Lib.hid ((((B2.out).alloc (B2.out.size) _).alloc (by have := B2.out.size; simp <;> omega) _).trans (hb3.mono (by have := B2.out.size; first | assumption | (simp <;> omega) | (simp; done)))) | exact Lib.hid (((((B2.out).alloc (B2.out.size) _).alloc (by have := B2.out.size; simp <;> omega) _).alloc (by have := B2.out.size; simp <;> omega) _).trans (hb3.mono (by have := B2.out.size; first | assumption | (simp <;> omega) | (simp; done))))
  first | replace S1 := Lib.hid (row_call hb3 S1.out) | replace S1 := Lib.hid (row_call hb3 (row_alloc S1.out _)) | replace S1 := Lib.hid (row_call hb3 (row_alloc (row_alloc S1.out _) _)) | replace S1 := Lib.hid (row_call hb3 (row_alloc (row_alloc (row_alloc S1.out _) _) _))
  clear hb3
  have S1_0 : V3.cell? ⟨w.heap.size, 0, none⟩ = some (.string S) := cell_of_row _ _ _ _ _ _ S1.out
  have S1_1 : V3.cell? ⟨w.heap.size, 1, none⟩ = some (.int .i64 off) := cell_of_row _ _ _ _ _ _ S1.out
  have S1_2 : V3.cell? ⟨w.heap.size, 2, none⟩ = some (.bool false) := cell_of_row _ _ _ _ _ _ S1.out
  have S1_3 : V3.cell? ⟨w.heap.size, 3, none⟩ = some (.string B) := cell_of_row _ _ _ _ _ _ S1.out
  have S1_4 : V3.cell? ⟨w.heap.size, 4, none⟩ = some (.slice A N c) := cell_of_row _ _ _ _ _ _ S1.out
  have zS1 := lt_of_heap S1.out
  go_simp
  go_wp2_with fail
  refine (HA.out _ (by first | exact rdk_keep hM (B3.out) | exact rdk_keep hM ((B3.out).alloc (B3.out.size) _) | exact rdk_keep hM (((B3.out).alloc (B3.out.size) _).alloc (by have := B3.out.size; simp <;> omega) _) | exact rdk_keep hM ((((B3.out).alloc (B3.out.size) _).alloc (by have := B3.out.size; simp <;> omega) _).alloc (by have := B3.out.size; simp <;> omega) _))).mono ?_
  rintro e V4 ⟨rfl, hb4⟩
  clear S1_0 S1_1 S1_2 S1_3 S1_4 zS1
  have B4 : Hid (Below w.heap.size w V4) := by first | exact Lib.hid ((B3.out).trans (hb4.mono (by have := B3.out.size; first | assumption | (simp <;> omega) | (simp; done)))) | exact Lib.hid (((B3.out).alloc (B3.out.size) _).trans (hb4.mono (by have := B3.out.size; first | assumption | (simp <;> omega) | (simp; done)))) | exact Lib.hid ((((B3.out).alloc (B3.out.size) _).alloc (by have := B3.out.size; simp <;> omega) _).trans (hb4.mono (by have := B3.out.size; first | assumption | (simp <;> omega) | (simp; done)))) | exact Lib.hid (((((B3.out).alloc (B3.out.size) _).alloc (by have := B3.out.size; simp <;> omega) _).alloc (by have := B3.out.size; simp <;> omega) _).trans (hb4.mono (by have := B3.out.size; first | assumption | (simp <;> omega) | (simp; done))))
  first | replace S1 := Lib.hid (row_call hb4 S1.out) | replace S1 := Lib.hid (row_call hb4 (row_alloc S1.out _)) | replace S1 := Lib.hid (row_call hb4 (row_alloc (row_alloc S1.out _) _)) | replace S1 := Lib.hid (row_call hb4 (row_alloc (row_alloc (row_alloc S1.out _) _) _))
  clear hb4
  have S1_0 : V4.cell? ⟨w.heap.size, 0, none⟩ = some (.string S) := cell_of_row _ _ _ _ _ _ S1.out
  have S1_1 : V4.cell? ⟨w.heap.size, 1, none⟩ = some (.int .i64 off) := cell_of_row _ _ _ _ _ _ S1.out
  have S1_2 : V4.cell? ⟨w.heap.size, 2, none⟩ = some (.bool false) := cell_of_row _ _ _ _ _ _ S1.out
  have S1_3 : V4.cell? ⟨w.heap.size, 3, none⟩ = some (.string B) := cell_of_row _ _ _ _ _ _ S1.out
  have S1_4 : V4.cell? ⟨w.heap.size, 4, none⟩ = some (.slice A N c) := cell_of_row _ _ _ _ _ _ S1.out
  have zS1 := lt_of_heap S1.out
  go_simp
  go_wp2_with fail
  refine (HB.out _ (by first | exact rdk_keep hM (B4.out) | exact rdk_keep hM ((B4.out).alloc (B4.out.size) _) | exact rdk_keep hM (((B4.out).alloc (B4.out.size) _).alloc (by have := B4.out.size; simp <;> omega) _) | exact rdk_keep hM ((((B4.out).alloc (B4.out.size) _).alloc (by have := B4.out.size; simp <;> omega) _).alloc (by have := B4.out.size; simp <;> omega) _))).mono ?_
  rintro e V5 ⟨rfl, hb5⟩
  clear S1_0 S1_1 S1_2 S1_3 S1_4 zS1
  have B5 : Hid (Below w.heap.size w V5) := by first | exact Lib.hid ((B4.out).trans (hb5.mono (by have := B4.out.size; first | assumption | (simp <;> omega) | (simp; done)))) | exact Lib.hid (((B4.out).alloc (B4.out.size) _).trans (hb5.mono (by have := B4.out.size; first | assumption | (simp <;> omega) | (simp; done)))) | exact Lib.hid ((((B4.out).alloc (B4.out.size) _).alloc (by have := B4.out.size; simp <;> omega) _).trans (hb5.mono (by have := B4.out.size; first | assumption | (simp <;> omega) | (simp; done)))) | exact Lib.hid (((((B4.out).alloc (B4.out.size) _).alloc (by have := B4.out.size; simp <;> omega) _).alloc (by have := B4.out.size; simp <;> omega) _).trans (hb5.mono (by have := B4.out.size; first | assumption | (simp <;> omega) | (simp; done))))
  first | replace S1 := Lib.hid (row_call hb5 S1.out) | replace S1 := Lib.hid (row_call hb5 (row_alloc S1.out _)) | replace S1 := Lib.hid (row_call hb5 (row_alloc (row_alloc S1.out _) _)) | replace S1 := Lib.hid (row_call hb5 (row_alloc (row_alloc (row_alloc S1.out _) _) _))
  clear hb5
  have S1_0 : V5.cell? ⟨w.heap.size, 0, none⟩ = some (.string S) := cell_of_row _ _ _ _ _ _ S1.out
  have S1_1 : V5.cell? ⟨w.heap.size, 1, none⟩ = some (.int .i64 off) := cell_of_row _ _ _ _ _ _ S1.out
  have S1_2 : V5.cell? ⟨w.heap.size, 2, none⟩ = some (.bool false) := cell_of_row _ _ _ _ _ _ S1.out
  have S1_3 : V5.cell? ⟨w.heap.size, 3, none⟩ = some (.string B) := cell_of_row _ _ _ _ _ _ S1.out
  have S1_4 : V5.cell? ⟨w.heap.size, 4, none⟩ = some (.slice A N c) := cell_of_row _ _ _ _ _ _ S1.out
  have zS1 := lt_of_heap S1.out
  go_simp
  go_wp2
  go_ret
  exact ⟨rfl, B5.out⟩
set_option maxHeartbeats 1600000 in
set_option maxRecDepth 100000 in
theorem chk_far (S B : ByteArray) (off : Int) (A : Option Addr) (N c : Nat) (xs : List Value) (h16 : decide ((16 : Int) < (N : Int)) = false) (tn : Int) (h4 : decide ((4 : Int) < tn) = false) (HT : Hid (∀ w, (KX w ∧ Rd w A xs) → Calls Tryz.prog 17 #[.slice A N c] w fun e w' => e = .returned (.int .i64 tn) ∧ Below w.heap.size w w')) (HN : Hid (∀ w, (KX w ∧ Rd w A xs) → Calls Tryz.prog 18 #[.string S] w fun e w' => e = .returned (.int .i64 0) ∧ Below w.heap.size w w')) (HM : Hid (∀ w, (KX w ∧ Rd w A xs) → Calls Tryz.prog 19 #[.agg #[.int .i64 off, .bool false, .string B]] w fun e w' => e = .returned (.bool false) ∧ Below w.heap.size w w')) (HA : Hid (∀ w, (KX w ∧ Rd w A xs) → Calls Tryz.prog 20 #[.slice A N c, .func (.func 21) #[] #[]] w fun e w' => e = .returned (.bool false) ∧ Below w.heap.size w w')) (HB : Hid (∀ w, (KX w ∧ Rd w A xs) → Calls Tryz.prog 20 #[.slice A N c, .func (.func 22) #[] #[]] w fun e w' => e = .returned (.bool false) ∧ Below w.heap.size w w')) (HF : Hid (∀ w, (KX w ∧ Rd w A xs) → Calls Tryz.prog 23 #[.agg #[.int .i64 off, .bool false, .string B]] w fun e w' => e = .returned (.bool true) ∧ Below w.heap.size w w')) (w : World) (hM : Hid (KX w ∧ Rd w A xs)) :
    Calls Tryz.prog 10 #[.agg #[.string S, .int .i64 off, .bool false, .string B, .slice A N c]] w fun e w' => e = .returned (.int .i64 8) ∧ Below w.heap.size w w' := by
  go_enter Tryz.func10, Tryz.ntmps10
  go_wp2_with fail
  
  refine (HT.out _ (by first | exact rdk_keep hM ((Below.refl w.heap.size w).alloc (Nat.le_refl _) _))).mono ?_
  rintro e V1 ⟨rfl, hb1⟩
  have B1 := Lib.hid (((Below.refl w.heap.size w).alloc (Nat.le_refl _) _).trans (hb1.mono (by first | assumption | (simp <;> omega) | (simp; done))))
  have S1 := Lib.hid (row_call hb1 (heap_alloc_new _ _))
  clear hb1
  have S1_0 : V1.cell? ⟨w.heap.size, 0, none⟩ = some (.string S) := cell_of_row _ _ _ _ _ _ S1.out
  have S1_1 : V1.cell? ⟨w.heap.size, 1, none⟩ = some (.int .i64 off) := cell_of_row _ _ _ _ _ _ S1.out
  have S1_2 : V1.cell? ⟨w.heap.size, 2, none⟩ = some (.bool false) := cell_of_row _ _ _ _ _ _ S1.out
  have S1_3 : V1.cell? ⟨w.heap.size, 3, none⟩ = some (.string B) := cell_of_row _ _ _ _ _ _ S1.out
  have S1_4 : V1.cell? ⟨w.heap.size, 4, none⟩ = some (.slice A N c) := cell_of_row _ _ _ _ _ _ S1.out
  have zS1 := lt_of_heap S1.out
  go_simp
  go_wp2_with fail
  refine (HN.out _ (by first | exact rdk_keep hM (B1.out) | exact rdk_keep hM ((B1.out).alloc (B1.out.size) _) | exact rdk_keep hM (((B1.out).alloc (B1.out.size) _).alloc (by have := B1.out.size; simp <;> omega) _) | exact rdk_keep hM ((((B1.out).alloc (B1.out.size) _).alloc (by have := B1.out.size; simp <;> omega) _).alloc (by have := B1.out.size; simp <;> omega) _))).mono ?_
  rintro e V2 ⟨rfl, hb2⟩
  clear S1_0 S1_1 S1_2 S1_3 S1_4 zS1
  have B2 : Hid (Below w.heap.size w V2) := by first | exact Lib.hid ((B1.out).trans (hb2.mono (by have := B1.out.size; first | assumption | (simp <;> omega) | (simp; done)))) | exact Lib.hid (((B1.out).alloc (B1.out.size) _).trans (hb2.mono (by have := B1.out.size; first | assumption | (simp <;> omega) | (simp; done)))) | exact Lib.hid ((((B1.out).alloc (B1.out.size) _).alloc (by have := B1.out.size; simp <;> omega) _).trans (hb2.mono (by have := B1.out.size; first | assumption | (simp <;> omega) | (simp; done)))) | exact Lib.hid (((((B1.out).alloc (B1.out.size) _).alloc (by have := B1.out.size; simp <;> omega) _).alloc (by have := B1.out.size; simp <;> omega) _).trans (hb2.mono (by have := B1.out.size; first | assumption | (simp <;> omega) | (simp; done))))
  first | replace S1 := Lib.hid (row_call hb2 S1.out) | replace S1 := Lib.hid (row_call hb2 (row_alloc S1.out _)) | replace S1 := Lib.hid (row_call hb2 (row_alloc (row_alloc S1.out _) _)) | replace S1 := Lib.hid (row_call hb2 (row_alloc (row_alloc (row_alloc S1.out _) _) _))
  clear hb2
  have S1_0 : V2.cell? ⟨w.heap.size, 0, none⟩ = some (.string S) := cell_of_row _ _ _ _ _ _ S1.out
  have S1_1 : V2.cell? ⟨w.heap.size, 1, none⟩ = some (.int .i64 off) := cell_of_row _ _ _ _ _ _ S1.out
  have S1_2 : V2.cell? ⟨w.heap.size, 2, none⟩ = some (.bool false) := cell_of_row _ _ _ _ _ _ S1.out
  have S1_3 : V2.cell? ⟨w.heap.size, 3, none⟩ = some (.string B) := cell_of_row _ _ _ _ _ _ S1.out
  have S1_4 : V2.cell? ⟨w.heap.size, 4, none⟩ = some (.slice A N c) := cell_of_row _ _ _ _ _ _ S1.out
  have zS1 := lt_of_heap S1.out
  go_simp
  go_wp2_with fail
  refine (HM.out _ (by first | exact rdk_keep hM (B2.out) | exact rdk_keep hM ((B2.out).alloc (B2.out.size) _) | exact rdk_keep hM (((B2.out).alloc (B2.out.size) _).alloc (by have := B2.out.size; simp <;> omega) _) | exact rdk_keep hM ((((B2.out).alloc (B2.out.size) _).alloc (by have := B2.out.size; simp <;> omega) _).alloc (by have := B2.out.size; simp <;> omega) _))).mono ?_
  rintro e V3 ⟨rfl, hb3⟩
  clear S1_0 S1_1 S1_2 S1_3 S1_4 zS1
  have B3 : Hid (Below w.heap.size w V3) := by first | exact Lib.hid ((B2.out).trans (hb3.mono (by have := B2.out.size; first | assumption | (simp <;> omega) | (simp; done)))) | exact Lib.hid (((B2.out).alloc (B2.out.size) _).trans (hb3.mono (by have := B2.out.size; first | assumption | (simp <;> omega) | (simp; done)))) | exact Lib.hid ((((B2.out).alloc (B2.out.size) _).alloc (by have := B2.out.size; simp <;> omega) _).trans (hb3.mono (by have := B2.out.size; first | assumption | (simp <;> omega) | (simp; done)))) | exact Lib.hid (((((B2.out).alloc (B2.out.size) _).alloc (by have := B2.out.size; simp <;> omega) _).alloc (by have := B2.out.size; simp <;> omega) _).trans (hb3.mono (by have := B2.out.size; first | assumption | (simp <;> omega) | (simp; done))))
  first | replace S1 := Lib.hid (row_call hb3 S1.out) | replace S1 := Lib.hid (row_call hb3 (row_alloc S1.out _)) | replace S1 := Lib.hid (row_call hb3 (row_alloc (row_alloc S1.out _) _)) | replace S1 := Lib.hid (row_call hb3 (row_alloc (row_alloc (row_alloc S1.out _) _) _))
  clear hb3
  have S1_0 : V3.cell? ⟨w.heap.size, 0, none⟩ = some (.string S) := cell_of_row _ _ _ _ _ _ S1.out
  have S1_1 : V3.cell? ⟨w.heap.size, 1, none⟩ = some (.int .i64 off) := cell_of_row _ _ _ _ _ _ S1.out
  have S1_2 : V3.cell? ⟨w.heap.size, 2, none⟩ = some (.bool false) := cell_of_row _ _ _ _ _ _ S1.out
  have S1_3 : V3.cell? ⟨w.heap.size, 3, none⟩ = some (.string B) := cell_of_row _ _ _ _ _ _ S1.out
  have S1_4 : V3.cell? ⟨w.heap.size, 4, none⟩ = some (.slice A N c) := cell_of_row _ _ _ _ _ _ S1.out
  have zS1 := lt_of_heap S1.out
  go_simp
  go_wp2_with fail
  refine (HA.out _ (by first | exact rdk_keep hM (B3.out) | exact rdk_keep hM ((B3.out).alloc (B3.out.size) _) | exact rdk_keep hM (((B3.out).alloc (B3.out.size) _).alloc (by have := B3.out.size; simp <;> omega) _) | exact rdk_keep hM ((((B3.out).alloc (B3.out.size) _).alloc (by have := B3.out.size; simp <;> omega) _).alloc (by have := B3.out.size; simp <;> omega) _))).mono ?_
  rintro e V4 ⟨rfl, hb4⟩
  clear S1_0 S1_1 S1_2 S1_3 S1_4 zS1
  have B4 : Hid (Below w.heap.size w V4) := by first | exact Lib.hid ((B3.out).trans (hb4.mono (by have := B3.out.size; first | assumption | (simp <;> omega) | (simp; done)))) | exact Lib.hid (((B3.out).alloc (B3.out.size) _).trans (hb4.mono (by have := B3.out.size; first | assumption | (simp <;> omega) | (simp; done)))) | exact Lib.hid ((((B3.out).alloc (B3.out.size) _).alloc (by have := B3.out.size; simp <;> omega) _).trans (hb4.mono (by have := B3.out.size; first | assumption | (simp <;> omega) | (simp; done)))) | exact Lib.hid (((((B3.out).alloc (B3.out.size) _).alloc (by have := B3.out.size; simp <;> omega) _).alloc (by have := B3.out.size; simp <;> omega) _).trans (hb4.mono (by have := B3.out.size; first | assumption | (simp <;> omega) | (simp; done))))
  first | replace S1 := Lib.hid (row_call hb4 S1.out) | replace S1 := Lib.hid (row_call hb4 (row_alloc S1.out _)) | replace S1 := Lib.hid (row_call hb4 (row_alloc (row_alloc S1.out _) _)) | replace S1 := Lib.hid (row_call hb4 (row_alloc (row_alloc (row_alloc S1.out _) _) _))
  clear hb4
  have S1_0 : V4.cell? ⟨w.heap.size, 0, none⟩ = some (.string S) := cell_of_row _ _ _ _ _ _ S1.out
  have S1_1 : V4.cell? ⟨w.heap.size, 1, none⟩ = some (.int .i64 off) := cell_of_row _ _ _ _ _ _ S1.out
  have S1_2 : V4.cell? ⟨w.heap.size, 2, none⟩ = some (.bool false) := cell_of_row _ _ _ _ _ _ S1.out
  have S1_3 : V4.cell? ⟨w.heap.size, 3, none⟩ = some (.string B) := cell_of_row _ _ _ _ _ _ S1.out
  have S1_4 : V4.cell? ⟨w.heap.size, 4, none⟩ = some (.slice A N c) := cell_of_row _ _ _ _ _ _ S1.out
  have zS1 := lt_of_heap S1.out
  go_simp
  go_wp2_with fail
  refine (HB.out _ (by first | exact rdk_keep hM (B4.out) | exact rdk_keep hM ((B4.out).alloc (B4.out.size) _) | exact rdk_keep hM (((B4.out).alloc (B4.out.size) _).alloc (by have := B4.out.size; simp <;> omega) _) | exact rdk_keep hM ((((B4.out).alloc (B4.out.size) _).alloc (by have := B4.out.size; simp <;> omega) _).alloc (by have := B4.out.size; simp <;> omega) _))).mono ?_
  rintro e V5 ⟨rfl, hb5⟩
  clear S1_0 S1_1 S1_2 S1_3 S1_4 zS1
  have B5 : Hid (Below w.heap.size w V5) := by first | exact Lib.hid ((B4.out).trans (hb5.mono (by have := B4.out.size; first | assumption | (simp <;> omega) | (simp; done)))) | exact Lib.hid (((B4.out).alloc (B4.out.size) _).trans (hb5.mono (by have := B4.out.size; first | assumption | (simp <;> omega) | (simp; done)))) | exact Lib.hid ((((B4.out).alloc (B4.out.size) _).alloc (by have := B4.out.size; simp <;> omega) _).trans (hb5.mono (by have := B4.out.size; first | assumption | (simp <;> omega) | (simp; done)))) | exact Lib.hid (((((B4.out).alloc (B4.out.size) _).alloc (by have := B4.out.size; simp <;> omega) _).alloc (by have := B4.out.size; simp <;> omega) _).trans (hb5.mono (by have := B4.out.size; first | assumption | (simp <;> omega) | (simp; done))))
  first | replace S1 := Lib.hid (row_call hb5 S1.out) | replace S1 := Lib.hid (row_call hb5 (row_alloc S1.out _)) | replace S1 := Lib.hid (row_call hb5 (row_alloc (row_alloc S1.out _) _)) | replace S1 := Lib.hid (row_call hb5 (row_alloc (row_alloc (row_alloc S1.out _) _) _))
  clear hb5
  have S1_0 : V5.cell? ⟨w.heap.size, 0, none⟩ = some (.string S) := cell_of_row _ _ _ _ _ _ S1.out
  have S1_1 : V5.cell? ⟨w.heap.size, 1, none⟩ = some (.int .i64 off) := cell_of_row _ _ _ _ _ _ S1.out
  have S1_2 : V5.cell? ⟨w.heap.size, 2, none⟩ = some (.bool false) := cell_of_row _ _ _ _ _ _ S1.out
  have S1_3 : V5.cell? ⟨w.heap.size, 3, none⟩ = some (.string B) := cell_of_row _ _ _ _ _ _ S1.out
  have S1_4 : V5.cell? ⟨w.heap.size, 4, none⟩ = some (.slice A N c) := cell_of_row _ _ _ _ _ _ S1.out
  have zS1 := lt_of_heap S1.out
  go_simp
  go_wp2_with fail
  refine (HF.out _ (by first | exact rdk_keep hM (B5.out) | exact rdk_keep hM ((B5.out).alloc (B5.out.size) _) | exact rdk_keep hM (((B5.out).alloc (B5.out.size) _).alloc (by have := B5.out.size; simp <;> omega) _) | exact rdk_keep hM ((((B5.out).alloc (B5.out.size) _).alloc (by have := B5.out.size; simp <;> omega) _).alloc (by have := B5.out.size; simp <;> omega) _))).mono ?_
  rintro e V6 ⟨rfl, hb6⟩
  clear S1_0 S1_1 S1_2 S1_3 S1_4 zS1
  have B6 : Hid (Below w.heap.size w V6) := by first | exact Lib.hid ((B5.out).trans (hb6.mono (by have := B5.out.size; first | assumption | (simp <;> omega) | (simp; done)))) | exact Lib.hid (((B5.out).alloc (B5.out.size) _).trans (hb6.mono (by have := B5.out.size; first | assumption | (simp <;> omega) | (simp; done)))) | exact Lib.hid ((((B5.out).alloc (B5.out.size) _).alloc (by have := B5.out.size; simp <;> omega) _).trans (hb6.mono (by have := B5.out.size; first | assumption | (simp <;> omega) | (simp; done)))) | exact Lib.hid (((((B5.out).alloc (B5.out.size) _).alloc (by have := B5.out.size; simp <;> omega) _).alloc (by have := B5.out.size; simp <;> omega) _).trans (hb6.mono (by have := B5.out.size; first | assumption | (simp <;> omega) | (simp; done))))
  first | replace S1 := Lib.hid (row_call hb6 S1.out) | replace S1 := Lib.hid (row_call hb6 (row_alloc S1.out _)) | replace S1 := Lib.hid (row_call hb6 (row_alloc (row_alloc S1.out _) _)) | replace S1 := Lib.hid (row_call hb6 (row_alloc (row_alloc (row_alloc S1.out _) _) _))
  clear hb6
  have S1_0 : V6.cell? ⟨w.heap.size, 0, none⟩ = some (.string S) := cell_of_row _ _ _ _ _ _ S1.out
  have S1_1 : V6.cell? ⟨w.heap.size, 1, none⟩ = some (.int .i64 off) := cell_of_row _ _ _ _ _ _ S1.out
  have S1_2 : V6.cell? ⟨w.heap.size, 2, none⟩ = some (.bool false) := cell_of_row _ _ _ _ _ _ S1.out
  have S1_3 : V6.cell? ⟨w.heap.size, 3, none⟩ = some (.string B) := cell_of_row _ _ _ _ _ _ S1.out
  have S1_4 : V6.cell? ⟨w.heap.size, 4, none⟩ = some (.slice A N c) := cell_of_row _ _ _ _ _ _ S1.out
  have zS1 := lt_of_heap S1.out
  go_simp
  go_wp2
  go_ret
  exact ⟨rfl, B6.out⟩
set_option maxHeartbeats 1600000 in
set_option maxRecDepth 100000 in
theorem chk_fars (S B : ByteArray) (off : Int) (A : Option Addr) (N c : Nat) (xs : List Value) (h16 : decide ((16 : Int) < (N : Int)) = false) (tn : Int) (h4 : decide ((4 : Int) < tn) = false) (HT : Hid (∀ w, (KX w ∧ Rd w A xs) → Calls Tryz.prog 17 #[.slice A N c] w fun e w' => e = .returned (.int .i64 tn) ∧ Below w.heap.size w w')) (HN : Hid (∀ w, (KX w ∧ Rd w A xs) → Calls Tryz.prog 18 #[.string S] w fun e w' => e = .returned (.int .i64 0) ∧ Below w.heap.size w w')) (HM : Hid (∀ w, (KX w ∧ Rd w A xs) → Calls Tryz.prog 19 #[.agg #[.int .i64 off, .bool false, .string B]] w fun e w' => e = .returned (.bool false) ∧ Below w.heap.size w w')) (HA : Hid (∀ w, (KX w ∧ Rd w A xs) → Calls Tryz.prog 20 #[.slice A N c, .func (.func 21) #[] #[]] w fun e w' => e = .returned (.bool false) ∧ Below w.heap.size w w')) (HB : Hid (∀ w, (KX w ∧ Rd w A xs) → Calls Tryz.prog 20 #[.slice A N c, .func (.func 22) #[] #[]] w fun e w' => e = .returned (.bool false) ∧ Below w.heap.size w w')) (HF : Hid (∀ w, (KX w ∧ Rd w A xs) → Calls Tryz.prog 23 #[.agg #[.int .i64 off, .bool false, .string B]] w fun e w' => e = .returned (.bool false) ∧ Below w.heap.size w w')) (HG : Hid (∀ w, (KX w ∧ Rd w A xs) → Calls Tryz.prog 20 #[.slice A N c, .func (.func 24) #[] #[]] w fun e w' => e = .returned (.bool true) ∧ Below w.heap.size w w')) (w : World) (hM : Hid (KX w ∧ Rd w A xs)) :
    Calls Tryz.prog 10 #[.agg #[.string S, .int .i64 off, .bool false, .string B, .slice A N c]] w fun e w' => e = .returned (.int .i64 8) ∧ Below w.heap.size w w' := by
  go_enter Tryz.func10, Tryz.ntmps10
  go_wp2_with fail
  
  refine (HT.out _ (by first | exact rdk_keep hM ((Below.refl w.heap.size w).alloc (Nat.le_refl _) _))).mono ?_
  rintro e V1 ⟨rfl, hb1⟩
  have B1 := Lib.hid (((Below.refl w.heap.size w).alloc (Nat.le_refl _) _).trans (hb1.mono (by first | assumption | (simp <;> omega) | (simp; done))))
  have S1 := Lib.hid (row_call hb1 (heap_alloc_new _ _))
  clear hb1
  have S1_0 : V1.cell? ⟨w.heap.size, 0, none⟩ = some (.string S) := cell_of_row _ _ _ _ _ _ S1.out
  have S1_1 : V1.cell? ⟨w.heap.size, 1, none⟩ = some (.int .i64 off) := cell_of_row _ _ _ _ _ _ S1.out
  have S1_2 : V1.cell? ⟨w.heap.size, 2, none⟩ = some (.bool false) := cell_of_row _ _ _ _ _ _ S1.out
  have S1_3 : V1.cell? ⟨w.heap.size, 3, none⟩ = some (.string B) := cell_of_row _ _ _ _ _ _ S1.out
  have S1_4 : V1.cell? ⟨w.heap.size, 4, none⟩ = some (.slice A N c) := cell_of_row _ _ _ _ _ _ S1.out
  have zS1 := lt_of_heap S1.out
  go_simp
  go_wp2_with fail
  refine (HN.out _ (by first | exact rdk_keep hM (B1.out) | exact rdk_keep hM ((B1.out).alloc (B1.out.size) _) | exact rdk_keep hM (((B1.out).alloc (B1.out.size) _).alloc (by have := B1.out.size; simp <;> omega) _) | exact rdk_keep hM ((((B1.out).alloc (B1.out.size) _).alloc (by have := B1.out.size; simp <;> omega) _).alloc (by have := B1.out.size; simp <;> omega) _))).mono ?_
  rintro e V2 ⟨rfl, hb2⟩
  clear S1_0 S1_1 S1_2 S1_3 S1_4 zS1
  have B2 : Hid (Below w.heap.size w V2) := by first | exact Lib.hid ((B1.out).trans (hb2.mono (by have := B1.out.size; first | assumption | (simp <;> omega) | (simp; done)))) | exact Lib.hid (((B1.out).alloc (B1.out.size) _).trans (hb2.mono (by have := B1.out.size; first | assumption | (simp <;> omega) | (simp; done)))) | exact Lib.hid ((((B1.out).alloc (B1.out.size) _).alloc (by have := B1.out.size; simp <;> omega) _).trans (hb2.mono (by have := B1.out.size; first | assumption | (simp <;> omega) | (simp; done)))) | exact Lib.hid (((((B1.out).alloc (B1.out.size) _).alloc (by have := B1.out.size; simp <;> omega) _).alloc (by have := B1.out.size; simp <;> omega) _).trans (hb2.mono (by have := B1.out.size; first | assumption | (simp <;> omega) | (simp; done))))
  first | replace S1 := Lib.hid (row_call hb2 S1.out) | replace S1 := Lib.hid (row_call hb2 (row_alloc S1.out _)) | replace S1 := Lib.hid (row_call hb2 (row_alloc (row_alloc S1.out _) _)) | replace S1 := Lib.hid (row_call hb2 (row_alloc (row_alloc (row_alloc S1.out _) _) _))
  clear hb2
  have S1_0 : V2.cell? ⟨w.heap.size, 0, none⟩ = some (.string S) := cell_of_row _ _ _ _ _ _ S1.out
  have S1_1 : V2.cell? ⟨w.heap.size, 1, none⟩ = some (.int .i64 off) := cell_of_row _ _ _ _ _ _ S1.out
  have S1_2 : V2.cell? ⟨w.heap.size, 2, none⟩ = some (.bool false) := cell_of_row _ _ _ _ _ _ S1.out
  have S1_3 : V2.cell? ⟨w.heap.size, 3, none⟩ = some (.string B) := cell_of_row _ _ _ _ _ _ S1.out
  have S1_4 : V2.cell? ⟨w.heap.size, 4, none⟩ = some (.slice A N c) := cell_of_row _ _ _ _ _ _ S1.out
  have zS1 := lt_of_heap S1.out
  go_simp
  go_wp2_with fail
  refine (HM.out _ (by first | exact rdk_keep hM (B2.out) | exact rdk_keep hM ((B2.out).alloc (B2.out.size) _) | exact rdk_keep hM (((B2.out).alloc (B2.out.size) _).alloc (by have := B2.out.size; simp <;> omega) _) | exact rdk_keep hM ((((B2.out).alloc (B2.out.size) _).alloc (by have := B2.out.size; simp <;> omega) _).alloc (by have := B2.out.size; simp <;> omega) _))).mono ?_
  rintro e V3 ⟨rfl, hb3⟩
  clear S1_0 S1_1 S1_2 S1_3 S1_4 zS1
  have B3 : Hid (Below w.heap.size w V3) := by first | exact Lib.hid ((B2.out).trans (hb3.mono (by have := B2.out.size; first | assumption | (simp <;> omega) | (simp; done)))) | exact Lib.hid (((B2.out).alloc (B2.out.size) _).trans (hb3.mono (by have := B2.out.size; first | assumption | (simp <;> omega) | (simp; done)))) | exact Lib.hid ((((B2.out).alloc (B2.out.size) _).alloc (by have := B2.out.size; simp <;> omega) _).trans (hb3.mono (by have := B2.out.size; first | assumption | (simp <;> omega) | (simp; done)))) | exact Lib.hid (((((B2.out).alloc (B2.out.size) _).alloc (by have := B2.out.size; simp <;> omega) _).alloc (by have := B2.out.size; simp <;> omega) _).trans (hb3.mono (by have := B2.out.size; first | assumption | (simp <;> omega) | (simp; done))))
  first | replace S1 := Lib.hid (row_call hb3 S1.out) | replace S1 := Lib.hid (row_call hb3 (row_alloc S1.out _)) | replace S1 := Lib.hid (row_call hb3 (row_alloc (row_alloc S1.out _) _)) | replace S1 := Lib.hid (row_call hb3 (row_alloc (row_alloc (row_alloc S1.out _) _) _))
  clear hb3
  have S1_0 : V3.cell? ⟨w.heap.size, 0, none⟩ = some (.string S) := cell_of_row _ _ _ _ _ _ S1.out
  have S1_1 : V3.cell? ⟨w.heap.size, 1, none⟩ = some (.int .i64 off) := cell_of_row _ _ _ _ _ _ S1.out
  have S1_2 : V3.cell? ⟨w.heap.size, 2, none⟩ = some (.bool false) := cell_of_row _ _ _ _ _ _ S1.out
  have S1_3 : V3.cell? ⟨w.heap.size, 3, none⟩ = some (.string B) := cell_of_row _ _ _ _ _ _ S1.out
  have S1_4 : V3.cell? ⟨w.heap.size, 4, none⟩ = some (.slice A N c) := cell_of_row _ _ _ _ _ _ S1.out
  have zS1 := lt_of_heap S1.out
  go_simp
  go_wp2_with fail
  refine (HA.out _ (by first | exact rdk_keep hM (B3.out) | exact rdk_keep hM ((B3.out).alloc (B3.out.size) _) | exact rdk_keep hM (((B3.out).alloc (B3.out.size) _).alloc (by have := B3.out.size; simp <;> omega) _) | exact rdk_keep hM ((((B3.out).alloc (B3.out.size) _).alloc (by have := B3.out.size; simp <;> omega) _).alloc (by have := B3.out.size; simp <;> omega) _))).mono ?_
  rintro e V4 ⟨rfl, hb4⟩
  clear S1_0 S1_1 S1_2 S1_3 S1_4 zS1
  have B4 : Hid (Below w.heap.size w V4) := by first | exact Lib.hid ((B3.out).trans (hb4.mono (by have := B3.out.size; first | assumption | (simp <;> omega) | (simp; done)))) | exact Lib.hid (((B3.out).alloc (B3.out.size) _).trans (hb4.mono (by have := B3.out.size; first | assumption | (simp <;> omega) | (simp; done)))) | exact Lib.hid ((((B3.out).alloc (B3.out.size) _).alloc (by have := B3.out.size; simp <;> omega) _).trans (hb4.mono (by have := B3.out.size; first | assumption | (simp <;> omega) | (simp; done)))) | exact Lib.hid (((((B3.out).alloc (B3.out.size) _).alloc (by have := B3.out.size; simp <;> omega) _).alloc (by have := B3.out.size; simp <;> omega) _).trans (hb4.mono (by have := B3.out.size; first | assumption | (simp <;> omega) | (simp; done))))
  first | replace S1 := Lib.hid (row_call hb4 S1.out) | replace S1 := Lib.hid (row_call hb4 (row_alloc S1.out _)) | replace S1 := Lib.hid (row_call hb4 (row_alloc (row_alloc S1.out _) _)) | replace S1 := Lib.hid (row_call hb4 (row_alloc (row_alloc (row_alloc S1.out _) _) _))
  clear hb4
  have S1_0 : V4.cell? ⟨w.heap.size, 0, none⟩ = some (.string S) := cell_of_row _ _ _ _ _ _ S1.out
  have S1_1 : V4.cell? ⟨w.heap.size, 1, none⟩ = some (.int .i64 off) := cell_of_row _ _ _ _ _ _ S1.out
  have S1_2 : V4.cell? ⟨w.heap.size, 2, none⟩ = some (.bool false) := cell_of_row _ _ _ _ _ _ S1.out
  have S1_3 : V4.cell? ⟨w.heap.size, 3, none⟩ = some (.string B) := cell_of_row _ _ _ _ _ _ S1.out
  have S1_4 : V4.cell? ⟨w.heap.size, 4, none⟩ = some (.slice A N c) := cell_of_row _ _ _ _ _ _ S1.out
  have zS1 := lt_of_heap S1.out
  go_simp
  go_wp2_with fail
  refine (HB.out _ (by first | exact rdk_keep hM (B4.out) | exact rdk_keep hM ((B4.out).alloc (B4.out.size) _) | exact rdk_keep hM (((B4.out).alloc (B4.out.size) _).alloc (by have := B4.out.size; simp <;> omega) _) | exact rdk_keep hM ((((B4.out).alloc (B4.out.size) _).alloc (by have := B4.out.size; simp <;> omega) _).alloc (by have := B4.out.size; simp <;> omega) _))).mono ?_
  rintro e V5 ⟨rfl, hb5⟩
  clear S1_0 S1_1 S1_2 S1_3 S1_4 zS1
  have B5 : Hid (Below w.heap.size w V5) := by first | exact Lib.hid ((B4.out).trans (hb5.mono (by have := B4.out.size; first | assumption | (simp <;> omega) | (simp; done)))) | exact Lib.hid (((B4.out).alloc (B4.out.size) _).trans (hb5.mono (by have := B4.out.size; first | assumption | (simp <;> omega) | (simp; done)))) | exact Lib.hid ((((B4.out).alloc (B4.out.size) _).alloc (by have := B4.out.size; simp <;> omega) _).trans (hb5.mono (by have := B4.out.size; first | assumption | (simp <;> omega) | (simp; done)))) | exact Lib.hid (((((B4.out).alloc (B4.out.size) _).alloc (by have := B4.out.size; simp <;> omega) _).alloc (by have := B4.out.size; simp <;> omega) _).trans (hb5.mono (by have := B4.out.size; first | assumption | (simp <;> omega) | (simp; done))))
  first | replace S1 := Lib.hid (row_call hb5 S1.out) | replace S1 := Lib.hid (row_call hb5 (row_alloc S1.out _)) | replace S1 := Lib.hid (row_call hb5 (row_alloc (row_alloc S1.out _) _)) | replace S1 := Lib.hid (row_call hb5 (row_alloc (row_alloc (row_alloc S1.out _) _) _))
  clear hb5
  have S1_0 : V5.cell? ⟨w.heap.size, 0, none⟩ = some (.string S) := cell_of_row _ _ _ _ _ _ S1.out
  have S1_1 : V5.cell? ⟨w.heap.size, 1, none⟩ = some (.int .i64 off) := cell_of_row _ _ _ _ _ _ S1.out
  have S1_2 : V5.cell? ⟨w.heap.size, 2, none⟩ = some (.bool false) := cell_of_row _ _ _ _ _ _ S1.out
  have S1_3 : V5.cell? ⟨w.heap.size, 3, none⟩ = some (.string B) := cell_of_row _ _ _ _ _ _ S1.out
  have S1_4 : V5.cell? ⟨w.heap.size, 4, none⟩ = some (.slice A N c) := cell_of_row _ _ _ _ _ _ S1.out
  have zS1 := lt_of_heap S1.out
  go_simp
  go_wp2_with fail
  refine (HF.out _ (by first | exact rdk_keep hM (B5.out) | exact rdk_keep hM ((B5.out).alloc (B5.out.size) _) | exact rdk_keep hM (((B5.out).alloc (B5.out.size) _).alloc (by have := B5.out.size; simp <;> omega) _) | exact rdk_keep hM ((((B5.out).alloc (B5.out.size) _).alloc (by have := B5.out.size; simp <;> omega) _).alloc (by have := B5.out.size; simp <;> omega) _))).mono ?_
  rintro e V6 ⟨rfl, hb6⟩
  clear S1_0 S1_1 S1_2 S1_3 S1_4 zS1
  have B6 : Hid (Below w.heap.size w V6) := by first | exact Lib.hid ((B5.out).trans (hb6.mono (by have := B5.out.size; first | assumption | (simp <;> omega) | (simp; done)))) | exact Lib.hid (((B5.out).alloc (B5.out.size) _).trans (hb6.mono (by have := B5.out.size; first | assumption | (simp <;> omega) | (simp; done)))) | exact Lib.hid ((((B5.out).alloc (B5.out.size) _).alloc (by have := B5.out.size; simp <;> omega) _).trans (hb6.mono (by have := B5.out.size; first | assumption | (simp <;> omega) | (simp; done)))) | exact Lib.hid (((((B5.out).alloc (B5.out.size) _).alloc (by have := B5.out.size; simp <;> omega) _).alloc (by have := B5.out.size; simp <;> omega) _).trans (hb6.mono (by have := B5.out.size; first | assumption | (simp <;> omega) | (simp; done))))
  first | replace S1 := Lib.hid (row_call hb6 S1.out) | replace S1 := Lib.hid (row_call hb6 (row_alloc S1.out _)) | replace S1 := Lib.hid (row_call hb6 (row_alloc (row_alloc S1.out _) _)) | replace S1 := Lib.hid (row_call hb6 (row_alloc (row_alloc (row_alloc S1.out _) _) _))
  clear hb6
  have S1_0 : V6.cell? ⟨w.heap.size, 0, none⟩ = some (.string S) := cell_of_row _ _ _ _ _ _ S1.out
  have S1_1 : V6.cell? ⟨w.heap.size, 1, none⟩ = some (.int .i64 off) := cell_of_row _ _ _ _ _ _ S1.out
  have S1_2 : V6.cell? ⟨w.heap.size, 2, none⟩ = some (.bool false) := cell_of_row _ _ _ _ _ _ S1.out
  have S1_3 : V6.cell? ⟨w.heap.size, 3, none⟩ = some (.string B) := cell_of_row _ _ _ _ _ _ S1.out
  have S1_4 : V6.cell? ⟨w.heap.size, 4, none⟩ = some (.slice A N c) := cell_of_row _ _ _ _ _ _ S1.out
  have zS1 := lt_of_heap S1.out
  go_simp
  go_wp2_with fail
  refine (HG.out _ (by first | exact rdk_keep hM (B6.out) | exact rdk_keep hM ((B6.out).alloc (B6.out.size) _) | exact rdk_keep hM (((B6.out).alloc (B6.out.size) _).alloc (by have := B6.out.size; simp <;> omega) _) | exact rdk_keep hM ((((B6.out).alloc (B6.out.size) _).alloc (by have := B6.out.size; simp <;> omega) _).alloc (by have := B6.out.size; simp <;> omega) _))).mono ?_
  rintro e V7 ⟨rfl, hb7⟩
  clear S1_0 S1_1 S1_2 S1_3 S1_4 zS1
  have B7 : Hid (Below w.heap.size w V7) := by first | exact Lib.hid ((B6.out).trans (hb7.mono (by have := B6.out.size; first | assumption | (simp <;> omega) | (simp; done)))) | exact Lib.hid (((B6.out).alloc (B6.out.size) _).trans (hb7.mono (by have := B6.out.size; first | assumption | (simp <;> omega) | (simp; done)))) | exact Lib.hid ((((B6.out).alloc (B6.out.size) _).alloc (by have := B6.out.size; simp <;> omega) _).trans (hb7.mono (by have := B6.out.size; first | assumption | (simp <;> omega) | (simp; done)))) | exact Lib.hid (((((B6.out).alloc (B6.out.size) _).alloc (by have := B6.out.size; simp <;> omega) _).alloc (by have := B6.out.size; simp <;> omega) _).trans (hb7.mono (by have := B6.out.size; first | assumption | (simp <;> omega) | (simp; done))))
  first | replace S1 := Lib.hid (row_call hb7 S1.out) | replace S1 := Lib.hid (row_call hb7 (row_alloc S1.out _)) | replace S1 := Lib.hid (row_call hb7 (row_alloc (row_alloc S1.out _) _)) | replace S1 := Lib.hid (row_call hb7 (row_alloc (row_alloc (row_alloc S1.out _) _) _))
  clear hb7
  have S1_0 : V7.cell? ⟨w.heap.size, 0, none⟩ = some (.string S) := cell_of_row _ _ _ _ _ _ S1.out
  have S1_1 : V7.cell? ⟨w.heap.size, 1, none⟩ = some (.int .i64 off) := cell_of_row _ _ _ _ _ _ S1.out
  have S1_2 : V7.cell? ⟨w.heap.size, 2, none⟩ = some (.bool false) := cell_of_row _ _ _ _ _ _ S1.out
  have S1_3 : V7.cell? ⟨w.heap.size, 3, none⟩ = some (.string B) := cell_of_row _ _ _ _ _ _ S1.out
  have S1_4 : V7.cell? ⟨w.heap.size, 4, none⟩ = some (.slice A N c) := cell_of_row _ _ _ _ _ _ S1.out
  have zS1 := lt_of_heap S1.out
  go_simp
  go_wp2
  go_ret
  exact ⟨rfl, B7.out⟩
set_option maxHeartbeats 1600000 in
set_option maxRecDepth 100000 in
theorem chk_ok (S B : ByteArray) (off : Int) (A : Option Addr) (N c : Nat) (xs : List Value) (h16 : decide ((16 : Int) < (N : Int)) = false) (tn : Int) (h4 : decide ((4 : Int) < tn) = false) (HT : Hid (∀ w, (KX w ∧ Rd w A xs) → Calls Tryz.prog 17 #[.slice A N c] w fun e w' => e = .returned (.int .i64 tn) ∧ Below w.heap.size w w')) (HN : Hid (∀ w, (KX w ∧ Rd w A xs) → Calls Tryz.prog 18 #[.string S] w fun e w' => e = .returned (.int .i64 0) ∧ Below w.heap.size w w')) (HM : Hid (∀ w, (KX w ∧ Rd w A xs) → Calls Tryz.prog 19 #[.agg #[.int .i64 off, .bool false, .string B]] w fun e w' => e = .returned (.bool false) ∧ Below w.heap.size w w')) (HA : Hid (∀ w, (KX w ∧ Rd w A xs) → Calls Tryz.prog 20 #[.slice A N c, .func (.func 21) #[] #[]] w fun e w' => e = .returned (.bool false) ∧ Below w.heap.size w w')) (HB : Hid (∀ w, (KX w ∧ Rd w A xs) → Calls Tryz.prog 20 #[.slice A N c, .func (.func 22) #[] #[]] w fun e w' => e = .returned (.bool false) ∧ Below w.heap.size w w')) (HF : Hid (∀ w, (KX w ∧ Rd w A xs) → Calls Tryz.prog 23 #[.agg #[.int .i64 off, .bool false, .string B]] w fun e w' => e = .returned (.bool false) ∧ Below w.heap.size w w')) (HG : Hid (∀ w, (KX w ∧ Rd w A xs) → Calls Tryz.prog 20 #[.slice A N c, .func (.func 24) #[] #[]] w fun e w' => e = .returned (.bool false) ∧ Below w.heap.size w w')) (w : World) (hM : Hid (KX w ∧ Rd w A xs)) :
    Calls Tryz.prog 10 #[.agg #[.string S, .int .i64 off, .bool false, .string B, .slice A N c]] w fun e w' => e = .returned (.int .i64 0) ∧ Below w.heap.size w w' := by
  go_enter Tryz.func10, Tryz.ntmps10
  go_wp2_with fail
  
  refine (HT.out _ (by first | exact rdk_keep hM ((Below.refl w.heap.size w).alloc (Nat.le_refl _) _))).mono ?_
  rintro e V1 ⟨rfl, hb1⟩
  have B1 := Lib.hid (((Below.refl w.heap.size w).alloc (Nat.le_refl _) _).trans (hb1.mono (by first | assumption | (simp <;> omega) | (simp; done))))
  have S1 := Lib.hid (row_call hb1 (heap_alloc_new _ _))
  clear hb1
  have S1_0 : V1.cell? ⟨w.heap.size, 0, none⟩ = some (.string S) := cell_of_row _ _ _ _ _ _ S1.out
  have S1_1 : V1.cell? ⟨w.heap.size, 1, none⟩ = some (.int .i64 off) := cell_of_row _ _ _ _ _ _ S1.out
  have S1_2 : V1.cell? ⟨w.heap.size, 2, none⟩ = some (.bool false) := cell_of_row _ _ _ _ _ _ S1.out
  have S1_3 : V1.cell? ⟨w.heap.size, 3, none⟩ = some (.string B) := cell_of_row _ _ _ _ _ _ S1.out
  have S1_4 : V1.cell? ⟨w.heap.size, 4, none⟩ = some (.slice A N c) := cell_of_row _ _ _ _ _ _ S1.out
  have zS1 := lt_of_heap S1.out
  go_simp
  go_wp2_with fail
  refine (HN.out _ (by first | exact rdk_keep hM (B1.out) | exact rdk_keep hM ((B1.out).alloc (B1.out.size) _) | exact rdk_keep hM (((B1.out).alloc (B1.out.size) _).alloc (by have := B1.out.size; simp <;> omega) _) | exact rdk_keep hM ((((B1.out).alloc (B1.out.size) _).alloc (by have := B1.out.size; simp <;> omega) _).alloc (by have := B1.out.size; simp <;> omega) _))).mono ?_
  rintro e V2 ⟨rfl, hb2⟩
  clear S1_0 S1_1 S1_2 S1_3 S1_4 zS1
  have B2 : Hid (Below w.heap.size w V2) := by first | exact Lib.hid ((B1.out).trans (hb2.mono (by have := B1.out.size; first | assumption | (simp <;> omega) | (simp; done)))) | exact Lib.hid (((B1.out).alloc (B1.out.size) _).trans (hb2.mono (by have := B1.out.size; first | assumption | (simp <;> omega) | (simp; done)))) | exact Lib.hid ((((B1.out).alloc (B1.out.size) _).alloc (by have := B1.out.size; simp <;> omega) _).trans (hb2.mono (by have := B1.out.size; first | assumption | (simp <;> omega) | (simp; done)))) | exact Lib.hid (((((B1.out).alloc (B1.out.size) _).alloc (by have := B1.out.size; simp <;> omega) _).alloc (by have := B1.out.size; simp <;> omega) _).trans (hb2.mono (by have := B1.out.size; first | assumption | (simp <;> omega) | (simp; done))))
  first | replace S1 := Lib.hid (row_call hb2 S1.out) | replace S1 := Lib.hid (row_call hb2 (row_alloc S1.out _)) | replace S1 := Lib.hid (row_call hb2 (row_alloc (row_alloc S1.out _) _)) | replace S1 := Lib.hid (row_call hb2 (row_alloc (row_alloc (row_alloc S1.out _) _) _))
  clear hb2
  have S1_0 : V2.cell? ⟨w.heap.size, 0, none⟩ = some (.string S) := cell_of_row _ _ _ _ _ _ S1.out
  have S1_1 : V2.cell? ⟨w.heap.size, 1, none⟩ = some (.int .i64 off) := cell_of_row _ _ _ _ _ _ S1.out
  have S1_2 : V2.cell? ⟨w.heap.size, 2, none⟩ = some (.bool false) := cell_of_row _ _ _ _ _ _ S1.out
  have S1_3 : V2.cell? ⟨w.heap.size, 3, none⟩ = some (.string B) := cell_of_row _ _ _ _ _ _ S1.out
  have S1_4 : V2.cell? ⟨w.heap.size, 4, none⟩ = some (.slice A N c) := cell_of_row _ _ _ _ _ _ S1.out
  have zS1 := lt_of_heap S1.out
  go_simp
  go_wp2_with fail
  refine (HM.out _ (by first | exact rdk_keep hM (B2.out) | exact rdk_keep hM ((B2.out).alloc (B2.out.size) _) | exact rdk_keep hM (((B2.out).alloc (B2.out.size) _).alloc (by have := B2.out.size; simp <;> omega) _) | exact rdk_keep hM ((((B2.out).alloc (B2.out.size) _).alloc (by have := B2.out.size; simp <;> omega) _).alloc (by have := B2.out.size; simp <;> omega) _))).mono ?_
  rintro e V3 ⟨rfl, hb3⟩
  clear S1_0 S1_1 S1_2 S1_3 S1_4 zS1
  have B3 : Hid (Below w.heap.size w V3) := by first | exact Lib.hid ((B2.out).trans (hb3.mono (by have := B2.out.size; first | assumption | (simp <;> omega) | (simp; done)))) | exact Lib.hid (((B2.out).alloc (B2.out.size) _).trans (hb3.mono (by have := B2.out.size; first | assumption | (simp <;> omega) | (simp; done)))) | exact Lib.hid ((((B2.out).alloc (B2.out.size) _).alloc (by have := B2.out.size; simp <;> omega) _).trans (hb3.mono (by have := B2.out.size; first | assumption | (simp <;> omega) | (simp; done)))) | exact Lib.hid (((((B2.out).alloc (B2.out.size) _).alloc (by have := B2.out.size; simp <;> omega) _).alloc (by have := B2.out.size; simp <;> omega) _).trans (hb3.mono (by have := B2.out.size; first | assumption | (simp <;> omega) | (simp; done))))
  first | replace S1 := Lib.hid (row_call hb3 S1.out) | replace S1 := Lib.hid (row_call hb3 (row_alloc S1.out _)) | replace S1 := Lib.hid (row_call hb3 (row_alloc (row_alloc S1.out _) _)) | replace S1 := Lib.hid (row_call hb3 (row_alloc (row_alloc (row_alloc S1.out _) _) _))
  clear hb3
  have S1_0 : V3.cell? ⟨w.heap.size, 0, none⟩ = some (.string S) := cell_of_row _ _ _ _ _ _ S1.out
  have S1_1 : V3.cell? ⟨w.heap.size, 1, none⟩ = some (.int .i64 off) := cell_of_row _ _ _ _ _ _ S1.out
  have S1_2 : V3.cell? ⟨w.heap.size, 2, none⟩ = some (.bool false) := cell_of_row _ _ _ _ _ _ S1.out
  have S1_3 : V3.cell? ⟨w.heap.size, 3, none⟩ = some (.string B) := cell_of_row _ _ _ _ _ _ S1.out
  have S1_4 : V3.cell? ⟨w.heap.size, 4, none⟩ = some (.slice A N c) := cell_of_row _ _ _ _ _ _ S1.out
  have zS1 := lt_of_heap S1.out
  go_simp
  go_wp2_with fail
  refine (HA.out _ (by first | exact rdk_keep hM (B3.out) | exact rdk_keep hM ((B3.out).alloc (B3.out.size) _) | exact rdk_keep hM (((B3.out).alloc (B3.out.size) _).alloc (by have := B3.out.size; simp <;> omega) _) | exact rdk_keep hM ((((B3.out).alloc (B3.out.size) _).alloc (by have := B3.out.size; simp <;> omega) _).alloc (by have := B3.out.size; simp <;> omega) _))).mono ?_
  rintro e V4 ⟨rfl, hb4⟩
  clear S1_0 S1_1 S1_2 S1_3 S1_4 zS1
  have B4 : Hid (Below w.heap.size w V4) := by first | exact Lib.hid ((B3.out).trans (hb4.mono (by have := B3.out.size; first | assumption | (simp <;> omega) | (simp; done)))) | exact Lib.hid (((B3.out).alloc (B3.out.size) _).trans (hb4.mono (by have := B3.out.size; first | assumption | (simp <;> omega) | (simp; done)))) | exact Lib.hid ((((B3.out).alloc (B3.out.size) _).alloc (by have := B3.out.size; simp <;> omega) _).trans (hb4.mono (by have := B3.out.size; first | assumption | (simp <;> omega) | (simp; done)))) | exact Lib.hid (((((B3.out).alloc (B3.out.size) _).alloc (by have := B3.out.size; simp <;> omega) _).alloc (by have := B3.out.size; simp <;> omega) _).trans (hb4.mono (by have := B3.out.size; first | assumption | (simp <;> omega) | (simp; done))))
  first | replace S1 := Lib.hid (row_call hb4 S1.out) | replace S1 := Lib.hid (row_call hb4 (row_alloc S1.out _)) | replace S1 := Lib.hid (row_call hb4 (row_alloc (row_alloc S1.out _) _)) | replace S1 := Lib.hid (row_call hb4 (row_alloc (row_alloc (row_alloc S1.out _) _) _))
  clear hb4
  have S1_0 : V4.cell? ⟨w.heap.size, 0, none⟩ = some (.string S) := cell_of_row _ _ _ _ _ _ S1.out
  have S1_1 : V4.cell? ⟨w.heap.size, 1, none⟩ = some (.int .i64 off) := cell_of_row _ _ _ _ _ _ S1.out
  have S1_2 : V4.cell? ⟨w.heap.size, 2, none⟩ = some (.bool false) := cell_of_row _ _ _ _ _ _ S1.out
  have S1_3 : V4.cell? ⟨w.heap.size, 3, none⟩ = some (.string B) := cell_of_row _ _ _ _ _ _ S1.out
  have S1_4 : V4.cell? ⟨w.heap.size, 4, none⟩ = some (.slice A N c) := cell_of_row _ _ _ _ _ _ S1.out
  have zS1 := lt_of_heap S1.out
  go_simp
  go_wp2_with fail
  refine (HB.out _ (by first | exact rdk_keep hM (B4.out) | exact rdk_keep hM ((B4.out).alloc (B4.out.size) _) | exact rdk_keep hM (((B4.out).alloc (B4.out.size) _).alloc (by have := B4.out.size; simp <;> omega) _) | exact rdk_keep hM ((((B4.out).alloc (B4.out.size) _).alloc (by have := B4.out.size; simp <;> omega) _).alloc (by have := B4.out.size; simp <;> omega) _))).mono ?_
  rintro e V5 ⟨rfl, hb5⟩
  clear S1_0 S1_1 S1_2 S1_3 S1_4 zS1
  have B5 : Hid (Below w.heap.size w V5) := by first | exact Lib.hid ((B4.out).trans (hb5.mono (by have := B4.out.size; first | assumption | (simp <;> omega) | (simp; done)))) | exact Lib.hid (((B4.out).alloc (B4.out.size) _).trans (hb5.mono (by have := B4.out.size; first | assumption | (simp <;> omega) | (simp; done)))) | exact Lib.hid ((((B4.out).alloc (B4.out.size) _).alloc (by have := B4.out.size; simp <;> omega) _).trans (hb5.mono (by have := B4.out.size; first | assumption | (simp <;> omega) | (simp; done)))) | exact Lib.hid (((((B4.out).alloc (B4.out.size) _).alloc (by have := B4.out.size; simp <;> omega) _).alloc (by have := B4.out.size; simp <;> omega) _).trans (hb5.mono (by have := B4.out.size; first | assumption | (simp <;> omega) | (simp; done))))
  first | replace S1 := Lib.hid (row_call hb5 S1.out) | replace S1 := Lib.hid (row_call hb5 (row_alloc S1.out _)) | replace S1 := Lib.hid (row_call hb5 (row_alloc (row_alloc S1.out _) _)) | replace S1 := Lib.hid (row_call hb5 (row_alloc (row_alloc (row_alloc S1.out _) _) _))
  clear hb5
  have S1_0 : V5.cell? ⟨w.heap.size, 0, none⟩ = some (.string S) := cell_of_row _ _ _ _ _ _ S1.out
  have S1_1 : V5.cell? ⟨w.heap.size, 1, none⟩ = some (.int .i64 off) := cell_of_row _ _ _ _ _ _ S1.out
  have S1_2 : V5.cell? ⟨w.heap.size, 2, none⟩ = some (.bool false) := cell_of_row _ _ _ _ _ _ S1.out
  have S1_3 : V5.cell? ⟨w.heap.size, 3, none⟩ = some (.string B) := cell_of_row _ _ _ _ _ _ S1.out
  have S1_4 : V5.cell? ⟨w.heap.size, 4, none⟩ = some (.slice A N c) := cell_of_row _ _ _ _ _ _ S1.out
  have zS1 := lt_of_heap S1.out
  go_simp
  go_wp2_with fail
  refine (HF.out _ (by first | exact rdk_keep hM (B5.out) | exact rdk_keep hM ((B5.out).alloc (B5.out.size) _) | exact rdk_keep hM (((B5.out).alloc (B5.out.size) _).alloc (by have := B5.out.size; simp <;> omega) _) | exact rdk_keep hM ((((B5.out).alloc (B5.out.size) _).alloc (by have := B5.out.size; simp <;> omega) _).alloc (by have := B5.out.size; simp <;> omega) _))).mono ?_
  rintro e V6 ⟨rfl, hb6⟩
  clear S1_0 S1_1 S1_2 S1_3 S1_4 zS1
  have B6 : Hid (Below w.heap.size w V6) := by first | exact Lib.hid ((B5.out).trans (hb6.mono (by have := B5.out.size; first | assumption | (simp <;> omega) | (simp; done)))) | exact Lib.hid (((B5.out).alloc (B5.out.size) _).trans (hb6.mono (by have := B5.out.size; first | assumption | (simp <;> omega) | (simp; done)))) | exact Lib.hid ((((B5.out).alloc (B5.out.size) _).alloc (by have := B5.out.size; simp <;> omega) _).trans (hb6.mono (by have := B5.out.size; first | assumption | (simp <;> omega) | (simp; done)))) | exact Lib.hid (((((B5.out).alloc (B5.out.size) _).alloc (by have := B5.out.size; simp <;> omega) _).alloc (by have := B5.out.size; simp <;> omega) _).trans (hb6.mono (by have := B5.out.size; first | assumption | (simp <;> omega) | (simp; done))))
  first | replace S1 := Lib.hid (row_call hb6 S1.out) | replace S1 := Lib.hid (row_call hb6 (row_alloc S1.out _)) | replace S1 := Lib.hid (row_call hb6 (row_alloc (row_alloc S1.out _) _)) | replace S1 := Lib.hid (row_call hb6 (row_alloc (row_alloc (row_alloc S1.out _) _) _))
  clear hb6
  have S1_0 : V6.cell? ⟨w.heap.size, 0, none⟩ = some (.string S) := cell_of_row _ _ _ _ _ _ S1.out
  have S1_1 : V6.cell? ⟨w.heap.size, 1, none⟩ = some (.int .i64 off) := cell_of_row _ _ _ _ _ _ S1.out
  have S1_2 : V6.cell? ⟨w.heap.size, 2, none⟩ = some (.bool false) := cell_of_row _ _ _ _ _ _ S1.out
  have S1_3 : V6.cell? ⟨w.heap.size, 3, none⟩ = some (.string B) := cell_of_row _ _ _ _ _ _ S1.out
  have S1_4 : V6.cell? ⟨w.heap.size, 4, none⟩ = some (.slice A N c) := cell_of_row _ _ _ _ _ _ S1.out
  have zS1 := lt_of_heap S1.out
  go_simp
  go_wp2_with fail
  refine (HG.out _ (by first | exact rdk_keep hM (B6.out) | exact rdk_keep hM ((B6.out).alloc (B6.out.size) _) | exact rdk_keep hM (((B6.out).alloc (B6.out.size) _).alloc (by have := B6.out.size; simp <;> omega) _) | exact rdk_keep hM ((((B6.out).alloc (B6.out.size) _).alloc (by have := B6.out.size; simp <;> omega) _).alloc (by have := B6.out.size; simp <;> omega) _))).mono ?_
  rintro e V7 ⟨rfl, hb7⟩
  clear S1_0 S1_1 S1_2 S1_3 S1_4 zS1
  have B7 : Hid (Below w.heap.size w V7) := by first | exact Lib.hid ((B6.out).trans (hb7.mono (by have := B6.out.size; first | assumption | (simp <;> omega) | (simp; done)))) | exact Lib.hid (((B6.out).alloc (B6.out.size) _).trans (hb7.mono (by have := B6.out.size; first | assumption | (simp <;> omega) | (simp; done)))) | exact Lib.hid ((((B6.out).alloc (B6.out.size) _).alloc (by have := B6.out.size; simp <;> omega) _).trans (hb7.mono (by have := B6.out.size; first | assumption | (simp <;> omega) | (simp; done)))) | exact Lib.hid (((((B6.out).alloc (B6.out.size) _).alloc (by have := B6.out.size; simp <;> omega) _).alloc (by have := B6.out.size; simp <;> omega) _).trans (hb7.mono (by have := B6.out.size; first | assumption | (simp <;> omega) | (simp; done))))
  first | replace S1 := Lib.hid (row_call hb7 S1.out) | replace S1 := Lib.hid (row_call hb7 (row_alloc S1.out _)) | replace S1 := Lib.hid (row_call hb7 (row_alloc (row_alloc S1.out _) _)) | replace S1 := Lib.hid (row_call hb7 (row_alloc (row_alloc (row_alloc S1.out _) _) _))
  clear hb7
  have S1_0 : V7.cell? ⟨w.heap.size, 0, none⟩ = some (.string S) := cell_of_row _ _ _ _ _ _ S1.out
  have S1_1 : V7.cell? ⟨w.heap.size, 1, none⟩ = some (.int .i64 off) := cell_of_row _ _ _ _ _ _ S1.out
  have S1_2 : V7.cell? ⟨w.heap.size, 2, none⟩ = some (.bool false) := cell_of_row _ _ _ _ _ _ S1.out
  have S1_3 : V7.cell? ⟨w.heap.size, 3, none⟩ = some (.string B) := cell_of_row _ _ _ _ _ _ S1.out
  have S1_4 : V7.cell? ⟨w.heap.size, 4, none⟩ = some (.slice A N c) := cell_of_row _ _ _ _ _ _ S1.out
  have zS1 := lt_of_heap S1.out
  go_simp
  go_wp2
  go_ret
  exact ⟨rfl, B7.out⟩
set_option maxHeartbeats 1600000 in
set_option maxRecDepth 100000 in
theorem pRuCheck_any (z : Src) (A : Option Addr) (c : Nat) (w : World) (hK : KX w) (h : Rd w A (linVs z.lns)) (hz : SB z) : Calls Tryz.prog 10 #[srcV z A c] w fun e w' => e = .returned (.int .i64 (ckP z)) ∧ Below w.heap.size w w' := by
  have hM : Hid (KX w ∧ Rd w A (linVs z.lns)) := Lib.hid ⟨hK, h⟩
  unfold srcV
  by_cases h16 : 16 < z.lns.length
  · have E : ckP z = 1 := if_pos (Or.inl h16)
    rw [E]
    exact chk_big _ _ _ _ A _ c _ (decide_eq_true (by omega)) w hM
  have q16 : decide ((16 : Int) < (z.lns.length : Int)) = false := decide_eq_false (by omega)
  have HT : Hid (∀ w, (KX w ∧ Rd w A (linVs z.lns)) → Calls Tryz.prog 17 #[.slice A z.lns.length c] w fun e w' => e = .returned (.int .i64 (tailP z.lns : Int)) ∧ Below w.heap.size w w') := Lib.hid (fun w h => pTails_any z.lns A c w (by omega) h.2)
  by_cases h4 : 4 < tailP z.lns
  · have E : ckP z = 1 := if_pos (Or.inr h4)
    rw [E]
    exact chk_tails _ _ _ _ A _ c _ q16 _ (decide_eq_true (by omega)) HT w hM
  have q4 : decide ((4 : Int) < (tailP z.lns : Int)) = false := decide_eq_false (by omega)
  have HN : Hid (∀ w, (KX w ∧ Rd w A (linVs z.lns)) → Calls Tryz.prog 18 #[.string (bs z.nam)] w fun e w' => e = .returned (.int .i64 (namE z.nam)) ∧ Below w.heap.size w w') := Lib.hid (fun w _ => pName_all z.nam hz.nam w)
  by_cases hn : namE z.nam ≠ 0
  · have E : ckP z = 2 := by unfold ckP; rw [if_neg (by omega), if_pos (Or.inl hn)]
    rw [E]
    exact chk_name _ _ _ _ A _ c _ q16 _ q4 _ (bne_iff_ne.2 hn) HT HN w hM
  have hn0 := Classical.not_not.1 hn
  rw [hn0] at HN
  have HM : Hid (∀ w, (KX w ∧ Rd w A (linVs z.lns)) → Calls Tryz.prog 19 #[.agg #[.int .i64 z.off, .bool z.dst, .string (bs z.abb)]] w fun e w' => e = .returned (.bool (badAb z.abb)) ∧ Below w.heap.size w w') := Lib.hid (fun w _ => pMisspelt_any z.off z.dst z.abb hz.abb w)
  by_cases hm : (badAb z.abb) = true
  · have E : ckP z = 2 := by unfold ckP; rw [if_neg (by omega), if_pos (Or.inr (Or.inl hm))]
    rw [hm] at HM
    rw [E]
    exact chk_base _ _ _ _ A _ c _ q16 _ q4 HT HN HM w hM
  replace hm := Bool.eq_false_iff.2 hm
  rw [hm] at HM
  have HA : Hid (∀ w, (KX w ∧ Rd w A (linVs z.lns)) → Calls Tryz.prog 20 #[.slice A z.lns.length c, .func (.func 21) #[] #[]] w fun e w' => e = .returned (.bool (z.lns.any fun l => badAb l.abb)) ∧ Below w.heap.size w w') := Lib.hid (fun w h => pContains_ms (fun l => badAb l.abb) z.lns (fun l hl w _ => pMisspeltLine_any l (hz.each l hl) w) hz.lns A c w h.1 h.2)
  by_cases ha : ((z.lns.any fun l => badAb l.abb)) = true
  · have E : ckP z = 2 := by unfold ckP; rw [if_neg (by omega), if_pos (Or.inr (Or.inr ha))]
    rw [ha] at HA
    rw [E]
    exact chk_abbs _ _ _ _ A _ c _ q16 _ q4 HT HN HM HA w hM
  replace ha := Bool.eq_false_iff.2 ha
  rw [ha] at HA
  have n2 : ¬ (namE z.nam ≠ 0 ∨ badAb z.abb = true ∨ (z.lns.any fun l => badAb l.abb) = true) := by
    rintro (e | e | e)
    · exact hn e
    · rw [hm] at e; cases e
    · rw [ha] at e; cases e
  by_cases hd : (z.dst) = true
  · have E : ckP z = 5 := by unfold ckP; rw [if_neg (by omega), if_neg n2, if_pos (Or.inl hd)]
    rw [hd] at HM ⊢
    rw [E]
    exact chk_dst _ _ _ A _ c _ q16 _ q4 HT HN HM HA w hM
  replace hd := Bool.eq_false_iff.2 hd
  rw [hd] at HM ⊢
  have HB : Hid (∀ w, (KX w ∧ Rd w A (linVs z.lns)) → Calls Tryz.prog 20 #[.slice A z.lns.length c, .func (.func 22) #[] #[]] w fun e w' => e = .returned (.bool (z.lns.any notB)) ∧ Below w.heap.size w w') := Lib.hid (fun w h => pContains_mn notB z.lns (fun l hl w hK => pMayNot_any l (hz.dn l hl).1 (hz.dn l hl).2 w hK) hz.lns A c w h.1 h.2)
  by_cases hb : (z.lns.any notB) = true
  · have E : ckP z = 5 := by unfold ckP; rw [if_neg (by omega), if_neg n2, if_pos (Or.inr hb)]
    rw [hb] at HB
    rw [E]
    exact chk_may _ _ _ A _ c _ q16 _ q4 HT HN HM HA HB w hM
  replace hb := Bool.eq_false_iff.2 hb
  rw [hb] at HB
  have n5 : ¬ (z.dst = true ∨ z.lns.any notB = true) := by
    rintro (e | e)
    · rw [hd] at e; cases e
    · rw [hb] at e; cases e
  have HF : Hid (∀ w, (KX w ∧ Rd w A (linVs z.lns)) → Calls Tryz.prog 23 #[.agg #[.int .i64 z.off, .bool false, .string (bs z.abb)]] w fun e w' => e = .returned (.bool (!inI z.off (-64800) 64800)) ∧ Below w.heap.size w w') := Lib.hid (fun w _ => pFar_any z.off false (bs z.abb) w)
  by_cases hf : ((!inI z.off (-64800) 64800)) = true
  · have E : ckP z = 8 := by unfold ckP; rw [if_neg (by omega), if_neg n2, if_neg n5, if_pos (Or.inl hf)]
    rw [hf] at HF
    rw [E]
    exact chk_far _ _ _ A _ c _ q16 _ q4 HT HN HM HA HB HF w hM
  replace hf := Bool.eq_false_iff.2 hf
  rw [hf] at HF
  have HG : Hid (∀ w, (KX w ∧ Rd w A (linVs z.lns)) → Calls Tryz.prog 20 #[.slice A z.lns.length c, .func (.func 24) #[] #[]] w fun e w' => e = .returned (.bool (z.lns.any farB)) ∧ Below w.heap.size w w') := Lib.hid (fun w h => pContains_fl farB z.lns (fun l hl w hK => pFarLine_any l w) hz.lns A c w h.1 h.2)
  by_cases hg : (z.lns.any farB) = true
  · have E : ckP z = 8 := by unfold ckP; rw [if_neg (by omega), if_neg n2, if_neg n5, if_pos (Or.inr hg)]
    rw [hg] at HG
    rw [E]
    exact chk_fars _ _ _ A _ c _ q16 _ q4 HT HN HM HA HB HF HG w hM
  replace hg := Bool.eq_false_iff.2 hg
  rw [hg] at HG
  have E : ckP z = 0 := by
    unfold ckP
    rw [if_neg (by omega), if_neg n2, if_neg n5, if_neg]
    rintro (e | e)
    · rw [hf] at e; cases e
    · rw [hg] at e; cases e
  rw [E]
  exact chk_ok _ _ _ A _ c _ q16 _ q4 HT HN HM HA HB HF HG w hM
end Go.Proofs.YteinjdmkmfeniaaGreatDoor
namespace Go.Proofs.YteinjdmkmfeniaaGreatDoor
set_option linter.unusedVariables false
set_option linter.unusedSimpArgs false
open Go.ChangeShapes Go.WideShapes Go.ChangeAt Go.RowKit
set_option maxHeartbeats 1600000 in
set_option maxRecDepth 100000 in
theorem pSearch_1 (p : Nat → Bool) (hm : ∀ i j, i ≤ j → p i = true → p j = true) (n : Nat) (hn : n ≤ 100000) (a : Option Addr) (w : World)
    (H : Hid (∀ i : Nat, i < n → ∀ W, Below w.heap.size w W → Calls Tryz.prog 49 #[.int .i64 (i : Int), .pointer a] W fun e w' => e = .returned (.bool (p i)) ∧ Below W.heap.size W w')) :
    Calls Tryz.prog 48 #[.int .i64 (n : Int), .func (.func 49) #[] #[.pointer a]] w fun e w' => (∃ r : Nat, r ≤ n ∧ e = .returned (.int .i64 (r : Int)) ∧ (∀ i, i < r → p i = false) ∧ (∀ i, r ≤ i → i < n → p i = true)) ∧ Below w.heap.size w w' := by
  replace hm := Lib.hid hm
  go_enter Tryz.func48, Tryz.ntmps48
  go_wp2
  go_loopw [5, 6] (fun iv jv wr => ∃ i j : Nat, i ≤ j ∧ j ≤ n ∧ iv = .int .i64 (i : Int) ∧ jv = .int .i64 (j : Int) ∧ Hid (∀ k, k < i → p k = false) ∧ Hid (∀ k, j ≤ k → k < n → p k = true) ∧ Below w.heap.size w wr) (fun iv jv _ => (intOf jv).toNat - (intOf iv).toNat)
  case atStart => exact ⟨0, n, by omega, by omega, rfl, rfl, Lib.hid (fun k hk => by omega), Lib.hid (fun k h1 h2 => by omega), Below.refl _ _⟩
  case round =>
    obtain ⟨i, j, hij, hjn, rfl, rfl, hlo, hhi, hB⟩ := hrel
    by_cases hlt : i < j
    · have hq : (i : Int) < (j : Int) := by omega
      obtain ⟨h, hh⟩ : ∃ h : Nat, h = (i + j) / 2 := ⟨_, rfl⟩
      have HC := H.out h (by omega) wr hB
      have eh : ((i : Int) + (j : Int)) / 2 = (h : Int) := by omega
      have hw1 : IntKind.i64.wrap ((h : Int) + 1) = (h : Int) + 1 := wrap_small _ (by omega) (by omega)
      have hi2 : i ≤ h := by omega
      have hj2 : h < j := by omega
      replace HC := Lib.hid HC
      replace hh := Lib.hid hh
      replace hB := Lib.hid hB
      cases hp : p h
      · rw [hp] at HC
        have hlo2 : Hid (∀ k, k < h + 1 → p k = false) := Lib.hid (fun k hk => by
          cases q : p k
          · rfl
          · have := hm.out k h (by omega) q
            rw [hp] at this
            cases this)
        replace hp := Lib.hid hp
        go_wp2_with fail
        refine HC.out.mono ?_
        rintro e w5 ⟨rfl, hb5⟩
        have B5 := Lib.hid (hB.out.trans (hb5.mono hB.out.size))
        clear hb5 HC
        go_wp2
        go_roundw
        case rel => exact ⟨h + 1, j, by omega, by omega, by go_num, rfl, hlo2, hhi, B5.out⟩
        case measure => simp [intOf]; omega
      · rw [hp] at HC
        have hhi2 : Hid (∀ k, h ≤ k → k < n → p k = true) := Lib.hid (fun k hk _ => hm.out h k hk hp)
        replace hp := Lib.hid hp
        go_wp2_with fail
        refine HC.out.mono ?_
        rintro e w5 ⟨rfl, hb5⟩
        have B5 := Lib.hid (hB.out.trans (hb5.mono hB.out.size))
        clear hb5 HC
        go_wp2
        go_roundw
        case rel => exact ⟨i, h, by omega, by omega, rfl, by go_num, hlo, hhi2, B5.out⟩
        case measure => simp [intOf]; omega
    · obtain rfl : i = j := by omega
      have hq : ¬ ((i : Int) < (i : Int)) := by omega
      replace hB := Lib.hid hB
      go_wp2
      go_ret
      exact ⟨⟨i, by omega, rfl, hlo.out, hhi.out⟩, hB.out⟩
set_option maxHeartbeats 1600000 in
set_option maxRecDepth 100000 in
theorem pSearch_2 (p : Nat → Bool) (hm : ∀ i j, i ≤ j → p i = true → p j = true) (n : Nat) (hn : n ≤ 100000) (a b : Option Addr) (w : World)
    (H : Hid (∀ i : Nat, i < n → ∀ W, Below w.heap.size w W → Calls Tryz.prog 51 #[.int .i64 (i : Int), .pointer b, .pointer a] W fun e w' => e = .returned (.bool (p i)) ∧ Below W.heap.size W w')) :
    Calls Tryz.prog 48 #[.int .i64 (n : Int), .func (.func 51) #[] #[.pointer b, .pointer a]] w fun e w' => (∃ r : Nat, r ≤ n ∧ e = .returned (.int .i64 (r : Int)) ∧ (∀ i, i < r → p i = false) ∧ (∀ i, r ≤ i → i < n → p i = true)) ∧ Below w.heap.size w w' := by
  replace hm := Lib.hid hm
  go_enter Tryz.func48, Tryz.ntmps48
  go_wp2
  go_loopw [5, 6] (fun iv jv wr => ∃ i j : Nat, i ≤ j ∧ j ≤ n ∧ iv = .int .i64 (i : Int) ∧ jv = .int .i64 (j : Int) ∧ Hid (∀ k, k < i → p k = false) ∧ Hid (∀ k, j ≤ k → k < n → p k = true) ∧ Below w.heap.size w wr) (fun iv jv _ => (intOf jv).toNat - (intOf iv).toNat)
  case atStart => exact ⟨0, n, by omega, by omega, rfl, rfl, Lib.hid (fun k hk => by omega), Lib.hid (fun k h1 h2 => by omega), Below.refl _ _⟩
  case round =>
    obtain ⟨i, j, hij, hjn, rfl, rfl, hlo, hhi, hB⟩ := hrel
    by_cases hlt : i < j
    · have hq : (i : Int) < (j : Int) := by omega
      obtain ⟨h, hh⟩ : ∃ h : Nat, h = (i + j) / 2 := ⟨_, rfl⟩
      have HC := H.out h (by omega) wr hB
      have eh : ((i : Int) + (j : Int)) / 2 = (h : Int) := by omega
      have hw1 : IntKind.i64.wrap ((h : Int) + 1) = (h : Int) + 1 := wrap_small _ (by omega) (by omega)
      have hi2 : i ≤ h := by omega
      have hj2 : h < j := by omega
      replace HC := Lib.hid HC
      replace hh := Lib.hid hh
      replace hB := Lib.hid hB
      cases hp : p h
      · rw [hp] at HC
        have hlo2 : Hid (∀ k, k < h + 1 → p k = false) := Lib.hid (fun k hk => by
          cases q : p k
          · rfl
          · have := hm.out k h (by omega) q
            rw [hp] at this
            cases this)
        replace hp := Lib.hid hp
        go_wp2_with fail
        refine HC.out.mono ?_
        rintro e w5 ⟨rfl, hb5⟩
        have B5 := Lib.hid (hB.out.trans (hb5.mono hB.out.size))
        clear hb5 HC
        go_wp2
        go_roundw
        case rel => exact ⟨h + 1, j, by omega, by omega, by go_num, rfl, hlo2, hhi, B5.out⟩
        case measure => simp [intOf]; omega
      · rw [hp] at HC
        have hhi2 : Hid (∀ k, h ≤ k → k < n → p k = true) := Lib.hid (fun k hk _ => hm.out h k hk hp)
        replace hp := Lib.hid hp
        go_wp2_with fail
        refine HC.out.mono ?_
        rintro e w5 ⟨rfl, hb5⟩
        have B5 := Lib.hid (hB.out.trans (hb5.mono hB.out.size))
        clear hb5 HC
        go_wp2
        go_roundw
        case rel => exact ⟨i, h, by omega, by omega, rfl, by go_num, hlo, hhi2, B5.out⟩
        case measure => simp [intOf]; omega
    · obtain rfl : i = j := by omega
      have hq : ¬ ((i : Int) < (i : Int)) := by omega
      replace hB := Lib.hid hB
      go_wp2
      go_ret
      exact ⟨⟨i, by omega, rfl, hlo.out, hhi.out⟩, hB.out⟩
def datW (y m d : Int) : List UInt8 := if y < 0 then [45] ++ twoL (-y / 100) ++ twoL (-y % 100) ++ [45] ++ twoL m ++ [45] ++ twoL d else twoL (y / 100) ++ twoL (y % 100) ++ [45] ++ twoL m ++ [45] ++ twoL d
theorem datW_len (y m d : Int) : (datW y m d).length ≤ 11 := by unfold datW; split <;> simp [twoL]
theorem pDateWord_any (y m d : Int) (h1 : -9999 ≤ y) (h2 : y ≤ 9999) (m0 : 0 ≤ m) (m1 : m ≤ 99) (d0 : 0 ≤ d) (d1 : d ≤ 99) (w : World) (hK : KX w) : Calls Tryz.prog 52 #[.int .i64 y, .int .i64 m, .int .i64 d] w fun e w' => e = .returned (.string (bs (datW y m d))) ∧ Below w.heap.size w w' := by
  by_cases hy : y < 0
  · have e : datW y m d = [45] ++ twoL (-y / 100) ++ twoL (-y % 100) ++ [45] ++ twoL m ++ [45] ++ twoL d := if_pos hy
    rw [e]
    exact pDateWord_neg y m d hy h1 h2 m0 m1 d0 d1 w hK
  · have e : datW y m d = twoL (y / 100) ++ twoL (y % 100) ++ [45] ++ twoL m ++ [45] ++ twoL d := if_neg hy
    rw [e]
    exact pDateWord_pos y m d (by omega) h1 h2 m0 m1 d0 d1 w hK
theorem twoL_mod (n : Int) (h0 : 0 ≤ n) : twoL (n % 100) = twoL n := by
  unfold twoL
  rw [show n % 100 / 10 % 10 = n / 10 % 10 by omega, show n % 100 % 10 = n % 10 by omega]
theorem moW_cat {y m d h i s : Int} (h0 : 0 ≤ h) (h1 : h ≤ 23) (i0 : 0 ≤ i) (i1 : i ≤ 59) (s0 : 0 ≤ s) (s1 : s ≤ 59) : datW y m d ++ [84] ++ clkL (3600 * h + 60 * i + s) = moW y m d h i s := by
  have e1 : (3600 * h + 60 * i + s) / 3600 = h := by omega
  have e2 : (3600 * h + 60 * i + s) / 60 % 60 = i := by omega
  have e3 : (3600 * h + 60 * i + s) % 60 = s := by omega
  unfold clkL moW moL datW
  rw [e1, e2, e3]
  split
  · rw [twoL_mod (-y) (by omega)]
    simp only [List.append_assoc]
  · rw [twoL_mod y (by omega)]
    simp only [List.append_assoc, List.nil_append]
@[irreducible] def bgI (y m : Int) : Int := dnI y m 1 * 86400
theorem may_one {y m : Int} (m1 : 1 ≤ m) (m2 : m ≤ 12) : mayB y m 1 = true := may_of (by omega) (by have := mdI_ge y m ⟨m1, m2⟩; omega)
theorem ckT_one {y m : Int} (h1 : -9999 ≤ y) (h2 : y ≤ 9999) (m1 : 1 ≤ m) (m2 : m ≤ 12) : ckT y m 1 0 0 0 0 = 0 := by
  have kk : ckK 0 0 0 0 = 0 := by unfold ckK; rw [if_pos (by unfold okK; omega)]
  rw [ckT_ok kk]
  exact ckC_ok (may_one m1 m2) (by omega)
theorem nuT_one (y m : Int) : nuT y m 1 0 0 0 = bgI y m := by unfold nuT scK bgI; omega
theorem mom_bg {y m : Int} (h1 : -9999 ≤ y) (h2 : y ≤ 9999) (m1 : 1 ≤ m) (m2 : m ≤ 12) : momR (datW y m 1 ++ [84] ++ clkL 0) = (bgI y m, 0) := by
  have e := moW_cat (y := y) (m := m) (d := 1) (h := 0) (i := 0) (s := 0) (by decide) (by decide) (by decide) (by decide) (by decide) (by decide)
  rw [show (3600 * 0 + 60 * 0 + 0 : Int) = 0 by decide] at e
  rw [e, (mo_back (isCiv_back (ckT_one h1 h2 m1 m2)).1).1, nuT_one]
set_option maxHeartbeats 1600000 in
set_option maxRecDepth 100000 in
theorem pBegin_any (y m : Int) (h1 : -9999 ≤ y) (h2 : y ≤ 9999) (m1 : 1 ≤ m) (m2 : m ≤ 12) (w : World) (hK : KX w) : Calls Tryz.prog 50 #[.int .i64 y, .int .i64 m] w fun e w' => e = .returned (.int .i64 (bgI y m)) ∧ Below w.heap.size w w' := by
  have H1 := Lib.hid (pDateWord_any y m 1 h1 h2 (by omega) (by omega) (by decide) (by decide))
  have H2 := Lib.hid (pClockWord_any 0 (by decide) (by decide))
  have hl := datW_len y m 1
  have hl2 : (clkL 0).length = 8 := rfl
  have X3 := pMom_any (datW y m 1 ++ [84] ++ clkL 0) (by simp; omega)
  rw [mom_bg h1 h2 m1 m2] at X3
  have H3 := Lib.hid X3
  have z1 := bs_size (datW y m 1)
  have z2 : (bs (clkL 0)).size = 8 := by rw [bs_size]; rfl
  have a1 : bs (datW y m 1) ++ (⟨#[84]⟩ : ByteArray) = bs (datW y m 1 ++ [84]) := by rw [lit_bs15, append_bs]
  have z3 : (bs (datW y m 1 ++ [84])).size = (datW y m 1).length + 1 := by rw [bs_size, List.length_append]; rfl
  have a2 := append_bs (datW y m 1 ++ [84]) (clkL 0)
  have n1 : ¬ (9223372036854775807 < (datW y m 1).length + 1) := by omega
  have n2 : ¬ (9223372036854775807 < (datW y m 1).length + 1 + 8) := by omega
  clear X3
  generalize datW y m 1 ++ [84] ++ clkL 0 = S2 at *
  generalize datW y m 1 ++ [84] = S1 at *
  generalize datW y m 1 = D at *
  generalize clkL 0 = C at *
  generalize bgI y m = g at *
  clear h1 h2 m1 m2
  have hTw : Hid (TW w) := Lib.hid hK.tw
  replace hK := Lib.hid hK
  have hM := hK
  go_enter Tryz.func50, Tryz.ntmps50
  go_wp2_with fail
  
  refine (H1.out _ (by first | exact kx_keep hM (Below.refl w.heap.size w) | exact kx_keep hM ((Below.refl w.heap.size w).alloc (Nat.le_refl _) _) | exact kx_keep hM (((Below.refl w.heap.size w).alloc (Nat.le_refl _) _).alloc (by simp <;> omega) _) | exact kx_keep hM ((((Below.refl w.heap.size w).alloc (Nat.le_refl _) _).alloc (by simp <;> omega) _).alloc (by simp <;> omega) _))).mono ?_
  rintro e V1 ⟨rfl, hb1⟩
  have B1 : Hid (Below w.heap.size w V1) := by first | exact Lib.hid ((Below.refl w.heap.size w).trans (hb1.mono (by first | assumption | (simp <;> omega) | (simp; done)))) | exact Lib.hid (((Below.refl w.heap.size w).alloc (Nat.le_refl _) _).trans (hb1.mono (by first | assumption | (simp <;> omega) | (simp; done)))) | exact Lib.hid ((((Below.refl w.heap.size w).alloc (Nat.le_refl _) _).alloc (by simp <;> omega) _).trans (hb1.mono (by first | assumption | (simp <;> omega) | (simp; done)))) | exact Lib.hid (((((Below.refl w.heap.size w).alloc (Nat.le_refl _) _).alloc (by simp <;> omega) _).alloc (by simp <;> omega) _).trans (hb1.mono (by first | assumption | (simp <;> omega) | (simp; done))))
  clear hb1
  go_simp
  go_wp2_with fail
  refine (H2.out _ (by first | exact kx_keep hM (B1.out) | exact kx_keep hM ((B1.out).alloc (B1.out.size) _) | exact kx_keep hM (((B1.out).alloc (B1.out.size) _).alloc (by have := B1.out.size; simp <;> omega) _) | exact kx_keep hM ((((B1.out).alloc (B1.out.size) _).alloc (by have := B1.out.size; simp <;> omega) _).alloc (by have := B1.out.size; simp <;> omega) _))).mono ?_
  rintro e V2 ⟨rfl, hb2⟩
  have B2 : Hid (Below w.heap.size w V2) := by first | exact Lib.hid ((B1.out).trans (hb2.mono (by have := B1.out.size; first | assumption | (simp <;> omega) | (simp; done)))) | exact Lib.hid (((B1.out).alloc (B1.out.size) _).trans (hb2.mono (by have := B1.out.size; first | assumption | (simp <;> omega) | (simp; done)))) | exact Lib.hid ((((B1.out).alloc (B1.out.size) _).alloc (by have := B1.out.size; simp <;> omega) _).trans (hb2.mono (by have := B1.out.size; first | assumption | (simp <;> omega) | (simp; done)))) | exact Lib.hid (((((B1.out).alloc (B1.out.size) _).alloc (by have := B1.out.size; simp <;> omega) _).alloc (by have := B1.out.size; simp <;> omega) _).trans (hb2.mono (by have := B1.out.size; first | assumption | (simp <;> omega) | (simp; done))))
  clear hb2
  go_simp
  go_wp2_with fail
  refine (H3.out _ (tw_keep hTw B2.out)).mono ?_
  rintro e w9 ⟨rfl, hb9⟩
  have B9 := Lib.hid (B2.out.trans (hb9.mono B2.out.size))
  go_wp2
  go_ret
  exact ⟨rfl, B9.out⟩
set_option maxHeartbeats 1600000 in
set_option maxRecDepth 100000 in
theorem pMw1_any (i : Nat) (hi : i < 19998) (sb : Nat) (sec : Int) (w : World) (hK : KX w) (hs : sb < w.heap.size) (hc : w.cell? ⟨sb, 0, none⟩ = some (.int .i64 sec)) :
    Calls Tryz.prog 49 #[.int .i64 (i : Int), .pointer (some ⟨sb, 0, none⟩)] w fun e w' => e = .returned (.bool (decide (sec < bgI ((i : Int) - 9998) 1))) ∧ Below w.heap.size w w' := by
  have HC : Hid (∀ W, Below w.heap.size w W → Calls Tryz.prog 50 #[.int .i64 (-9999 + (i : Int) + 1), .int .i64 1] W fun e w' => e = .returned (.int .i64 (bgI ((i : Int) - 9998) 1)) ∧ Below W.heap.size W w') := Lib.hid (fun W hW => by
    have := pBegin_any (-9999 + (i : Int) + 1) 1 (by omega) (by omega) (by decide) (by decide) W (kx_keep (Lib.hid hK) hW)
    rwa [show -9999 + (i : Int) + 1 = (i : Int) - 9998 by omega] at this ⊢)
  have w1 : IntKind.i64.wrap (-9999 + (i : Int)) = -9999 + (i : Int) := by rw [IntKind.wrap_i64]; omega
  have w2 : IntKind.i64.wrap (-9999 + (i : Int) + 1) = -9999 + (i : Int) + 1 := by rw [IntKind.wrap_i64]; omega
  generalize bgI ((i : Int) - 9998) 1 = g at *
  have Bd : Below w.heap.size w w.drew := (Below.refl _ _).drew
  go_enter Tryz.func49, Tryz.ntmps49
  go_wp2_with fail
  refine region_plan (S := fun w2 => w2.cell? ⟨sb, 0, none⟩ = some (.int .i64 sec)) [(0, true), (1, true), (2, true), (4, true), (3, false), (5, true), (6, true)] (by as_aux_lemma => kernel_rfl) (by as_aux_lemma => kernel_rfl) (by as_aux_lemma => kernel_rfl) (by as_aux_lemma => kernel_rfl) (by rw [World.cell?_drew]; exact hc) ?_
  refine plan_yes (v := ?v0) (by simp only [List.getElem?_toArray, List.getElem?_cons_zero, List.getElem?_cons_succ]; exact rfl) (Or.inl ⟨by as_aux_lemma => rfl, ?hy0⟩) ?rest0
  case hy0 => (intro w2 hSw; (try dsimp only at hSw); go_simp; try with_reducible rfl)
  try simp only [Act.put, List.setIfInBounds_toArray, List.set_cons_zero, List.set_cons_succ]
  refine plan_yes (v := ?v1) (by simp only [List.getElem?_toArray, List.getElem?_cons_zero, List.getElem?_cons_succ]; exact rfl) (Or.inl ⟨by as_aux_lemma => rfl, ?hy1⟩) ?rest1
  case hy1 => (intro w2 hSw; (try dsimp only at hSw); go_simp; try with_reducible rfl)
  try simp only [Act.put, List.setIfInBounds_toArray, List.set_cons_zero, List.set_cons_succ]
  refine plan_yes (v := ?v2) (by simp only [List.getElem?_toArray, List.getElem?_cons_zero, List.getElem?_cons_succ]; exact rfl) (Or.inl ⟨by as_aux_lemma => rfl, ?hy2⟩) ?rest2
  case hy2 => (intro w2 hSw; (try dsimp only at hSw); go_simp; try with_reducible rfl)
  try simp only [Act.put, List.setIfInBounds_toArray, List.set_cons_zero, List.set_cons_succ]
  refine plan_yes (v := ?v4) (by simp only [List.getElem?_toArray, List.getElem?_cons_zero, List.getElem?_cons_succ]; exact rfl) (Or.inl ⟨by as_aux_lemma => rfl, ?hy4⟩) ?rest4
  case hy4 => (intro w2 hSw; (try dsimp only at hSw); go_simp; try with_reducible rfl)
  try simp only [Act.put, List.setIfInBounds_toArray, List.set_cons_zero, List.set_cons_succ]
  refine plan_calls (by simp only [List.getElem?_toArray, List.getElem?_cons_zero, List.getElem?_cons_succ]; exact rfl) (by as_aux_lemma => rfl) (fun K hK => ?_)
  go_simp
  refine (HC.out _ Bd).mono ?_
  rintro e w5 ⟨rfl, hb5⟩
  have B5 := Lib.hid (Bd.trans (hb5.mono Bd.size))
  refine hK.out _ _ ((hb5.cell (p := ⟨sb, 0, none⟩) hs).trans hc) ?_
  clear hK K
  try simp only [Act.put, List.setIfInBounds_toArray, List.set_cons_zero, List.set_cons_succ]
  refine plan_yes (v := ?v5) (by simp only [List.getElem?_toArray, List.getElem?_cons_zero, List.getElem?_cons_succ]; exact rfl) (Or.inl ⟨by as_aux_lemma => rfl, ?hy5⟩) ?rest5
  case hy5 => (intro w2 hSw; (try dsimp only at hSw); go_simp; try with_reducible rfl)
  try simp only [Act.put, List.setIfInBounds_toArray, List.set_cons_zero, List.set_cons_succ]
  refine plan_yes (v := ?v6) (by simp only [List.getElem?_toArray, List.getElem?_cons_zero, List.getElem?_cons_succ]; exact rfl) (Or.inl ⟨by as_aux_lemma => rfl, ?hy6⟩) ?rest6
  case hy6 => (intro w2 hSw; (try dsimp only at hSw); go_simp; try with_reducible rfl)
  try simp only [Act.put, List.setIfInBounds_toArray, List.set_cons_zero, List.set_cons_succ]
  refine plan_done (NoPanic.normal ?_)
  clear hb5
  go_simp
  go_wp2
  go_ret
  exact ⟨rfl, B5.out⟩
set_option maxHeartbeats 1600000 in
set_option maxRecDepth 100000 in
theorem pMw2_any (i : Nat) (hi : i < 11) (yb sb : Nat) (y sec : Int) (h1 : -9999 ≤ y) (h2 : y ≤ 9999) (w : World) (hK : KX w) (hs : sb < w.heap.size) (hc : w.cell? ⟨sb, 0, none⟩ = some (.int .i64 sec)) (hys : yb < w.heap.size) (hyc : w.cell? ⟨yb, 0, none⟩ = some (.int .i64 y)) :
    Calls Tryz.prog 51 #[.int .i64 (i : Int), .pointer (some ⟨yb, 0, none⟩), .pointer (some ⟨sb, 0, none⟩)] w fun e w' => e = .returned (.bool (decide (sec < bgI y ((i : Int) + 2)))) ∧ Below w.heap.size w w' := by
  have HC : Hid (∀ W, Below w.heap.size w W → Calls Tryz.prog 50 #[.int .i64 y, .int .i64 ((i : Int) + 2)] W fun e w' => e = .returned (.int .i64 (bgI y ((i : Int) + 2))) ∧ Below W.heap.size W w') := Lib.hid (fun W hW => pBegin_any y ((i : Int) + 2) h1 h2 (by omega) (by omega) W (kx_keep (Lib.hid hK) hW))
  have w1 : IntKind.i64.wrap ((i : Int) + 2) = (i : Int) + 2 := wrap_small _ (by omega) (by omega)
  generalize bgI y ((i : Int) + 2) = g at *
  have Bd : Below w.heap.size w w.drew := (Below.refl _ _).drew
  go_enter Tryz.func51, Tryz.ntmps51
  go_wp2_with fail
  refine region_plan (S := fun w2 => w2.cell? ⟨yb, 0, none⟩ = some (.int .i64 y) ∧ w2.cell? ⟨sb, 0, none⟩ = some (.int .i64 sec)) [(0, true), (1, true), (2, true), (4, true), (3, false), (5, true), (6, true)] (by as_aux_lemma => kernel_rfl) (by as_aux_lemma => kernel_rfl) (by as_aux_lemma => kernel_rfl) (by as_aux_lemma => kernel_rfl) ⟨by rw [World.cell?_drew]; exact hyc, by rw [World.cell?_drew]; exact hc⟩ ?_
  refine plan_yes (v := ?v0) (by simp only [List.getElem?_toArray, List.getElem?_cons_zero, List.getElem?_cons_succ]; exact rfl) (Or.inl ⟨by as_aux_lemma => rfl, ?hy0⟩) ?rest0
  case hy0 => (intro w2 hSw; (try dsimp only at hSw); obtain ⟨s0, s1⟩ := hSw; go_simp; try with_reducible rfl)
  try simp only [Act.put, List.setIfInBounds_toArray, List.set_cons_zero, List.set_cons_succ]
  refine plan_yes (v := ?v1) (by simp only [List.getElem?_toArray, List.getElem?_cons_zero, List.getElem?_cons_succ]; exact rfl) (Or.inl ⟨by as_aux_lemma => rfl, ?hy1⟩) ?rest1
  case hy1 => (intro w2 hSw; (try dsimp only at hSw); obtain ⟨s0, s1⟩ := hSw; go_simp; try with_reducible rfl)
  try simp only [Act.put, List.setIfInBounds_toArray, List.set_cons_zero, List.set_cons_succ]
  refine plan_yes (v := ?v2) (by simp only [List.getElem?_toArray, List.getElem?_cons_zero, List.getElem?_cons_succ]; exact rfl) (Or.inl ⟨by as_aux_lemma => rfl, ?hy2⟩) ?rest2
  case hy2 => (intro w2 hSw; (try dsimp only at hSw); obtain ⟨s0, s1⟩ := hSw; go_simp; try with_reducible rfl)
  try simp only [Act.put, List.setIfInBounds_toArray, List.set_cons_zero, List.set_cons_succ]
  refine plan_yes (v := ?v4) (by simp only [List.getElem?_toArray, List.getElem?_cons_zero, List.getElem?_cons_succ]; exact rfl) (Or.inl ⟨by as_aux_lemma => rfl, ?hy4⟩) ?rest4
  case hy4 => (intro w2 hSw; (try dsimp only at hSw); obtain ⟨s0, s1⟩ := hSw; go_simp; try with_reducible rfl)
  try simp only [Act.put, List.setIfInBounds_toArray, List.set_cons_zero, List.set_cons_succ]
  refine plan_calls (by simp only [List.getElem?_toArray, List.getElem?_cons_zero, List.getElem?_cons_succ]; exact rfl) (by as_aux_lemma => rfl) (fun K hK => ?_)
  go_simp
  refine (HC.out _ Bd).mono ?_
  rintro e w5 ⟨rfl, hb5⟩
  have B5 := Lib.hid (Bd.trans (hb5.mono Bd.size))
  refine hK.out _ _ ⟨(hb5.cell (p := ⟨yb, 0, none⟩) hys).trans hyc, (hb5.cell (p := ⟨sb, 0, none⟩) hs).trans hc⟩ ?_
  clear hK K
  try simp only [Act.put, List.setIfInBounds_toArray, List.set_cons_zero, List.set_cons_succ]
  refine plan_yes (v := ?v5) (by simp only [List.getElem?_toArray, List.getElem?_cons_zero, List.getElem?_cons_succ]; exact rfl) (Or.inl ⟨by as_aux_lemma => rfl, ?hy5⟩) ?rest5
  case hy5 => (intro w2 hSw; (try dsimp only at hSw); obtain ⟨s0, s1⟩ := hSw; go_simp; try with_reducible rfl)
  try simp only [Act.put, List.setIfInBounds_toArray, List.set_cons_zero, List.set_cons_succ]
  refine plan_yes (v := ?v6) (by simp only [List.getElem?_toArray, List.getElem?_cons_zero, List.getElem?_cons_succ]; exact rfl) (Or.inl ⟨by as_aux_lemma => rfl, ?hy6⟩) ?rest6
  case hy6 => (intro w2 hSw; (try dsimp only at hSw); obtain ⟨s0, s1⟩ := hSw; go_simp; try with_reducible rfl)
  try simp only [Act.put, List.setIfInBounds_toArray, List.set_cons_zero, List.set_cons_succ]
  refine plan_done (NoPanic.normal ?_)
  clear hb5
  go_simp
  go_wp2
  go_ret
  exact ⟨rfl, B5.out⟩
theorem bg_lt {y m y' m' : Int} (a1 : 1 ≤ m) (a2 : m ≤ 12) (b1 : 1 ≤ m') (b2 : m' ≤ 12) (h : y < y' ∨ (y = y' ∧ m < m')) : bgI y m < bgI y' m' := by
  have := dn_lt (may_one (y := y) a1 a2) (may_one (y := y') b1 b2) (by unfold dLt; omega)
  unfold bgI
  omega
theorem bg_le {y m y' m' : Int} (a1 : 1 ≤ m) (a2 : m ≤ 12) (b1 : 1 ≤ m') (b2 : m' ≤ 12) (h : y < y' ∨ (y = y' ∧ m ≤ m')) : bgI y m ≤ bgI y' m' := by
  by_cases e : y = y' ∧ m = m'
  · rw [e.1, e.2]; exact Int.le_refl _
  · exact Int.le_of_lt (bg_lt a1 a2 b1 b2 (by omega))
theorem bg_civ {S y m d h i s : Int} (hc : IsCiv S 0 y m d h i s 0 0) : bgI y m ≤ S ∧ (∀ y' m', 1 ≤ m' → m' ≤ 12 → (y < y' ∨ (y = y' ∧ m < m')) → S < bgI y' m') ∧ S - bgI y m = (d - 1) * 86400 + (3600 * h + 60 * i + s) := by
  obtain ⟨y1, y2, m1, m2, d1, d2, h0, h1, i0, i1, s0, s1, ck, nu⟩ := isCiv_bd hc
  have mb : mayB y m d = true := (of_ckC (by
    have kk : ckK h i s 0 = 0 := by unfold ckK; rw [if_pos (by unfold okK; omega)]
    rw [ckT_ok kk] at ck
    exact ck)).1
  have e1 : dnI y m d = dnI y m 1 + (d - 1) := by unfold dnI; omega
  have hS : S = dnI y m d * 86400 + (3600 * h + 60 * i + s) := by rw [← nu]; unfold nuT scK; rfl
  refine ⟨by unfold bgI; omega, fun y' m' a b hl => ?_, by unfold bgI; omega⟩
  have := dn_lt mb (may_one (y := y') a b) (by unfold dLt; omega)
  unfold bgI
  omega
set_option maxHeartbeats 3200000 in
set_option maxRecDepth 100000 in
theorem pMomWord_any (sec : Int) (s1 : -377705116800 ≤ sec) (s2 : sec ≤ 253402300799) (w : World) (hK : KX w) : Calls Tryz.prog 26 #[.int .i64 sec] w fun e w' => e = .returned (.string (bs (momL sec))) ∧ Below w.heap.size w w' := by
  obtain ⟨y, m, d, h, i, s, hc⟩ := civ_of sec s1 s2
  obtain ⟨y1, y2, m1, m2, d1, d2, h0, h1, i0, i1, x0, x1, ck, nu⟩ := isCiv_bd hc
  obtain ⟨g1, g2, g3⟩ := bg_civ hc
  rw [momL_of hc s1 s2, ← moW_cat h0 h1 i0 i1 x0 x1]
  -- the two searches
  have S1 : Hid (∀ W sb, Below w.heap.size w W → sb < W.heap.size → W.cell? ⟨sb, 0, none⟩ = some (.int .i64 sec) → Calls Tryz.prog 48 #[.int .i64 19998, .func (.func 49) #[] #[.pointer (some ⟨sb, 0, none⟩)]] W fun e w' => e = .returned (.int .i64 (y + 9999)) ∧ Below W.heap.size W w') := Lib.hid (fun W sb hW hsb hcell => by
    have := pSearch_1 (fun i => decide (sec < bgI ((i : Int) - 9998) 1)) (fun i j hij hp => by
      rw [decide_eq_true_eq] at hp ⊢
      exact Int.lt_of_lt_of_le hp (bg_le (by decide) (by decide) (by decide) (by decide) (by omega))) 19998 (by decide) (some ⟨sb, 0, none⟩) W (Lib.hid (fun i hi V hV => pMw1_any i hi sb sec V (kx_keep (Lib.hid (kx_keep (Lib.hid hK) hW)) hV) (Nat.lt_of_lt_of_le hsb hV.size) ((hV.cell (p := ⟨sb, 0, none⟩) hsb).trans hcell)))
    refine this.mono ?_
    rintro e w' ⟨⟨r, hr, rfl, hlo, hhi⟩, hb⟩
    refine ⟨?_, hb⟩
    congr 2
    apply Classical.byContradiction
    intro hne
    by_cases hlt : (r : Int) < y + 9999
    · have := hhi r (Nat.le_refl _) (by omega)
      rw [decide_eq_true_eq] at this
      have := bg_le (y := (r : Int) - 9998) (m := 1) (y' := y) (m' := m) (by decide) (by decide) m1 m2 (by omega)
      omega
    · have := hlo (r - 1) (by omega)
      rw [decide_eq_false_iff_not] at this
      have := g2 (((r - 1 : Nat) : Int) - 9998) 1 (by decide) (by decide) (by omega)
      omega)
  have S2 : Hid (∀ W yb sb, Below w.heap.size w W → sb < W.heap.size → W.cell? ⟨sb, 0, none⟩ = some (.int .i64 sec) → yb < W.heap.size → W.cell? ⟨yb, 0, none⟩ = some (.int .i64 y) → Calls Tryz.prog 48 #[.int .i64 11, .func (.func 51) #[] #[.pointer (some ⟨yb, 0, none⟩), .pointer (some ⟨sb, 0, none⟩)]] W fun e w' => e = .returned (.int .i64 (m - 1)) ∧ Below W.heap.size W w') := Lib.hid (fun W yb sb hW hsb hcell hyb hyc => by
    have := pSearch_2 (fun i => decide (sec < bgI y (min ((i : Int) + 2) 12)) || decide (10 < i)) (fun i j hij hp => by
      rw [Bool.or_eq_true, decide_eq_true_eq, decide_eq_true_eq] at hp ⊢
      rcases hp with hp | hp
      · exact Or.inl (Int.lt_of_lt_of_le hp (bg_le (by omega) (by omega) (by omega) (by omega) (by omega)))
      · exact Or.inr (by omega)) 11 (by decide) (some ⟨sb, 0, none⟩) (some ⟨yb, 0, none⟩) W (Lib.hid (fun i hi V hV => by
        have := pMw2_any i hi yb sb y sec y1 y2 V (kx_keep (Lib.hid (kx_keep (Lib.hid hK) hW)) hV) (Nat.lt_of_lt_of_le hsb hV.size) ((hV.cell (p := ⟨sb, 0, none⟩) hsb).trans hcell) (Nat.lt_of_lt_of_le hyb hV.size) ((hV.cell (p := ⟨yb, 0, none⟩) hyb).trans hyc)
        rw [show min ((i : Int) + 2) 12 = (i : Int) + 2 by omega, show decide (10 < i) = false from decide_eq_false (by omega), Bool.or_false]
        exact this))
    refine this.mono ?_
    rintro e w' ⟨⟨r, hr, rfl, hlo, hhi⟩, hb⟩
    refine ⟨?_, hb⟩
    congr 2
    apply Classical.byContradiction
    intro hne
    by_cases hlt : (r : Int) < m - 1
    · have := hhi r (Nat.le_refl _) (by omega)
      rw [Bool.or_eq_true, decide_eq_true_eq, decide_eq_true_eq, show min ((r : Int) + 2) 12 = (r : Int) + 2 by omega] at this
      have := bg_le (y := y) (m := (r : Int) + 2) (y' := y) (m' := m) (by omega) (by omega) m1 m2 (by omega)
      omega
    · have := hlo (r - 1) (by omega)
      rw [Bool.or_eq_false_iff, decide_eq_false_iff_not, decide_eq_false_iff_not, show min (((r - 1 : Nat) : Int) + 2) 12 = (r : Int) + 1 by omega] at this
      have := g2 y ((r : Int) + 1) (by omega) (by omega) (by omega)
      omega)
  have HB : Hid (∀ W, Below w.heap.size w W → Calls Tryz.prog 50 #[.int .i64 y, .int .i64 m] W fun e w' => e = .returned (.int .i64 (bgI y m)) ∧ Below W.heap.size W w') := Lib.hid (fun W hW => pBegin_any y m y1 y2 m1 m2 W (kx_keep (Lib.hid hK) hW))
  have e1 : (sec - bgI y m) / 86400 = d - 1 := by omega
  have e2 : (sec - bgI y m) % 86400 = 3600 * h + 60 * i + s := by omega
  have rb0 : 0 ≤ sec - bgI y m := by omega
  have rb1 : sec - bgI y m ≤ 2678399 := by omega
  have HD : Hid (∀ W, Below w.heap.size w W → Calls Tryz.prog 52 #[.int .i64 y, .int .i64 m, .int .i64 d] W fun e w' => e = .returned (.string (bs (datW y m d))) ∧ Below W.heap.size W w') := Lib.hid (fun W hW => pDateWord_any y m d y1 y2 (by omega) (by omega) (by omega) (by omega) W (kx_keep (Lib.hid hK) hW))
  have HC : Hid (∀ W, Below w.heap.size w W → Calls Tryz.prog 53 #[.int .i64 (3600 * h + 60 * i + s)] W fun e w' => e = .returned (.string (bs (clkL (3600 * h + 60 * i + s)))) ∧ Below W.heap.size W w') := Lib.hid (fun W hW => pClockWord_any _ (by omega) (by omega) W (kx_keep (Lib.hid hK) hW))
  have hl := datW_len y m d
  have z1 := bs_size (datW y m d)
  have z2 : (bs (clkL (3600 * h + 60 * i + s))).size = 8 := by rw [bs_size]; rfl
  have a1 : bs (datW y m d) ++ (⟨#[84]⟩ : ByteArray) = bs (datW y m d ++ [84]) := by rw [lit_bs15, append_bs]
  have z3 : (bs (datW y m d ++ [84])).size = (datW y m d).length + 1 := by rw [bs_size, List.length_append]; rfl
  have a2 := append_bs (datW y m d ++ [84]) (clkL (3600 * h + 60 * i + s))
  have n1 : ¬ (9223372036854775807 < (datW y m d).length + 1) := by omega
  have n2 : ¬ (9223372036854775807 < (datW y m d).length + 1 + 8) := by omega
  have wy : IntKind.i64.wrap (-9999 + (y + 9999)) = y := by rw [IntKind.wrap_i64]; omega
  have wm : IntKind.i64.wrap (1 + (m - 1)) = m := by rw [IntKind.wrap_i64]; omega
  have e3 : (sec - bgI y m).tdiv 86400 = d - 1 := by rw [Int.tdiv_eq_ediv_of_nonneg rb0]; exact e1
  have e4 : (sec - bgI y m).tmod 86400 = 3600 * h + 60 * i + s := by rw [Int.tmod_eq_emod_of_nonneg rb0]; exact e2
  have wd1 : IntKind.i64.wrap (d - 1) = d - 1 := by rw [IntKind.wrap_i64]; omega
  have wd2 : IntKind.i64.wrap (1 + (d - 1)) = d := by rw [IntKind.wrap_i64]; omega
  have wc : IntKind.i64.wrap (3600 * h + 60 * i + s) = 3600 * h + 60 * i + s := by rw [IntKind.wrap_i64]; omega
  generalize datW y m d ++ [84] ++ clkL (3600 * h + 60 * i + s) = S22 at *
  generalize datW y m d ++ [84] = S11 at *
  generalize datW y m d = D at *
  generalize clkL (3600 * h + 60 * i + s) = C at *
  generalize hCK : 3600 * h + 60 * i + s = CK at *
  generalize bgI y m = g at *
  obtain ⟨RS, hRS⟩ : ∃ RS, sec - g = RS := ⟨_, rfl⟩
  have wr : IntKind.i64.wrap (sec - g) = RS := by rw [IntKind.wrap_i64]; omega
  rw [hRS] at e3 e4
  generalize hY9 : y + 9999 = Y9 at *
  generalize hM1 : m - 1 = M1 at *
  generalize hD1 : d - 1 = D1 at *
  replace hCK := Lib.hid hCK
  replace hRS := Lib.hid hRS
  replace hY9 := Lib.hid hY9
  replace hM1 := Lib.hid hM1
  replace hD1 := Lib.hid hD1
  have hmf : ∀ (fn : Fn) (first cap : Array Value) (w : World), (Instr.makeFunc fn first cap).run Tryz.prog w = .ok (.func fn first cap) w := fun _ _ _ _ => rfl
  clear e1 e2 rb0 rb1 g1 g2 g3 hc ck nu hK y1 y2 m1 m2 d1 d2 h0 h1 i0 i1 x0 x1 s1 s2
  go_enter Tryz.func26, Tryz.ntmps26
  go_wp2_with fail
  have B1 := Lib.hid ((Below.refl _ w).alloc (Nat.le_refl _) (.cells #[.int .i64 sec] 3))
  have A1 := Lib.hid (heap_alloc_new w (.cells #[.int .i64 sec] 3))
  refine (S1.out _ w.heap.size B1.out (by simp) (by rw [Lib.cell_of_heap A1.out]; rfl)).mono ?_
  rintro e w2 ⟨rfl, hb2⟩
  have B2 := Lib.hid (B1.out.trans (hb2.mono B1.out.size))
  have A2 := row_call hb2 A1.out
  have c2 : w2.cell? ⟨w.heap.size, 0, none⟩ = some (.int .i64 sec) := by rw [Lib.cell_of_heap A2]; rfl
  have l2 := lt_of_heap A2
  clear hb2
  replace A2 := Lib.hid A2
  go_wp2_with fail
  have B3 := Lib.hid (B2.out.alloc B2.out.size (.cells #[.int .i64 y] 3))
  have Y3 := Lib.hid (heap_alloc_new w2 (.cells #[.int .i64 y] 3))
  have A3 := Lib.hid (row_alloc A2.out (.cells #[.int .i64 y] 3))
  refine (S2.out _ w2.heap.size w.heap.size B3.out (by simp; omega) (by rw [Lib.cell_of_heap A3.out]; rfl) (by simp) (by rw [Lib.cell_of_heap Y3.out]; rfl)).mono ?_
  rintro e w4 ⟨rfl, hb4⟩
  have B4 := Lib.hid (B3.out.trans (hb4.mono B3.out.size))
  have A4 := row_call hb4 A3.out
  have Y4 := row_call hb4 Y3.out
  have c4 : w4.cell? ⟨w.heap.size, 0, none⟩ = some (.int .i64 sec) := by rw [Lib.cell_of_heap A4]; rfl
  have y4 : w4.cell? ⟨w2.heap.size, 0, none⟩ = some (.int .i64 y) := by rw [Lib.cell_of_heap Y4]; rfl
  have lA := lt_of_heap A4
  have lY := lt_of_heap Y4
  clear hb4 c2 l2 A3 Y3
  replace A4 := Lib.hid A4
  replace Y4 := Lib.hid Y4
  go_wp2_with fail
  have Bd : Below w.heap.size w w4.drew := B4.out.drew
  refine region_plan (S := fun w2' => w2'.cell? ⟨w.heap.size, 0, none⟩ = some (.int .i64 sec) ∧ w2'.cell? ⟨w2.heap.size, 0, none⟩ = some (.int .i64 y)) [(0, true), (1, true), (2, true), (3, false), (4, true), (5, true)] (by as_aux_lemma => kernel_rfl) (by as_aux_lemma => kernel_rfl) (by as_aux_lemma => kernel_rfl) (by as_aux_lemma => kernel_rfl) ⟨by rw [World.cell?_drew]; exact c4, by rw [World.cell?_drew]; exact y4⟩ ?_
  refine plan_yes (v := ?v0) (by simp only [List.getElem?_toArray, List.getElem?_cons_zero, List.getElem?_cons_succ]; exact rfl) (Or.inl ⟨by as_aux_lemma => rfl, ?hy0⟩) ?rest0
  case hy0 => (intro w2 hSw; (try dsimp only at hSw); obtain ⟨s0, s1⟩ := hSw; go_simp; try with_reducible rfl)
  try simp only [Act.put, List.setIfInBounds_toArray, List.set_cons_zero, List.set_cons_succ]
  refine plan_yes (v := ?v1) (by simp only [List.getElem?_toArray, List.getElem?_cons_zero, List.getElem?_cons_succ]; exact rfl) (Or.inl ⟨by as_aux_lemma => rfl, ?hy1⟩) ?rest1
  case hy1 => (intro w2 hSw; (try dsimp only at hSw); obtain ⟨s0, s1⟩ := hSw; go_simp; try with_reducible rfl)
  try simp only [Act.put, List.setIfInBounds_toArray, List.set_cons_zero, List.set_cons_succ]
  refine plan_yes (v := ?v2) (by simp only [List.getElem?_toArray, List.getElem?_cons_zero, List.getElem?_cons_succ]; exact rfl) (Or.inl ⟨by as_aux_lemma => rfl, ?hy2⟩) ?rest2
  case hy2 => (intro w2 hSw; (try dsimp only at hSw); obtain ⟨s0, s1⟩ := hSw; go_simp; try with_reducible rfl)
  try simp only [Act.put, List.setIfInBounds_toArray, List.set_cons_zero, List.set_cons_succ]
  refine plan_calls (by simp only [List.getElem?_toArray, List.getElem?_cons_zero, List.getElem?_cons_succ]; exact rfl) (by as_aux_lemma => rfl) (fun K hK => ?_)
  go_simp
  refine (HB.out _ Bd).mono ?_
  rintro e w5 ⟨rfl, hb5⟩
  have B5 := Lib.hid (Bd.trans (hb5.mono Bd.size))
  refine hK.out _ _ ⟨(hb5.cell (p := ⟨w.heap.size, 0, none⟩) lA).trans c4, (hb5.cell (p := ⟨w2.heap.size, 0, none⟩) lY).trans y4⟩ ?_
  clear hK K
  try simp only [Act.put, List.setIfInBounds_toArray, List.set_cons_zero, List.set_cons_succ]
  refine plan_yes (v := ?v4) (by simp only [List.getElem?_toArray, List.getElem?_cons_zero, List.getElem?_cons_succ]; exact rfl) (Or.inl ⟨by as_aux_lemma => rfl, ?hy4⟩) ?rest4
  case hy4 => (intro w2 hSw; (try dsimp only at hSw); obtain ⟨s0, s1⟩ := hSw; go_simp; try with_reducible rfl)
  try simp only [Act.put, List.setIfInBounds_toArray, List.set_cons_zero, List.set_cons_succ]
  refine plan_yes (v := ?v5) (by simp only [List.getElem?_toArray, List.getElem?_cons_zero, List.getElem?_cons_succ]; exact rfl) (Or.inl ⟨by as_aux_lemma => rfl, ?hy5⟩) ?rest5
  case hy5 => (intro w2 hSw; (try dsimp only at hSw); obtain ⟨s0, s1⟩ := hSw; go_simp; try with_reducible rfl)
  try simp only [Act.put, List.setIfInBounds_toArray, List.set_cons_zero, List.set_cons_succ]
  refine plan_done (NoPanic.normal ?_)
  have Y5 := row_call hb5 Y4.out
  have y5 : w5.cell? ⟨w2.heap.size, 0, none⟩ = some (.int .i64 y) := by rw [Lib.cell_of_heap Y5]; rfl
  clear hb5 c4 y4 lA lY
  replace Y5 := Lib.hid Y5
  go_simp
  go_wp2_with fail
  refine (HD.out _ B5.out).mono ?_
  rintro e w6 ⟨rfl, hb6⟩
  have B6 := Lib.hid (B5.out.trans (hb6.mono B5.out.size))
  clear hb6 y5
  go_wp2_with fail
  refine (HC.out _ B6.out).mono ?_
  rintro e w7 ⟨rfl, hb7⟩
  have B7 := Lib.hid (B6.out.trans (hb7.mono B6.out.size))
  clear hb7
  go_wp2
  go_ret
  exact ⟨by try rfl, B7.out⟩
end Go.Proofs.YteinjdmkmfeniaaGreatDoor
namespace Go.Proofs.YteinjdmkmfeniaaGreatDoor
set_option linter.unusedVariables false
set_option linter.unusedSimpArgs false
open Go.ChangeShapes Go.WideShapes Go.ChangeAt Go.RowKit
def Wds (w : World) (b : Nat) (ws : List (List UInt8)) : Prop := ∃ cs fz, w.heap[b]? = some (.cells cs 9 fz) ∧ ∀ j (h : j < ws.length), cs[j]? = some (.string (bs ws[j]))
theorem Wds.keep {w w' : World} {b : Nat} {ws : List (List UInt8)} (h : Wds w b ws) (hb : w'.heap[b]? = w.heap[b]?) : Wds w' b ws := by
  obtain ⟨cs, fz, h1, h2⟩ := h
  exact ⟨cs, fz, hb.trans h1, h2⟩
theorem Wds.lt {w : World} {b : Nat} {ws : List (List UInt8)} (h : Wds w b ws) : b < w.heap.size := by
  obtain ⟨cs, fz, h1, _⟩ := h
  exact (Array.getElem?_eq_some_iff.1 h1).1
theorem Wds.cell {w : World} {b : Nat} {ws : List (List UInt8)} (h : Wds w b ws) {j : Nat} (hj : j < ws.length) : w.cell? ⟨b, j, none⟩ = some (.string (bs ws[j])) := by
  obtain ⟨cs, fz, h1, h2⟩ := h
  unfold World.cell?
  rw [h1]
  simp [h2 j hj]
theorem Wds.ne {w : World} {b B n : Nat} {ws : List (List UInt8)} {v : Value} {xs : List Value} (h : Wds w b ws) (ho : w.ownsRow B 59 2 v n xs) : v.ownBlock ≠ some b := by
  obtain ⟨cs, fz, h1, _⟩ := h
  exact own_kind ho h1 (fun c fz e => by injection e with _ e2; exact absurd e2 (by decide))
def lineK (ws : List (List UInt8)) : List Tok := ws.map (fun t => (t, 0)) ++ [([10], 0)]
set_option maxHeartbeats 3200000 in
set_option maxRecDepth 100000 in
theorem pWith_any {B : Nat} (T : List Tok) (ws : List (List UInt8)) (hT : T.length ≤ 100000) (hW : ws.length ≤ 100000) (b c : Nat) (v : Value) (w : World) (hB : B ≤ w.heap.size) (hown : w.ownsRow B 59 2 v T.length (tokVs T)) (hw : Wds w b ws) :
    Calls Tryz.prog 11 #[v, .slice (some ⟨b, 0, none⟩) ws.length c] w fun e w' => ∃ v', e = .returned v' ∧ w'.ownsRow B 59 2 v' (T.length + ws.length + 1) (tokVs (T ++ lineK ws)) ∧ Below B w w' := by
  obtain ⟨i0, hi, hz0, hz1, hz2⟩ := info_parts infoTok
  have hb0 := Lib.hid bs_nl
  go_enter Tryz.func11, Tryz.ntmps11
  go_wp2
  go_loopw [0, 9] (fun tv i wr => ∃ k : Nat, k ≤ ws.length ∧ i = .int .i64 (k : Int) ∧ wr.ownsRow B 59 2 tv (T.length + k) (tokVs (T ++ (ws.take k).map (fun t => (t, 0)))) ∧ wr.heap[b]? = w.heap[b]? ∧ Below B w wr ∧ B ≤ wr.heap.size) (fun _ i _ => ws.length - (intOf i).toNat)
  case atStart => exact ⟨0, by omega, rfl, by simpa using hown, rfl, Below.refl _ _, hB⟩
  case round =>
    obtain ⟨k, hk, rfl, hto, hbk, hbl, hsz⟩ := hrel
    have hw2 := hw.keep hbk
    obtain ⟨TA, tc, tg, rfl, -⟩ := own_form hto
    by_cases hlt : k < ws.length
    · have hcell := hw2.cell hlt
      have hne := hw2.ne hto
      have hbl2 := hw2.lt
      have htk : ws.take (k + 1) = ws.take k ++ [ws[k]] := List.take_succ_eq_append_getElem hlt
      generalize ws[k] = t at *
      have hkn : (k : Int) < (ws.length : Int) := by omega
      have hk0 : (0 : Int) ≤ (k : Int) := by omega
      replace htk := Lib.hid htk
      replace hw := Lib.hid hw
      replace hw2 := Lib.hid hw2
      replace hbk := Lib.hid hbk
      have hbl' := Lib.hid hbl
      go_wp2_with (first
        | (at_builtin
           refine wpList_append_lies _ rfl (.tmp 13) (.tmp 16) 42 rfl B 59 i0 (.agg #[.string ⟨#[]⟩, .int .i64 0]) 2 24 Tryz.underlying42 hi hz0 hz1 hz2 rfl (by decide) _ _ _ rfl (hto.alloc _) ⟨wr.heap.size, 0, none⟩ 1 1 [.string (bs t), .int .i64 0] rfl rfl (news2 _ _ _ _) (one2 rfl rfl) (by decide) (by unfold maxLen; omega) (by omega) (by simp; omega) _ rfl ?_
           intro g cap w3 hown1 hgrow hat hlt1)
        | fail)
      have hb3 : Hid (w3.heap[b]? = w.heap[b]?) := Lib.hid ((app_keep hgrow hbl2 hne).trans hbk.out)
      have hbl3 := Lib.hid (bel_append hbl'.out hsz hto hgrow)
      have hs3 : Hid (B ≤ w3.heap.size) := Lib.hid (by have := hgrow.size; simp at this; omega)
      have ho3 : Hid (w3.ownsRow B 59 2 (.slice (some ⟨g, 0, none⟩) (T.length + k + 1) cap) (T.length + (k + 1)) (tokVs (T ++ (ws.take (k + 1)).map (fun t => (t, 0))))) := Lib.hid (by
        rw [htk.out, List.map_append, ← List.append_assoc, List.map_cons, List.map_nil, tokVs_snoc]
        exact hown1)
      clear hown1 hgrow hat hlt1 hto hbl hbl'
      go_wp2
      go_roundw
      case rel => exact ⟨k + 1, by omega, by go_num, ho3.out, hb3.out, hbl3.out, hs3.out⟩
      case measure => simp [intOf]; omega
    · obtain rfl : k = ws.length := by omega
      have hkn : ¬ ((ws.length : Int) < (ws.length : Int)) := by omega
      rw [List.take_length] at hto
      replace hw := Lib.hid hw
      replace hw2 := Lib.hid hw2
      replace hbk := Lib.hid hbk
      have hbl' := Lib.hid hbl
      have hb1 := hb0.out
      go_wp2_with (first
        | (at_builtin
           refine wpList_append_lies _ rfl (.tmp 19) (.tmp 21) 42 rfl B 59 i0 (.agg #[.string ⟨#[]⟩, .int .i64 0]) 2 24 Tryz.underlying42 hi hz0 hz1 hz2 rfl (by decide) _ _ _ rfl (hto.alloc _) ⟨wr.heap.size, 0, none⟩ 1 1 [.string (bs [10]), .int .i64 0] rfl rfl (news2 _ _ _ _) (one2 rfl rfl) (by decide) (by unfold maxLen; omega) (by omega) (by simp; omega) _ rfl ?_
           intro g cap w3 hown1 hgrow hat hlt1)
        | fail)
      have hbl3 := Lib.hid (bel_append hbl'.out hsz hto hgrow)
      have ho3 : Hid (w3.ownsRow B 59 2 (.slice (some ⟨g, 0, none⟩) (T.length + ws.length + 1) cap) (T.length + ws.length + 1) (tokVs (T ++ lineK ws))) := Lib.hid (by
        unfold lineK
        rw [← List.append_assoc, tokVs_snoc]
        exact hown1)
      clear hown1 hgrow hat hlt1 hto hbl hbl'
      go_wp2
      go_ret
      exact ⟨_, rfl, ho3.out, hbl3.out⟩
end Go.Proofs.YteinjdmkmfeniaaGreatDoor
