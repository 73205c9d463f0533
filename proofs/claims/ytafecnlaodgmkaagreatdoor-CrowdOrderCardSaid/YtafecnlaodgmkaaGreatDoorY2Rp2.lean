/- Several texts in one: RpK. -/
import Derived.Test.YtafecnlaodgmkaaGreatDoorY2Sm
import Derived.Test.YtafecnlaodgmkaaGreatDoorY2Rp1
namespace Go.Proofs.YtafecnlaodgmkaaGreatDoor
set_option linter.unusedVariables false
set_option linter.unusedSimpArgs false
open Go.ChangeShapes Go.WideShapes Go.ChangeAt Go.RowKit
theorem rdk_keep {w w' : World} {A : Option Addr} {xs : List Value} (h : Hid (KX w ∧ Rd w A xs)) (hb : Below w.heap.size w w') : KX w' ∧ Rd w' A xs := ⟨kx_keep (Lib.hid h.out.1) hb, h.out.2.below hb (Nat.le_refl _)⟩
set_option maxHeartbeats 1600000 in
set_option maxRecDepth 100000 in
theorem chk_big (S B : ByteArray) (off : Int) (dst : Bool) (A : Option Addr) (N c : Nat) (xs : List Value) (h16 : decide ((16 : Int) < (N : Int)) = true) (w : World) (hM : Hid (KX w ∧ Rd w A xs)) :
    Calls Tryz.prog 65 #[.agg #[.string S, .int .i64 off, .bool dst, .string B, .slice A N c]] w fun e w' => e = .returned (.int .i64 1) ∧ Below w.heap.size w w' := by
  go_enter Tryz.func65, Tryz.ntmps65
  go_wp2
  go_ret
  exact ⟨rfl, (Below.refl _ _).alloc (Nat.le_refl _) _⟩
set_option maxHeartbeats 1600000 in
set_option maxRecDepth 100000 in
theorem chk_tails (S B : ByteArray) (off : Int) (dst : Bool) (A : Option Addr) (N c : Nat) (xs : List Value) (h16 : decide ((16 : Int) < (N : Int)) = false) (tn : Int) (h4 : decide ((4 : Int) < tn) = true) (HT : Hid (∀ w, (KX w ∧ Rd w A xs) → Calls Tryz.prog 85 #[.slice A N c] w fun e w' => e = .returned (.int .i64 tn) ∧ Below w.heap.size w w')) (w : World) (hM : Hid (KX w ∧ Rd w A xs)) :
    Calls Tryz.prog 65 #[.agg #[.string S, .int .i64 off, .bool dst, .string B, .slice A N c]] w fun e w' => e = .returned (.int .i64 1) ∧ Below w.heap.size w w' := by
  go_enter Tryz.func65, Tryz.ntmps65
  go_wp2_with fail
  
  refine (HT.out _ (by first | exact rdk_keep hM ((Below.refl w.heap.size w).alloc (Nat.le_refl _) _))).mono ?_
  rintro e V1 ⟨rfl, hb1⟩
  have B1 := nby hb1
  have S1 := Lib.hid (row_call hb1 (heap_alloc_new _ _))
  clear hb1
  obtain ⟨S1_0, S1_1, S1_2, S1_3, S1_4⟩ := qw5 S1
  have zS1 := lt_of_heap S1.out
  go_simp
  go_wp2
  go_ret
  exact ⟨rfl, B1.out⟩
set_option maxHeartbeats 1600000 in
set_option maxRecDepth 100000 in
theorem chk_name (S B : ByteArray) (off : Int) (dst : Bool) (A : Option Addr) (N c : Nat) (xs : List Value) (h16 : decide ((16 : Int) < (N : Int)) = false) (tn : Int) (h4 : decide ((4 : Int) < tn) = false) (ne : Int) (hne : (ne != 0) = true) (HT : Hid (∀ w, (KX w ∧ Rd w A xs) → Calls Tryz.prog 85 #[.slice A N c] w fun e w' => e = .returned (.int .i64 tn) ∧ Below w.heap.size w w')) (HN : Hid (∀ w, (KX w ∧ Rd w A xs) → Calls Tryz.prog 86 #[.string S] w fun e w' => e = .returned (.int .i64 ne) ∧ Below w.heap.size w w')) (w : World) (hM : Hid (KX w ∧ Rd w A xs)) :
    Calls Tryz.prog 65 #[.agg #[.string S, .int .i64 off, .bool dst, .string B, .slice A N c]] w fun e w' => e = .returned (.int .i64 2) ∧ Below w.heap.size w w' := by
  go_enter Tryz.func65, Tryz.ntmps65
  go_wp2_with fail
  
  refine (HT.out _ (by first | exact rdk_keep hM ((Below.refl w.heap.size w).alloc (Nat.le_refl _) _))).mono ?_
  rintro e V1 ⟨rfl, hb1⟩
  have B1 := nby hb1
  have S1 := Lib.hid (row_call hb1 (heap_alloc_new _ _))
  clear hb1
  obtain ⟨S1_0, S1_1, S1_2, S1_3, S1_4⟩ := qw5 S1
  have zS1 := lt_of_heap S1.out
  go_simp
  go_wp2_with fail
  refine (HN.out _ (by first | exact rdk_keep hM (B1.out) | exact rdk_keep hM ((B1.out).alloc (B1.out.size) _) | exact rdk_keep hM (((B1.out).alloc (B1.out.size) _).alloc (by have := B1.out.size; simp <;> omega) _) | exact rdk_keep hM ((((B1.out).alloc (B1.out.size) _).alloc (by have := B1.out.size; simp <;> omega) _).alloc (by have := B1.out.size; simp <;> omega) _))).mono ?_
  rintro e V2 ⟨rfl, hb2⟩
  clear S1_0 S1_1 S1_2 S1_3 S1_4 zS1
  have B2 : Hid (Below w.heap.size w V2) := nbx B1 hb2
  replace S1 := rcx hb2 S1
  clear hb2
  obtain ⟨S1_0, S1_1, S1_2, S1_3, S1_4⟩ := qw5 S1
  have zS1 := lt_of_heap S1.out
  go_simp
  go_wp2
  go_ret
  exact ⟨rfl, B2.out⟩
set_option maxHeartbeats 1600000 in
set_option maxRecDepth 100000 in
theorem chk_base (S B : ByteArray) (off : Int) (dst : Bool) (A : Option Addr) (N c : Nat) (xs : List Value) (h16 : decide ((16 : Int) < (N : Int)) = false) (tn : Int) (h4 : decide ((4 : Int) < tn) = false) (HT : Hid (∀ w, (KX w ∧ Rd w A xs) → Calls Tryz.prog 85 #[.slice A N c] w fun e w' => e = .returned (.int .i64 tn) ∧ Below w.heap.size w w')) (HN : Hid (∀ w, (KX w ∧ Rd w A xs) → Calls Tryz.prog 86 #[.string S] w fun e w' => e = .returned (.int .i64 0) ∧ Below w.heap.size w w')) (HM : Hid (∀ w, (KX w ∧ Rd w A xs) → Calls Tryz.prog 87 #[.agg #[.int .i64 off, .bool dst, .string B]] w fun e w' => e = .returned (.bool true) ∧ Below w.heap.size w w')) (w : World) (hM : Hid (KX w ∧ Rd w A xs)) :
    Calls Tryz.prog 65 #[.agg #[.string S, .int .i64 off, .bool dst, .string B, .slice A N c]] w fun e w' => e = .returned (.int .i64 2) ∧ Below w.heap.size w w' := by
  go_enter Tryz.func65, Tryz.ntmps65
  go_wp2_with fail
  
  refine (HT.out _ (by first | exact rdk_keep hM ((Below.refl w.heap.size w).alloc (Nat.le_refl _) _))).mono ?_
  rintro e V1 ⟨rfl, hb1⟩
  have B1 := nby hb1
  have S1 := Lib.hid (row_call hb1 (heap_alloc_new _ _))
  clear hb1
  obtain ⟨S1_0, S1_1, S1_2, S1_3, S1_4⟩ := qw5 S1
  have zS1 := lt_of_heap S1.out
  go_simp
  go_wp2_with fail
  refine (HN.out _ (by first | exact rdk_keep hM (B1.out) | exact rdk_keep hM ((B1.out).alloc (B1.out.size) _) | exact rdk_keep hM (((B1.out).alloc (B1.out.size) _).alloc (by have := B1.out.size; simp <;> omega) _) | exact rdk_keep hM ((((B1.out).alloc (B1.out.size) _).alloc (by have := B1.out.size; simp <;> omega) _).alloc (by have := B1.out.size; simp <;> omega) _))).mono ?_
  rintro e V2 ⟨rfl, hb2⟩
  clear S1_0 S1_1 S1_2 S1_3 S1_4 zS1
  have B2 : Hid (Below w.heap.size w V2) := nbx B1 hb2
  replace S1 := rcx hb2 S1
  clear hb2
  obtain ⟨S1_0, S1_1, S1_2, S1_3, S1_4⟩ := qw5 S1
  have zS1 := lt_of_heap S1.out
  go_simp
  go_wp2_with fail
  refine (HM.out _ (by first | exact rdk_keep hM (B2.out) | exact rdk_keep hM ((B2.out).alloc (B2.out.size) _) | exact rdk_keep hM (((B2.out).alloc (B2.out.size) _).alloc (by have := B2.out.size; simp <;> omega) _) | exact rdk_keep hM ((((B2.out).alloc (B2.out.size) _).alloc (by have := B2.out.size; simp <;> omega) _).alloc (by have := B2.out.size; simp <;> omega) _))).mono ?_
  rintro e V3 ⟨rfl, hb3⟩
  clear S1_0 S1_1 S1_2 S1_3 S1_4 zS1
  have B3 : Hid (Below w.heap.size w V3) := nbx B2 hb3
  replace S1 := rcx hb3 S1
  clear hb3
  obtain ⟨S1_0, S1_1, S1_2, S1_3, S1_4⟩ := qw5 S1
  have zS1 := lt_of_heap S1.out
  go_simp
  go_wp2
  go_ret
  exact ⟨rfl, B3.out⟩
set_option maxHeartbeats 1600000 in
set_option maxRecDepth 100000 in
theorem chk_abbs (S B : ByteArray) (off : Int) (dst : Bool) (A : Option Addr) (N c : Nat) (xs : List Value) (h16 : decide ((16 : Int) < (N : Int)) = false) (tn : Int) (h4 : decide ((4 : Int) < tn) = false) (HT : Hid (∀ w, (KX w ∧ Rd w A xs) → Calls Tryz.prog 85 #[.slice A N c] w fun e w' => e = .returned (.int .i64 tn) ∧ Below w.heap.size w w')) (HN : Hid (∀ w, (KX w ∧ Rd w A xs) → Calls Tryz.prog 86 #[.string S] w fun e w' => e = .returned (.int .i64 0) ∧ Below w.heap.size w w')) (HM : Hid (∀ w, (KX w ∧ Rd w A xs) → Calls Tryz.prog 87 #[.agg #[.int .i64 off, .bool dst, .string B]] w fun e w' => e = .returned (.bool false) ∧ Below w.heap.size w w')) (HA : Hid (∀ w, (KX w ∧ Rd w A xs) → Calls Tryz.prog 88 #[.slice A N c, .func (.func 89) #[] #[]] w fun e w' => e = .returned (.bool true) ∧ Below w.heap.size w w')) (w : World) (hM : Hid (KX w ∧ Rd w A xs)) :
    Calls Tryz.prog 65 #[.agg #[.string S, .int .i64 off, .bool dst, .string B, .slice A N c]] w fun e w' => e = .returned (.int .i64 2) ∧ Below w.heap.size w w' := by
  go_enter Tryz.func65, Tryz.ntmps65
  go_wp2_with fail
  
  refine (HT.out _ (by first | exact rdk_keep hM ((Below.refl w.heap.size w).alloc (Nat.le_refl _) _))).mono ?_
  rintro e V1 ⟨rfl, hb1⟩
  have B1 := nby hb1
  have S1 := Lib.hid (row_call hb1 (heap_alloc_new _ _))
  clear hb1
  obtain ⟨S1_0, S1_1, S1_2, S1_3, S1_4⟩ := qw5 S1
  have zS1 := lt_of_heap S1.out
  go_simp
  go_wp2_with fail
  refine (HN.out _ (by first | exact rdk_keep hM (B1.out) | exact rdk_keep hM ((B1.out).alloc (B1.out.size) _) | exact rdk_keep hM (((B1.out).alloc (B1.out.size) _).alloc (by have := B1.out.size; simp <;> omega) _) | exact rdk_keep hM ((((B1.out).alloc (B1.out.size) _).alloc (by have := B1.out.size; simp <;> omega) _).alloc (by have := B1.out.size; simp <;> omega) _))).mono ?_
  rintro e V2 ⟨rfl, hb2⟩
  clear S1_0 S1_1 S1_2 S1_3 S1_4 zS1
  have B2 : Hid (Below w.heap.size w V2) := nbx B1 hb2
  replace S1 := rcx hb2 S1
  clear hb2
  obtain ⟨S1_0, S1_1, S1_2, S1_3, S1_4⟩ := qw5 S1
  have zS1 := lt_of_heap S1.out
  go_simp
  go_wp2_with fail
  refine (HM.out _ (by first | exact rdk_keep hM (B2.out) | exact rdk_keep hM ((B2.out).alloc (B2.out.size) _) | exact rdk_keep hM (((B2.out).alloc (B2.out.size) _).alloc (by have := B2.out.size; simp <;> omega) _) | exact rdk_keep hM ((((B2.out).alloc (B2.out.size) _).alloc (by have := B2.out.size; simp <;> omega) _).alloc (by have := B2.out.size; simp <;> omega) _))).mono ?_
  rintro e V3 ⟨rfl, hb3⟩
  clear S1_0 S1_1 S1_2 S1_3 S1_4 zS1
  have B3 : Hid (Below w.heap.size w V3) := nbx B2 hb3
  replace S1 := rcx hb3 S1
  clear hb3
  obtain ⟨S1_0, S1_1, S1_2, S1_3, S1_4⟩ := qw5 S1
  have zS1 := lt_of_heap S1.out
  go_simp
  go_wp2_with fail
  refine (HA.out _ (by first | exact rdk_keep hM (B3.out) | exact rdk_keep hM ((B3.out).alloc (B3.out.size) _) | exact rdk_keep hM (((B3.out).alloc (B3.out.size) _).alloc (by have := B3.out.size; simp <;> omega) _) | exact rdk_keep hM ((((B3.out).alloc (B3.out.size) _).alloc (by have := B3.out.size; simp <;> omega) _).alloc (by have := B3.out.size; simp <;> omega) _))).mono ?_
  rintro e V4 ⟨rfl, hb4⟩
  clear S1_0 S1_1 S1_2 S1_3 S1_4 zS1
  have B4 : Hid (Below w.heap.size w V4) := nbx B3 hb4
  replace S1 := rcx hb4 S1
  clear hb4
  obtain ⟨S1_0, S1_1, S1_2, S1_3, S1_4⟩ := qw5 S1
  have zS1 := lt_of_heap S1.out
  go_simp
  go_wp2
  go_ret
  exact ⟨rfl, B4.out⟩
set_option maxHeartbeats 1600000 in
set_option maxRecDepth 100000 in
theorem chk_dst (S B : ByteArray) (off : Int) (A : Option Addr) (N c : Nat) (xs : List Value) (h16 : decide ((16 : Int) < (N : Int)) = false) (tn : Int) (h4 : decide ((4 : Int) < tn) = false) (HT : Hid (∀ w, (KX w ∧ Rd w A xs) → Calls Tryz.prog 85 #[.slice A N c] w fun e w' => e = .returned (.int .i64 tn) ∧ Below w.heap.size w w')) (HN : Hid (∀ w, (KX w ∧ Rd w A xs) → Calls Tryz.prog 86 #[.string S] w fun e w' => e = .returned (.int .i64 0) ∧ Below w.heap.size w w')) (HM : Hid (∀ w, (KX w ∧ Rd w A xs) → Calls Tryz.prog 87 #[.agg #[.int .i64 off, .bool true, .string B]] w fun e w' => e = .returned (.bool false) ∧ Below w.heap.size w w')) (HA : Hid (∀ w, (KX w ∧ Rd w A xs) → Calls Tryz.prog 88 #[.slice A N c, .func (.func 89) #[] #[]] w fun e w' => e = .returned (.bool false) ∧ Below w.heap.size w w')) (w : World) (hM : Hid (KX w ∧ Rd w A xs)) :
    Calls Tryz.prog 65 #[.agg #[.string S, .int .i64 off, .bool true, .string B, .slice A N c]] w fun e w' => e = .returned (.int .i64 5) ∧ Below w.heap.size w w' := by
  go_enter Tryz.func65, Tryz.ntmps65
  go_wp2_with fail
  
  refine (HT.out _ (by first | exact rdk_keep hM ((Below.refl w.heap.size w).alloc (Nat.le_refl _) _))).mono ?_
  rintro e V1 ⟨rfl, hb1⟩
  have B1 := nby hb1
  have S1 := Lib.hid (row_call hb1 (heap_alloc_new _ _))
  clear hb1
  obtain ⟨S1_0, S1_1, S1_2, S1_3, S1_4⟩ := qw5 S1
  have zS1 := lt_of_heap S1.out
  go_simp
  go_wp2_with fail
  refine (HN.out _ (by first | exact rdk_keep hM (B1.out) | exact rdk_keep hM ((B1.out).alloc (B1.out.size) _) | exact rdk_keep hM (((B1.out).alloc (B1.out.size) _).alloc (by have := B1.out.size; simp <;> omega) _) | exact rdk_keep hM ((((B1.out).alloc (B1.out.size) _).alloc (by have := B1.out.size; simp <;> omega) _).alloc (by have := B1.out.size; simp <;> omega) _))).mono ?_
  rintro e V2 ⟨rfl, hb2⟩
  clear S1_0 S1_1 S1_2 S1_3 S1_4 zS1
  have B2 : Hid (Below w.heap.size w V2) := nbx B1 hb2
  replace S1 := rcx hb2 S1
  clear hb2
  obtain ⟨S1_0, S1_1, S1_2, S1_3, S1_4⟩ := qw5 S1
  have zS1 := lt_of_heap S1.out
  go_simp
  go_wp2_with fail
  refine (HM.out _ (by first | exact rdk_keep hM (B2.out) | exact rdk_keep hM ((B2.out).alloc (B2.out.size) _) | exact rdk_keep hM (((B2.out).alloc (B2.out.size) _).alloc (by have := B2.out.size; simp <;> omega) _) | exact rdk_keep hM ((((B2.out).alloc (B2.out.size) _).alloc (by have := B2.out.size; simp <;> omega) _).alloc (by have := B2.out.size; simp <;> omega) _))).mono ?_
  rintro e V3 ⟨rfl, hb3⟩
  clear S1_0 S1_1 S1_2 S1_3 S1_4 zS1
  have B3 : Hid (Below w.heap.size w V3) := nbx B2 hb3
  replace S1 := rcx hb3 S1
  clear hb3
  obtain ⟨S1_0, S1_1, S1_2, S1_3, S1_4⟩ := qw5 S1
  have zS1 := lt_of_heap S1.out
  go_simp
  go_wp2_with fail
  refine (HA.out _ (by first | exact rdk_keep hM (B3.out) | exact rdk_keep hM ((B3.out).alloc (B3.out.size) _) | exact rdk_keep hM (((B3.out).alloc (B3.out.size) _).alloc (by have := B3.out.size; simp <;> omega) _) | exact rdk_keep hM ((((B3.out).alloc (B3.out.size) _).alloc (by have := B3.out.size; simp <;> omega) _).alloc (by have := B3.out.size; simp <;> omega) _))).mono ?_
  rintro e V4 ⟨rfl, hb4⟩
  clear S1_0 S1_1 S1_2 S1_3 S1_4 zS1
  have B4 : Hid (Below w.heap.size w V4) := nbx B3 hb4
  replace S1 := rcx hb4 S1
  clear hb4
  obtain ⟨S1_0, S1_1, S1_2, S1_3, S1_4⟩ := qw5 S1
  have zS1 := lt_of_heap S1.out
  go_simp
  go_wp2
  go_ret
  exact ⟨rfl, B4.out⟩
set_option maxHeartbeats 1600000 in
set_option maxRecDepth 100000 in
theorem chk_may (S B : ByteArray) (off : Int) (A : Option Addr) (N c : Nat) (xs : List Value) (h16 : decide ((16 : Int) < (N : Int)) = false) (tn : Int) (h4 : decide ((4 : Int) < tn) = false) (HT : Hid (∀ w, (KX w ∧ Rd w A xs) → Calls Tryz.prog 85 #[.slice A N c] w fun e w' => e = .returned (.int .i64 tn) ∧ Below w.heap.size w w')) (HN : Hid (∀ w, (KX w ∧ Rd w A xs) → Calls Tryz.prog 86 #[.string S] w fun e w' => e = .returned (.int .i64 0) ∧ Below w.heap.size w w')) (HM : Hid (∀ w, (KX w ∧ Rd w A xs) → Calls Tryz.prog 87 #[.agg #[.int .i64 off, .bool false, .string B]] w fun e w' => e = .returned (.bool false) ∧ Below w.heap.size w w')) (HA : Hid (∀ w, (KX w ∧ Rd w A xs) → Calls Tryz.prog 88 #[.slice A N c, .func (.func 89) #[] #[]] w fun e w' => e = .returned (.bool false) ∧ Below w.heap.size w w')) (HB : Hid (∀ w, (KX w ∧ Rd w A xs) → Calls Tryz.prog 88 #[.slice A N c, .func (.func 90) #[] #[]] w fun e w' => e = .returned (.bool true) ∧ Below w.heap.size w w')) (w : World) (hM : Hid (KX w ∧ Rd w A xs)) :
    Calls Tryz.prog 65 #[.agg #[.string S, .int .i64 off, .bool false, .string B, .slice A N c]] w fun e w' => e = .returned (.int .i64 5) ∧ Below w.heap.size w w' := by
  go_enter Tryz.func65, Tryz.ntmps65
  go_wp2_with fail
  
  refine (HT.out _ (by first | exact rdk_keep hM ((Below.refl w.heap.size w).alloc (Nat.le_refl _) _))).mono ?_
  rintro e V1 ⟨rfl, hb1⟩
  have B1 := nby hb1
  have S1 := Lib.hid (row_call hb1 (heap_alloc_new _ _))
  clear hb1
  obtain ⟨S1_0, S1_1, S1_2, S1_3, S1_4⟩ := qw5 S1
  have zS1 := lt_of_heap S1.out
  go_simp
  go_wp2_with fail
  refine (HN.out _ (by first | exact rdk_keep hM (B1.out) | exact rdk_keep hM ((B1.out).alloc (B1.out.size) _) | exact rdk_keep hM (((B1.out).alloc (B1.out.size) _).alloc (by have := B1.out.size; simp <;> omega) _) | exact rdk_keep hM ((((B1.out).alloc (B1.out.size) _).alloc (by have := B1.out.size; simp <;> omega) _).alloc (by have := B1.out.size; simp <;> omega) _))).mono ?_
  rintro e V2 ⟨rfl, hb2⟩
  clear S1_0 S1_1 S1_2 S1_3 S1_4 zS1
  have B2 : Hid (Below w.heap.size w V2) := nbx B1 hb2
  replace S1 := rcx hb2 S1
  clear hb2
  obtain ⟨S1_0, S1_1, S1_2, S1_3, S1_4⟩ := qw5 S1
  have zS1 := lt_of_heap S1.out
  go_simp
  go_wp2_with fail
  refine (HM.out _ (by first | exact rdk_keep hM (B2.out) | exact rdk_keep hM ((B2.out).alloc (B2.out.size) _) | exact rdk_keep hM (((B2.out).alloc (B2.out.size) _).alloc (by have := B2.out.size; simp <;> omega) _) | exact rdk_keep hM ((((B2.out).alloc (B2.out.size) _).alloc (by have := B2.out.size; simp <;> omega) _).alloc (by have := B2.out.size; simp <;> omega) _))).mono ?_
  rintro e V3 ⟨rfl, hb3⟩
  clear S1_0 S1_1 S1_2 S1_3 S1_4 zS1
  have B3 : Hid (Below w.heap.size w V3) := nbx B2 hb3
  replace S1 := rcx hb3 S1
  clear hb3
  obtain ⟨S1_0, S1_1, S1_2, S1_3, S1_4⟩ := qw5 S1
  have zS1 := lt_of_heap S1.out
  go_simp
  go_wp2_with fail
  refine (HA.out _ (by first | exact rdk_keep hM (B3.out) | exact rdk_keep hM ((B3.out).alloc (B3.out.size) _) | exact rdk_keep hM (((B3.out).alloc (B3.out.size) _).alloc (by have := B3.out.size; simp <;> omega) _) | exact rdk_keep hM ((((B3.out).alloc (B3.out.size) _).alloc (by have := B3.out.size; simp <;> omega) _).alloc (by have := B3.out.size; simp <;> omega) _))).mono ?_
  rintro e V4 ⟨rfl, hb4⟩
  clear S1_0 S1_1 S1_2 S1_3 S1_4 zS1
  have B4 : Hid (Below w.heap.size w V4) := nbx B3 hb4
  replace S1 := rcx hb4 S1
  clear hb4
  obtain ⟨S1_0, S1_1, S1_2, S1_3, S1_4⟩ := qw5 S1
  have zS1 := lt_of_heap S1.out
  go_simp
  go_wp2_with fail
  refine (HB.out _ (by first | exact rdk_keep hM (B4.out) | exact rdk_keep hM ((B4.out).alloc (B4.out.size) _) | exact rdk_keep hM (((B4.out).alloc (B4.out.size) _).alloc (by have := B4.out.size; simp <;> omega) _) | exact rdk_keep hM ((((B4.out).alloc (B4.out.size) _).alloc (by have := B4.out.size; simp <;> omega) _).alloc (by have := B4.out.size; simp <;> omega) _))).mono ?_
  rintro e V5 ⟨rfl, hb5⟩
  clear S1_0 S1_1 S1_2 S1_3 S1_4 zS1
  have B5 : Hid (Below w.heap.size w V5) := nbx B4 hb5
  replace S1 := rcx hb5 S1
  clear hb5
  obtain ⟨S1_0, S1_1, S1_2, S1_3, S1_4⟩ := qw5 S1
  have zS1 := lt_of_heap S1.out
  go_simp
  go_wp2
  go_ret
  exact ⟨rfl, B5.out⟩
set_option maxHeartbeats 1600000 in
set_option maxRecDepth 100000 in
theorem chk_far (S B : ByteArray) (off : Int) (A : Option Addr) (N c : Nat) (xs : List Value) (h16 : decide ((16 : Int) < (N : Int)) = false) (tn : Int) (h4 : decide ((4 : Int) < tn) = false) (HT : Hid (∀ w, (KX w ∧ Rd w A xs) → Calls Tryz.prog 85 #[.slice A N c] w fun e w' => e = .returned (.int .i64 tn) ∧ Below w.heap.size w w')) (HN : Hid (∀ w, (KX w ∧ Rd w A xs) → Calls Tryz.prog 86 #[.string S] w fun e w' => e = .returned (.int .i64 0) ∧ Below w.heap.size w w')) (HM : Hid (∀ w, (KX w ∧ Rd w A xs) → Calls Tryz.prog 87 #[.agg #[.int .i64 off, .bool false, .string B]] w fun e w' => e = .returned (.bool false) ∧ Below w.heap.size w w')) (HA : Hid (∀ w, (KX w ∧ Rd w A xs) → Calls Tryz.prog 88 #[.slice A N c, .func (.func 89) #[] #[]] w fun e w' => e = .returned (.bool false) ∧ Below w.heap.size w w')) (HB : Hid (∀ w, (KX w ∧ Rd w A xs) → Calls Tryz.prog 88 #[.slice A N c, .func (.func 90) #[] #[]] w fun e w' => e = .returned (.bool false) ∧ Below w.heap.size w w')) (HF : Hid (∀ w, (KX w ∧ Rd w A xs) → Calls Tryz.prog 91 #[.agg #[.int .i64 off, .bool false, .string B]] w fun e w' => e = .returned (.bool true) ∧ Below w.heap.size w w')) (w : World) (hM : Hid (KX w ∧ Rd w A xs)) :
    Calls Tryz.prog 65 #[.agg #[.string S, .int .i64 off, .bool false, .string B, .slice A N c]] w fun e w' => e = .returned (.int .i64 8) ∧ Below w.heap.size w w' := by
  go_enter Tryz.func65, Tryz.ntmps65
  go_wp2_with fail
  
  refine (HT.out _ (by first | exact rdk_keep hM ((Below.refl w.heap.size w).alloc (Nat.le_refl _) _))).mono ?_
  rintro e V1 ⟨rfl, hb1⟩
  have B1 := nby hb1
  have S1 := Lib.hid (row_call hb1 (heap_alloc_new _ _))
  clear hb1
  obtain ⟨S1_0, S1_1, S1_2, S1_3, S1_4⟩ := qw5 S1
  have zS1 := lt_of_heap S1.out
  go_simp
  go_wp2_with fail
  refine (HN.out _ (by first | exact rdk_keep hM (B1.out) | exact rdk_keep hM ((B1.out).alloc (B1.out.size) _) | exact rdk_keep hM (((B1.out).alloc (B1.out.size) _).alloc (by have := B1.out.size; simp <;> omega) _) | exact rdk_keep hM ((((B1.out).alloc (B1.out.size) _).alloc (by have := B1.out.size; simp <;> omega) _).alloc (by have := B1.out.size; simp <;> omega) _))).mono ?_
  rintro e V2 ⟨rfl, hb2⟩
  clear S1_0 S1_1 S1_2 S1_3 S1_4 zS1
  have B2 : Hid (Below w.heap.size w V2) := nbx B1 hb2
  replace S1 := rcx hb2 S1
  clear hb2
  obtain ⟨S1_0, S1_1, S1_2, S1_3, S1_4⟩ := qw5 S1
  have zS1 := lt_of_heap S1.out
  go_simp
  go_wp2_with fail
  refine (HM.out _ (by first | exact rdk_keep hM (B2.out) | exact rdk_keep hM ((B2.out).alloc (B2.out.size) _) | exact rdk_keep hM (((B2.out).alloc (B2.out.size) _).alloc (by have := B2.out.size; simp <;> omega) _) | exact rdk_keep hM ((((B2.out).alloc (B2.out.size) _).alloc (by have := B2.out.size; simp <;> omega) _).alloc (by have := B2.out.size; simp <;> omega) _))).mono ?_
  rintro e V3 ⟨rfl, hb3⟩
  clear S1_0 S1_1 S1_2 S1_3 S1_4 zS1
  have B3 : Hid (Below w.heap.size w V3) := nbx B2 hb3
  replace S1 := rcx hb3 S1
  clear hb3
  obtain ⟨S1_0, S1_1, S1_2, S1_3, S1_4⟩ := qw5 S1
  have zS1 := lt_of_heap S1.out
  go_simp
  go_wp2_with fail
  refine (HA.out _ (by first | exact rdk_keep hM (B3.out) | exact rdk_keep hM ((B3.out).alloc (B3.out.size) _) | exact rdk_keep hM (((B3.out).alloc (B3.out.size) _).alloc (by have := B3.out.size; simp <;> omega) _) | exact rdk_keep hM ((((B3.out).alloc (B3.out.size) _).alloc (by have := B3.out.size; simp <;> omega) _).alloc (by have := B3.out.size; simp <;> omega) _))).mono ?_
  rintro e V4 ⟨rfl, hb4⟩
  clear S1_0 S1_1 S1_2 S1_3 S1_4 zS1
  have B4 : Hid (Below w.heap.size w V4) := nbx B3 hb4
  replace S1 := rcx hb4 S1
  clear hb4
  obtain ⟨S1_0, S1_1, S1_2, S1_3, S1_4⟩ := qw5 S1
  have zS1 := lt_of_heap S1.out
  go_simp
  go_wp2_with fail
  refine (HB.out _ (by first | exact rdk_keep hM (B4.out) | exact rdk_keep hM ((B4.out).alloc (B4.out.size) _) | exact rdk_keep hM (((B4.out).alloc (B4.out.size) _).alloc (by have := B4.out.size; simp <;> omega) _) | exact rdk_keep hM ((((B4.out).alloc (B4.out.size) _).alloc (by have := B4.out.size; simp <;> omega) _).alloc (by have := B4.out.size; simp <;> omega) _))).mono ?_
  rintro e V5 ⟨rfl, hb5⟩
  clear S1_0 S1_1 S1_2 S1_3 S1_4 zS1
  have B5 : Hid (Below w.heap.size w V5) := nbx B4 hb5
  replace S1 := rcx hb5 S1
  clear hb5
  obtain ⟨S1_0, S1_1, S1_2, S1_3, S1_4⟩ := qw5 S1
  have zS1 := lt_of_heap S1.out
  go_simp
  go_wp2_with fail
  refine (HF.out _ (by first | exact rdk_keep hM (B5.out) | exact rdk_keep hM ((B5.out).alloc (B5.out.size) _) | exact rdk_keep hM (((B5.out).alloc (B5.out.size) _).alloc (by have := B5.out.size; simp <;> omega) _) | exact rdk_keep hM ((((B5.out).alloc (B5.out.size) _).alloc (by have := B5.out.size; simp <;> omega) _).alloc (by have := B5.out.size; simp <;> omega) _))).mono ?_
  rintro e V6 ⟨rfl, hb6⟩
  clear S1_0 S1_1 S1_2 S1_3 S1_4 zS1
  have B6 : Hid (Below w.heap.size w V6) := nbx B5 hb6
  replace S1 := rcx hb6 S1
  clear hb6
  obtain ⟨S1_0, S1_1, S1_2, S1_3, S1_4⟩ := qw5 S1
  have zS1 := lt_of_heap S1.out
  go_simp
  go_wp2
  go_ret
  exact ⟨rfl, B6.out⟩
set_option maxHeartbeats 1600000 in
set_option maxRecDepth 100000 in
theorem chk_fars (S B : ByteArray) (off : Int) (A : Option Addr) (N c : Nat) (xs : List Value) (h16 : decide ((16 : Int) < (N : Int)) = false) (tn : Int) (h4 : decide ((4 : Int) < tn) = false) (HT : Hid (∀ w, (KX w ∧ Rd w A xs) → Calls Tryz.prog 85 #[.slice A N c] w fun e w' => e = .returned (.int .i64 tn) ∧ Below w.heap.size w w')) (HN : Hid (∀ w, (KX w ∧ Rd w A xs) → Calls Tryz.prog 86 #[.string S] w fun e w' => e = .returned (.int .i64 0) ∧ Below w.heap.size w w')) (HM : Hid (∀ w, (KX w ∧ Rd w A xs) → Calls Tryz.prog 87 #[.agg #[.int .i64 off, .bool false, .string B]] w fun e w' => e = .returned (.bool false) ∧ Below w.heap.size w w')) (HA : Hid (∀ w, (KX w ∧ Rd w A xs) → Calls Tryz.prog 88 #[.slice A N c, .func (.func 89) #[] #[]] w fun e w' => e = .returned (.bool false) ∧ Below w.heap.size w w')) (HB : Hid (∀ w, (KX w ∧ Rd w A xs) → Calls Tryz.prog 88 #[.slice A N c, .func (.func 90) #[] #[]] w fun e w' => e = .returned (.bool false) ∧ Below w.heap.size w w')) (HF : Hid (∀ w, (KX w ∧ Rd w A xs) → Calls Tryz.prog 91 #[.agg #[.int .i64 off, .bool false, .string B]] w fun e w' => e = .returned (.bool false) ∧ Below w.heap.size w w')) (HG : Hid (∀ w, (KX w ∧ Rd w A xs) → Calls Tryz.prog 88 #[.slice A N c, .func (.func 92) #[] #[]] w fun e w' => e = .returned (.bool true) ∧ Below w.heap.size w w')) (w : World) (hM : Hid (KX w ∧ Rd w A xs)) :
    Calls Tryz.prog 65 #[.agg #[.string S, .int .i64 off, .bool false, .string B, .slice A N c]] w fun e w' => e = .returned (.int .i64 8) ∧ Below w.heap.size w w' := by
  go_enter Tryz.func65, Tryz.ntmps65
  go_wp2_with fail
  
  refine (HT.out _ (by first | exact rdk_keep hM ((Below.refl w.heap.size w).alloc (Nat.le_refl _) _))).mono ?_
  rintro e V1 ⟨rfl, hb1⟩
  have B1 := nby hb1
  have S1 := Lib.hid (row_call hb1 (heap_alloc_new _ _))
  clear hb1
  obtain ⟨S1_0, S1_1, S1_2, S1_3, S1_4⟩ := qw5 S1
  have zS1 := lt_of_heap S1.out
  go_simp
  go_wp2_with fail
  refine (HN.out _ (by first | exact rdk_keep hM (B1.out) | exact rdk_keep hM ((B1.out).alloc (B1.out.size) _) | exact rdk_keep hM (((B1.out).alloc (B1.out.size) _).alloc (by have := B1.out.size; simp <;> omega) _) | exact rdk_keep hM ((((B1.out).alloc (B1.out.size) _).alloc (by have := B1.out.size; simp <;> omega) _).alloc (by have := B1.out.size; simp <;> omega) _))).mono ?_
  rintro e V2 ⟨rfl, hb2⟩
  clear S1_0 S1_1 S1_2 S1_3 S1_4 zS1
  have B2 : Hid (Below w.heap.size w V2) := nbx B1 hb2
  replace S1 := rcx hb2 S1
  clear hb2
  obtain ⟨S1_0, S1_1, S1_2, S1_3, S1_4⟩ := qw5 S1
  have zS1 := lt_of_heap S1.out
  go_simp
  go_wp2_with fail
  refine (HM.out _ (by first | exact rdk_keep hM (B2.out) | exact rdk_keep hM ((B2.out).alloc (B2.out.size) _) | exact rdk_keep hM (((B2.out).alloc (B2.out.size) _).alloc (by have := B2.out.size; simp <;> omega) _) | exact rdk_keep hM ((((B2.out).alloc (B2.out.size) _).alloc (by have := B2.out.size; simp <;> omega) _).alloc (by have := B2.out.size; simp <;> omega) _))).mono ?_
  rintro e V3 ⟨rfl, hb3⟩
  clear S1_0 S1_1 S1_2 S1_3 S1_4 zS1
  have B3 : Hid (Below w.heap.size w V3) := nbx B2 hb3
  replace S1 := rcx hb3 S1
  clear hb3
  obtain ⟨S1_0, S1_1, S1_2, S1_3, S1_4⟩ := qw5 S1
  have zS1 := lt_of_heap S1.out
  go_simp
  go_wp2_with fail
  refine (HA.out _ (by first | exact rdk_keep hM (B3.out) | exact rdk_keep hM ((B3.out).alloc (B3.out.size) _) | exact rdk_keep hM (((B3.out).alloc (B3.out.size) _).alloc (by have := B3.out.size; simp <;> omega) _) | exact rdk_keep hM ((((B3.out).alloc (B3.out.size) _).alloc (by have := B3.out.size; simp <;> omega) _).alloc (by have := B3.out.size; simp <;> omega) _))).mono ?_
  rintro e V4 ⟨rfl, hb4⟩
  clear S1_0 S1_1 S1_2 S1_3 S1_4 zS1
  have B4 : Hid (Below w.heap.size w V4) := nbx B3 hb4
  replace S1 := rcx hb4 S1
  clear hb4
  obtain ⟨S1_0, S1_1, S1_2, S1_3, S1_4⟩ := qw5 S1
  have zS1 := lt_of_heap S1.out
  go_simp
  go_wp2_with fail
  refine (HB.out _ (by first | exact rdk_keep hM (B4.out) | exact rdk_keep hM ((B4.out).alloc (B4.out.size) _) | exact rdk_keep hM (((B4.out).alloc (B4.out.size) _).alloc (by have := B4.out.size; simp <;> omega) _) | exact rdk_keep hM ((((B4.out).alloc (B4.out.size) _).alloc (by have := B4.out.size; simp <;> omega) _).alloc (by have := B4.out.size; simp <;> omega) _))).mono ?_
  rintro e V5 ⟨rfl, hb5⟩
  clear S1_0 S1_1 S1_2 S1_3 S1_4 zS1
  have B5 : Hid (Below w.heap.size w V5) := nbx B4 hb5
  replace S1 := rcx hb5 S1
  clear hb5
  obtain ⟨S1_0, S1_1, S1_2, S1_3, S1_4⟩ := qw5 S1
  have zS1 := lt_of_heap S1.out
  go_simp
  go_wp2_with fail
  refine (HF.out _ (by first | exact rdk_keep hM (B5.out) | exact rdk_keep hM ((B5.out).alloc (B5.out.size) _) | exact rdk_keep hM (((B5.out).alloc (B5.out.size) _).alloc (by have := B5.out.size; simp <;> omega) _) | exact rdk_keep hM ((((B5.out).alloc (B5.out.size) _).alloc (by have := B5.out.size; simp <;> omega) _).alloc (by have := B5.out.size; simp <;> omega) _))).mono ?_
  rintro e V6 ⟨rfl, hb6⟩
  clear S1_0 S1_1 S1_2 S1_3 S1_4 zS1
  have B6 : Hid (Below w.heap.size w V6) := nbx B5 hb6
  replace S1 := rcx hb6 S1
  clear hb6
  obtain ⟨S1_0, S1_1, S1_2, S1_3, S1_4⟩ := qw5 S1
  have zS1 := lt_of_heap S1.out
  go_simp
  go_wp2_with fail
  refine (HG.out _ (by first | exact rdk_keep hM (B6.out) | exact rdk_keep hM ((B6.out).alloc (B6.out.size) _) | exact rdk_keep hM (((B6.out).alloc (B6.out.size) _).alloc (by have := B6.out.size; simp <;> omega) _) | exact rdk_keep hM ((((B6.out).alloc (B6.out.size) _).alloc (by have := B6.out.size; simp <;> omega) _).alloc (by have := B6.out.size; simp <;> omega) _))).mono ?_
  rintro e V7 ⟨rfl, hb7⟩
  clear S1_0 S1_1 S1_2 S1_3 S1_4 zS1
  have B7 : Hid (Below w.heap.size w V7) := nbx B6 hb7
  replace S1 := rcx hb7 S1
  clear hb7
  obtain ⟨S1_0, S1_1, S1_2, S1_3, S1_4⟩ := qw5 S1
  have zS1 := lt_of_heap S1.out
  go_simp
  go_wp2
  go_ret
  exact ⟨rfl, B7.out⟩
set_option maxHeartbeats 1600000 in
set_option maxRecDepth 100000 in
theorem chk_ok (S B : ByteArray) (off : Int) (A : Option Addr) (N c : Nat) (xs : List Value) (h16 : decide ((16 : Int) < (N : Int)) = false) (tn : Int) (h4 : decide ((4 : Int) < tn) = false) (HT : Hid (∀ w, (KX w ∧ Rd w A xs) → Calls Tryz.prog 85 #[.slice A N c] w fun e w' => e = .returned (.int .i64 tn) ∧ Below w.heap.size w w')) (HN : Hid (∀ w, (KX w ∧ Rd w A xs) → Calls Tryz.prog 86 #[.string S] w fun e w' => e = .returned (.int .i64 0) ∧ Below w.heap.size w w')) (HM : Hid (∀ w, (KX w ∧ Rd w A xs) → Calls Tryz.prog 87 #[.agg #[.int .i64 off, .bool false, .string B]] w fun e w' => e = .returned (.bool false) ∧ Below w.heap.size w w')) (HA : Hid (∀ w, (KX w ∧ Rd w A xs) → Calls Tryz.prog 88 #[.slice A N c, .func (.func 89) #[] #[]] w fun e w' => e = .returned (.bool false) ∧ Below w.heap.size w w')) (HB : Hid (∀ w, (KX w ∧ Rd w A xs) → Calls Tryz.prog 88 #[.slice A N c, .func (.func 90) #[] #[]] w fun e w' => e = .returned (.bool false) ∧ Below w.heap.size w w')) (HF : Hid (∀ w, (KX w ∧ Rd w A xs) → Calls Tryz.prog 91 #[.agg #[.int .i64 off, .bool false, .string B]] w fun e w' => e = .returned (.bool false) ∧ Below w.heap.size w w')) (HG : Hid (∀ w, (KX w ∧ Rd w A xs) → Calls Tryz.prog 88 #[.slice A N c, .func (.func 92) #[] #[]] w fun e w' => e = .returned (.bool false) ∧ Below w.heap.size w w')) (w : World) (hM : Hid (KX w ∧ Rd w A xs)) :
    Calls Tryz.prog 65 #[.agg #[.string S, .int .i64 off, .bool false, .string B, .slice A N c]] w fun e w' => e = .returned (.int .i64 0) ∧ Below w.heap.size w w' := by
  go_enter Tryz.func65, Tryz.ntmps65
  go_wp2_with fail
  
  refine (HT.out _ (by first | exact rdk_keep hM ((Below.refl w.heap.size w).alloc (Nat.le_refl _) _))).mono ?_
  rintro e V1 ⟨rfl, hb1⟩
  have B1 := nby hb1
  have S1 := Lib.hid (row_call hb1 (heap_alloc_new _ _))
  clear hb1
  obtain ⟨S1_0, S1_1, S1_2, S1_3, S1_4⟩ := qw5 S1
  have zS1 := lt_of_heap S1.out
  go_simp
  go_wp2_with fail
  refine (HN.out _ (by first | exact rdk_keep hM (B1.out) | exact rdk_keep hM ((B1.out).alloc (B1.out.size) _) | exact rdk_keep hM (((B1.out).alloc (B1.out.size) _).alloc (by have := B1.out.size; simp <;> omega) _) | exact rdk_keep hM ((((B1.out).alloc (B1.out.size) _).alloc (by have := B1.out.size; simp <;> omega) _).alloc (by have := B1.out.size; simp <;> omega) _))).mono ?_
  rintro e V2 ⟨rfl, hb2⟩
  clear S1_0 S1_1 S1_2 S1_3 S1_4 zS1
  have B2 : Hid (Below w.heap.size w V2) := nbx B1 hb2
  replace S1 := rcx hb2 S1
  clear hb2
  obtain ⟨S1_0, S1_1, S1_2, S1_3, S1_4⟩ := qw5 S1
  have zS1 := lt_of_heap S1.out
  go_simp
  go_wp2_with fail
  refine (HM.out _ (by first | exact rdk_keep hM (B2.out) | exact rdk_keep hM ((B2.out).alloc (B2.out.size) _) | exact rdk_keep hM (((B2.out).alloc (B2.out.size) _).alloc (by have := B2.out.size; simp <;> omega) _) | exact rdk_keep hM ((((B2.out).alloc (B2.out.size) _).alloc (by have := B2.out.size; simp <;> omega) _).alloc (by have := B2.out.size; simp <;> omega) _))).mono ?_
  rintro e V3 ⟨rfl, hb3⟩
  clear S1_0 S1_1 S1_2 S1_3 S1_4 zS1
  have B3 : Hid (Below w.heap.size w V3) := nbx B2 hb3
  replace S1 := rcx hb3 S1
  clear hb3
  obtain ⟨S1_0, S1_1, S1_2, S1_3, S1_4⟩ := qw5 S1
  have zS1 := lt_of_heap S1.out
  go_simp
  go_wp2_with fail
  refine (HA.out _ (by first | exact rdk_keep hM (B3.out) | exact rdk_keep hM ((B3.out).alloc (B3.out.size) _) | exact rdk_keep hM (((B3.out).alloc (B3.out.size) _).alloc (by have := B3.out.size; simp <;> omega) _) | exact rdk_keep hM ((((B3.out).alloc (B3.out.size) _).alloc (by have := B3.out.size; simp <;> omega) _).alloc (by have := B3.out.size; simp <;> omega) _))).mono ?_
  rintro e V4 ⟨rfl, hb4⟩
  clear S1_0 S1_1 S1_2 S1_3 S1_4 zS1
  have B4 : Hid (Below w.heap.size w V4) := nbx B3 hb4
  replace S1 := rcx hb4 S1
  clear hb4
  obtain ⟨S1_0, S1_1, S1_2, S1_3, S1_4⟩ := qw5 S1
  have zS1 := lt_of_heap S1.out
  go_simp
  go_wp2_with fail
  refine (HB.out _ (by first | exact rdk_keep hM (B4.out) | exact rdk_keep hM ((B4.out).alloc (B4.out.size) _) | exact rdk_keep hM (((B4.out).alloc (B4.out.size) _).alloc (by have := B4.out.size; simp <;> omega) _) | exact rdk_keep hM ((((B4.out).alloc (B4.out.size) _).alloc (by have := B4.out.size; simp <;> omega) _).alloc (by have := B4.out.size; simp <;> omega) _))).mono ?_
  rintro e V5 ⟨rfl, hb5⟩
  clear S1_0 S1_1 S1_2 S1_3 S1_4 zS1
  have B5 : Hid (Below w.heap.size w V5) := nbx B4 hb5
  replace S1 := rcx hb5 S1
  clear hb5
  obtain ⟨S1_0, S1_1, S1_2, S1_3, S1_4⟩ := qw5 S1
  have zS1 := lt_of_heap S1.out
  go_simp
  go_wp2_with fail
  refine (HF.out _ (by first | exact rdk_keep hM (B5.out) | exact rdk_keep hM ((B5.out).alloc (B5.out.size) _) | exact rdk_keep hM (((B5.out).alloc (B5.out.size) _).alloc (by have := B5.out.size; simp <;> omega) _) | exact rdk_keep hM ((((B5.out).alloc (B5.out.size) _).alloc (by have := B5.out.size; simp <;> omega) _).alloc (by have := B5.out.size; simp <;> omega) _))).mono ?_
  rintro e V6 ⟨rfl, hb6⟩
  clear S1_0 S1_1 S1_2 S1_3 S1_4 zS1
  have B6 : Hid (Below w.heap.size w V6) := nbx B5 hb6
  replace S1 := rcx hb6 S1
  clear hb6
  obtain ⟨S1_0, S1_1, S1_2, S1_3, S1_4⟩ := qw5 S1
  have zS1 := lt_of_heap S1.out
  go_simp
  go_wp2_with fail
  refine (HG.out _ (by first | exact rdk_keep hM (B6.out) | exact rdk_keep hM ((B6.out).alloc (B6.out.size) _) | exact rdk_keep hM (((B6.out).alloc (B6.out.size) _).alloc (by have := B6.out.size; simp <;> omega) _) | exact rdk_keep hM ((((B6.out).alloc (B6.out.size) _).alloc (by have := B6.out.size; simp <;> omega) _).alloc (by have := B6.out.size; simp <;> omega) _))).mono ?_
  rintro e V7 ⟨rfl, hb7⟩
  clear S1_0 S1_1 S1_2 S1_3 S1_4 zS1
  have B7 : Hid (Below w.heap.size w V7) := nbx B6 hb7
  replace S1 := rcx hb7 S1
  clear hb7
  obtain ⟨S1_0, S1_1, S1_2, S1_3, S1_4⟩ := qw5 S1
  have zS1 := lt_of_heap S1.out
  go_simp
  go_wp2
  go_ret
  exact ⟨rfl, B7.out⟩
set_option maxHeartbeats 1600000 in
set_option maxRecDepth 100000 in
theorem pRuCheck_any (z : Src) (A : Option Addr) (c : Nat) (w : World) (hK : KX w) (h : Rd w A (linVs z.lns)) (hz : SB z) : Calls Tryz.prog 65 #[srcV z A c] w fun e w' => e = .returned (.int .i64 (ckU z)) ∧ Below w.heap.size w w' := by
  have hM : Hid (KX w ∧ Rd w A (linVs z.lns)) := Lib.hid ⟨hK, h⟩
  unfold srcV
  by_cases h16 : 16 < z.lns.length
  · have E : ckU z = 1 := if_pos (Or.inl h16)
    rw [E]
    exact chk_big _ _ _ _ A _ c _ (decide_eq_true (by omega)) w hM
  have q16 : decide ((16 : Int) < (z.lns.length : Int)) = false := decide_eq_false (by omega)
  have HT : Hid (∀ w, (KX w ∧ Rd w A (linVs z.lns)) → Calls Tryz.prog 85 #[.slice A z.lns.length c] w fun e w' => e = .returned (.int .i64 (tailP z.lns : Int)) ∧ Below w.heap.size w w') := Lib.hid (fun w h => pTails_any z.lns A c w (by omega) h.2)
  by_cases h4 : 4 < tailP z.lns
  · have E : ckU z = 1 := if_pos (Or.inr h4)
    rw [E]
    exact chk_tails _ _ _ _ A _ c _ q16 _ (decide_eq_true (by omega)) HT w hM
  have q4 : decide ((4 : Int) < (tailP z.lns : Int)) = false := decide_eq_false (by omega)
  have HN : Hid (∀ w, (KX w ∧ Rd w A (linVs z.lns)) → Calls Tryz.prog 86 #[.string (bs z.nam)] w fun e w' => e = .returned (.int .i64 (namE z.nam)) ∧ Below w.heap.size w w') := Lib.hid (fun w _ => pName_all z.nam hz.nam w)
  by_cases hn : namE z.nam ≠ 0
  · have E : ckU z = 2 := by unfold ckU; rw [if_neg (by omega), if_pos (Or.inl hn)]
    rw [E]
    exact chk_name _ _ _ _ A _ c _ q16 _ q4 _ (bne_iff_ne.2 hn) HT HN w hM
  have hn0 := Classical.not_not.1 hn
  rw [hn0] at HN
  have HM : Hid (∀ w, (KX w ∧ Rd w A (linVs z.lns)) → Calls Tryz.prog 87 #[.agg #[.int .i64 z.off, .bool z.dst, .string (bs z.abb)]] w fun e w' => e = .returned (.bool (badAb z.abb)) ∧ Below w.heap.size w w') := Lib.hid (fun w _ => pMisspelt_any z.off z.dst z.abb hz.abb w)
  by_cases hm : (badAb z.abb) = true
  · have E : ckU z = 2 := by unfold ckU; rw [if_neg (by omega), if_pos (Or.inr (Or.inl hm))]
    rw [hm] at HM
    rw [E]
    exact chk_base _ _ _ _ A _ c _ q16 _ q4 HT HN HM w hM
  replace hm := Bool.eq_false_iff.2 hm
  rw [hm] at HM
  have HA : Hid (∀ w, (KX w ∧ Rd w A (linVs z.lns)) → Calls Tryz.prog 88 #[.slice A z.lns.length c, .func (.func 89) #[] #[]] w fun e w' => e = .returned (.bool (z.lns.any fun l => badAb l.abb)) ∧ Below w.heap.size w w') := Lib.hid (fun w h => pContains_ms (fun l => badAb l.abb) z.lns (fun l hl w _ => pMisspeltLine_any l (hz.each l hl) w) hz.lns A c w h.1 h.2)
  by_cases ha : ((z.lns.any fun l => badAb l.abb)) = true
  · have E : ckU z = 2 := by unfold ckU; rw [if_neg (by omega), if_pos (Or.inr (Or.inr ha))]
    rw [ha] at HA
    rw [E]
    exact chk_abbs _ _ _ _ A _ c _ q16 _ q4 HT HN HM HA w hM
  replace ha := Bool.eq_false_iff.2 ha
  rw [ha] at HA
  have n2 : ¬ (namE z.nam ≠ 0 ∨ badAb z.abb = true ∨ (z.lns.any fun l => badAb l.abb) = true) := by
    rintro (e | e | e)
    · exact hn e
    · rw [hm] at e; cases e
    · rw [ha] at e; cases e
  by_cases hd : (z.dst) = true
  · have E : ckU z = 5 := by unfold ckU; rw [if_neg (by omega), if_neg n2, if_pos (Or.inl hd)]
    rw [hd] at HM ⊢
    rw [E]
    exact chk_dst _ _ _ A _ c _ q16 _ q4 HT HN HM HA w hM
  replace hd := Bool.eq_false_iff.2 hd
  rw [hd] at HM ⊢
  have HB : Hid (∀ w, (KX w ∧ Rd w A (linVs z.lns)) → Calls Tryz.prog 88 #[.slice A z.lns.length c, .func (.func 90) #[] #[]] w fun e w' => e = .returned (.bool (z.lns.any notB)) ∧ Below w.heap.size w w') := Lib.hid (fun w h => pContains_mn notB z.lns (fun l hl w hK => pMayNot_any l (hz.dn l hl).1 (hz.dn l hl).2 w hK) hz.lns A c w h.1 h.2)
  by_cases hb : (z.lns.any notB) = true
  · have E : ckU z = 5 := by unfold ckU; rw [if_neg (by omega), if_neg n2, if_pos (Or.inr hb)]
    rw [hb] at HB
    rw [E]
    exact chk_may _ _ _ A _ c _ q16 _ q4 HT HN HM HA HB w hM
  replace hb := Bool.eq_false_iff.2 hb
  rw [hb] at HB
  have n5 : ¬ (z.dst = true ∨ z.lns.any notB = true) := by
    rintro (e | e)
    · rw [hd] at e; cases e
    · rw [hb] at e; cases e
  have HF : Hid (∀ w, (KX w ∧ Rd w A (linVs z.lns)) → Calls Tryz.prog 91 #[.agg #[.int .i64 z.off, .bool false, .string (bs z.abb)]] w fun e w' => e = .returned (.bool (!inI z.off (-64800) 64800)) ∧ Below w.heap.size w w') := Lib.hid (fun w _ => pFar_any z.off false (bs z.abb) w)
  by_cases hf : ((!inI z.off (-64800) 64800)) = true
  · have E : ckU z = 8 := by unfold ckU; rw [if_neg (by omega), if_neg n2, if_neg n5, if_pos (Or.inl hf)]
    rw [hf] at HF
    rw [E]
    exact chk_far _ _ _ A _ c _ q16 _ q4 HT HN HM HA HB HF w hM
  replace hf := Bool.eq_false_iff.2 hf
  rw [hf] at HF
  have HG : Hid (∀ w, (KX w ∧ Rd w A (linVs z.lns)) → Calls Tryz.prog 88 #[.slice A z.lns.length c, .func (.func 92) #[] #[]] w fun e w' => e = .returned (.bool (z.lns.any farB)) ∧ Below w.heap.size w w') := Lib.hid (fun w h => pContains_fl farB z.lns (fun l hl w hK => pFarLine_any l w) hz.lns A c w h.1 h.2)
  by_cases hg : (z.lns.any farB) = true
  · have E : ckU z = 8 := by unfold ckU; rw [if_neg (by omega), if_neg n2, if_neg n5, if_pos (Or.inr hg)]
    rw [hg] at HG
    rw [E]
    exact chk_fars _ _ _ A _ c _ q16 _ q4 HT HN HM HA HB HF HG w hM
  replace hg := Bool.eq_false_iff.2 hg
  rw [hg] at HG
  have E : ckU z = 0 := by
    unfold ckU
    rw [if_neg (by omega), if_neg n2, if_neg n5, if_neg]
    rintro (e | e)
    · rw [hf] at e; cases e
    · rw [hg] at e; cases e
  rw [E]
  exact chk_ok _ _ _ A _ c _ q16 _ q4 HT HN HM HA HB HF HG w hM
end Go.Proofs.YtafecnlaodgmkaaGreatDoor
