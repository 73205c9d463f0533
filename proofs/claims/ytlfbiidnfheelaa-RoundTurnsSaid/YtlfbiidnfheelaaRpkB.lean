/- Contracts of package round: the modes, what lies within, the high bits. -/
import Derived.Test.YtlfbiidnfheelaaRpkA
import Derived.StillTailTactics
namespace Go.Proofs.Ytlfbiidnfheelaa
set_option linter.unusedVariables false
set_option linter.unusedSimpArgs false
open Go.ChangeShapes Go.WideShapes Go.ChangeAt Go.RowKit

/-- is it a mode? -/
@[irreducible] def knB (m : Int) : Bool := decide (0 ≤ m) && decide (m ≤ 8)
theorem knB_yes {m : Int} (h : knB m = true) : 0 ≤ m ∧ m ≤ 8 := by
  unfold knB at h; rw [Bool.and_eq_true, decide_eq_true_eq, decide_eq_true_eq] at h; exact h
theorem knB_of {m : Int} (h : 0 ≤ m ∧ m ≤ 8) : knB m = true := by unfold knB; rw [decide_eq_true h.1, decide_eq_true h.2]; rfl
theorem knB_not {m : Int} (h : ¬ (0 ≤ m ∧ m ≤ 8)) : knB m = false := by
  cases hk : knB m
  · rfl
  · exact absurd (knB_yes hk) h
set_option maxHeartbeats 1600000 in
set_option maxRecDepth 100000 in
theorem known_any (m : Int) (w : World) : Calls Try.prog 20 #[.int .i64 m] w fun e w' => e = .returned (.bool (knB m)) ∧ Below w.heap.size w w' := by
  by_cases h1 : 0 ≤ m
  · have hd1 : decide (0 ≤ m) = true := decide_eq_true h1
    by_cases h2 : m ≤ 8
    · have hd2 : decide (m ≤ 8) = true := decide_eq_true h2
      have E := Lib.hid (knB_of ⟨h1, h2⟩)
      clear h1 h2
      go_enter Try.func20, Try.ntmps20
      go_wp2
      go_ret
      exact ⟨by rw [E.out]; try rfl, Below.refl _ _⟩
    · have hd2 : decide (m ≤ 8) = false := decide_eq_false h2
      have E := Lib.hid (knB_not (m := m) (fun h => h2 h.2))
      clear h1 h2
      go_enter Try.func20, Try.ntmps20
      go_wp2
      go_ret
      exact ⟨by rw [E.out]; try rfl, Below.refl _ _⟩
  · have hd1 : decide (0 ≤ m) = false := decide_eq_false h1
    have E := Lib.hid (knB_not (m := m) (fun h => h1 h.1))
    clear h1
    go_enter Try.func20, Try.ntmps20
    go_wp2
    go_ret
    exact ⟨by rw [E.out]; try rfl, Below.refl _ _⟩
set_option maxHeartbeats 1600000 in
set_option maxRecDepth 100000 in
theorem away_0 (b o : Bool) (l : Int) (w : World) : Calls Try.prog 46 #[.int .i64 0, .bool b, .bool o, .int .i64 l] w fun e w' => e = .returned (.bool (awB 0 b o l)) ∧ Below w.heap.size w w' := by
  have E := Lib.hid (show awB 0 b o l = awB 0 b o 0 by unfold awB; simp)
  rw [E.out]
  clear E
  cases b <;> cases o
  all_goals
    go_enter Try.func46, Try.ntmps46
    go_wp2
    go_ret
    exact ⟨by unfold awB; rfl, Below.refl _ _⟩
set_option maxHeartbeats 1600000 in
set_option maxRecDepth 100000 in
theorem away_1 (b o : Bool) (l : Int) (w : World) : Calls Try.prog 46 #[.int .i64 1, .bool b, .bool o, .int .i64 l] w fun e w' => e = .returned (.bool (awB 1 b o l)) ∧ Below w.heap.size w w' := by
  have E := Lib.hid (show awB 1 b o l = awB 1 b o 0 by unfold awB; simp)
  rw [E.out]
  clear E
  cases b <;> cases o
  all_goals
    go_enter Try.func46, Try.ntmps46
    go_wp2
    go_ret
    exact ⟨by unfold awB; rfl, Below.refl _ _⟩
set_option maxHeartbeats 1600000 in
set_option maxRecDepth 100000 in
theorem away_2 (b o : Bool) (l : Int) (w : World) : Calls Try.prog 46 #[.int .i64 2, .bool b, .bool o, .int .i64 l] w fun e w' => e = .returned (.bool (awB 2 b o l)) ∧ Below w.heap.size w w' := by
  have E := Lib.hid (show awB 2 b o l = awB 2 b o 0 by unfold awB; simp)
  rw [E.out]
  clear E
  cases b <;> cases o
  all_goals
    go_enter Try.func46, Try.ntmps46
    go_wp2
    go_ret
    exact ⟨by unfold awB; rfl, Below.refl _ _⟩
set_option maxHeartbeats 1600000 in
set_option maxRecDepth 100000 in
theorem away_3 (b o : Bool) (l : Int) (w : World) : Calls Try.prog 46 #[.int .i64 3, .bool b, .bool o, .int .i64 l] w fun e w' => e = .returned (.bool (awB 3 b o l)) ∧ Below w.heap.size w w' := by
  have E := Lib.hid (show awB 3 b o l = awB 3 b o 0 by unfold awB; simp)
  rw [E.out]
  clear E
  cases b <;> cases o
  all_goals
    go_enter Try.func46, Try.ntmps46
    go_wp2
    go_ret
    exact ⟨by unfold awB; rfl, Below.refl _ _⟩
set_option maxHeartbeats 1600000 in
set_option maxRecDepth 100000 in
theorem away_4 (b o : Bool) (l : Int) (h : l = -1 ∨ l = 0 ∨ l = 1) (w : World) : Calls Try.prog 46 #[.int .i64 4, .bool b, .bool o, .int .i64 l] w fun e w' => e = .returned (.bool (awB 4 b o l)) ∧ Below w.heap.size w w' := by
  rcases h with rfl | rfl | rfl <;> cases b <;> cases o
  all_goals
    go_enter Try.func46, Try.ntmps46
    go_wp2
    go_ret
    exact ⟨by unfold awB; rfl, Below.refl _ _⟩
set_option maxHeartbeats 1600000 in
set_option maxRecDepth 100000 in
theorem away_5 (b o : Bool) (l : Int) (h : l = -1 ∨ l = 0 ∨ l = 1) (w : World) : Calls Try.prog 46 #[.int .i64 5, .bool b, .bool o, .int .i64 l] w fun e w' => e = .returned (.bool (awB 5 b o l)) ∧ Below w.heap.size w w' := by
  rcases h with rfl | rfl | rfl <;> cases b <;> cases o
  all_goals
    go_enter Try.func46, Try.ntmps46
    go_wp2
    go_ret
    exact ⟨by unfold awB; rfl, Below.refl _ _⟩
set_option maxHeartbeats 1600000 in
set_option maxRecDepth 100000 in
theorem away_6 (b o : Bool) (l : Int) (h : l = -1 ∨ l = 0 ∨ l = 1) (w : World) : Calls Try.prog 46 #[.int .i64 6, .bool b, .bool o, .int .i64 l] w fun e w' => e = .returned (.bool (awB 6 b o l)) ∧ Below w.heap.size w w' := by
  rcases h with rfl | rfl | rfl <;> cases b <;> cases o
  all_goals
    go_enter Try.func46, Try.ntmps46
    go_wp2
    go_ret
    exact ⟨by unfold awB; rfl, Below.refl _ _⟩
set_option maxHeartbeats 1600000 in
set_option maxRecDepth 100000 in
theorem away_7 (b o : Bool) (l : Int) (h : l = -1 ∨ l = 0 ∨ l = 1) (w : World) : Calls Try.prog 46 #[.int .i64 7, .bool b, .bool o, .int .i64 l] w fun e w' => e = .returned (.bool (awB 7 b o l)) ∧ Below w.heap.size w w' := by
  rcases h with rfl | rfl | rfl <;> cases b <;> cases o
  all_goals
    go_enter Try.func46, Try.ntmps46
    go_wp2
    go_ret
    exact ⟨by unfold awB; rfl, Below.refl _ _⟩
set_option maxHeartbeats 1600000 in
set_option maxRecDepth 100000 in
theorem away_8 (b o : Bool) (l : Int) (h : l = -1 ∨ l = 0 ∨ l = 1) (w : World) : Calls Try.prog 46 #[.int .i64 8, .bool b, .bool o, .int .i64 l] w fun e w' => e = .returned (.bool (awB 8 b o l)) ∧ Below w.heap.size w w' := by
  rcases h with rfl | rfl | rfl <;> cases b <;> cases o
  all_goals
    go_enter Try.func46, Try.ntmps46
    go_wp2
    go_ret
    exact ⟨by unfold awB; rfl, Below.refl _ _⟩
theorem away_any (m : Int) (b o : Bool) (x y : Nat) (h0 : 0 ≤ m) (h8 : m ≤ 8) (w : World) : Calls Try.prog 46 #[.int .i64 m, .bool b, .bool o, .int .i64 (cmpI x y)] w fun e w' => e = .returned (.bool (awB m b o (cmpI x y))) ∧ Below w.heap.size w w' := by
  have hm : m = 0 ∨ m = 1 ∨ m = 2 ∨ m = 3 ∨ m = 4 ∨ m = 5 ∨ m = 6 ∨ m = 7 ∨ m = 8 := by omega
  have hc := cmpI_three x y
  rcases hm with rfl | rfl | rfl | rfl | rfl | rfl | rfl | rfl | rfl
  · exact away_0 b o _ w
  · exact away_1 b o _ w
  · exact away_2 b o _ w
  · exact away_3 b o _ w
  · exact away_4 b o _ hc w
  · exact away_5 b o _ hc w
  · exact away_6 b o _ hc w
  · exact away_7 b o _ hc w
  · exact away_8 b o _ hc w
theorem cmpZ_le {x y : Int} : cmpZ x y ≤ 0 ↔ x ≤ y := by
  unfold cmpZ
  repeat' split
  all_goals omega
theorem cmpZ_lt {x y : Int} : cmpZ x y < 0 ↔ x < y := by
  unfold cmpZ
  repeat' split
  all_goals omega
/-- does it lie within? -/
@[irreducible] def inB (x a b : Int) : Bool := decide (a ≤ x) && decide (x ≤ b)
theorem inB_yes {x a b : Int} (h : inB x a b = true) : a ≤ x ∧ x ≤ b := by
  unfold inB at h; rw [Bool.and_eq_true, decide_eq_true_eq, decide_eq_true_eq] at h; exact h
theorem inB_of {x a b : Int} (h : a ≤ x ∧ x ≤ b) : inB x a b = true := by unfold inB; rw [decide_eq_true h.1, decide_eq_true h.2]; rfl
theorem inB_not {x a b : Int} (h : ¬ (a ≤ x ∧ x ≤ b)) : inB x a b = false := by
  cases hk : inB x a b
  · rfl
  · exact absurd (inB_yes hk) h
set_option maxHeartbeats 3200000 in
set_option maxRecDepth 100000 in
theorem within_any (x a b : Int) (bx : in128 x) (ba : in128 a) (bb : in128 b) (w : World) :
    Calls Try.prog 17 #[.agg #[.int .u64 (zh x), .int .u64 (zl x)], .agg #[.int .u64 (zh a), .int .u64 (zl a)], .agg #[.int .u64 (zh b), .int .u64 (zl b)]] w fun e w' => e = .returned (.bool (inB x a b)) ∧ Below w.heap.size w w' := by
  have H1 := Lib.hid (zSigned_any a x ba bx)
  have H2 := Lib.hid (zSigned_any x b bx bb)
  have L1 := @cmpZ_le a x
  have L2 := @cmpZ_le x b
  by_cases h1 : a ≤ x
  · have g1 : decide (cmpZ a x ≤ 0) = true := decide_eq_true (L1.mpr h1)
    by_cases h2 : x ≤ b
    · have g2 : decide (cmpZ x b ≤ 0) = true := decide_eq_true (L2.mpr h2)
      have E := Lib.hid (inB_of ⟨h1, h2⟩)
      clear L1 L2 h1 h2 bx ba bb
      generalize cmpZ a x = c1 at *
      generalize cmpZ x b = c2 at *
      go_enter Try.func17, Try.ntmps17
      go_wp2_with fail
      
      refine (H1.out _).mono ?_
      rintro e V1 ⟨rfl, hb1⟩
      have B1 := Lib.hid (((((Below.refl w.heap.size w).alloc (Nat.le_refl _) _).alloc (by simp <;> omega) _).alloc (by simp <;> omega) _).trans (hb1.mono (by first | assumption | (simp <;> omega) | (simp; done))))
      have X1 := Lib.hid (row_call hb1 (row_alloc (row_alloc (heap_alloc_new _ _) _) _))
      have A1 := Lib.hid (row_at (k' := w.heap.size + 1) (by simp) (row_call hb1 (row_alloc (heap_alloc_new _ _) _)))
      have C1 := Lib.hid (row_at (k' := w.heap.size + 1 + 1) (by simp) (row_call hb1 (heap_alloc_new _ _)))
      clear hb1
      have X1_0 : V1.cell? ⟨w.heap.size, 0, none⟩ = some (.int .u64 (zh x)) := cell_of_row _ _ _ _ _ _ X1.out
      have X1_1 : V1.cell? ⟨w.heap.size, 1, none⟩ = some (.int .u64 (zl x)) := cell_of_row _ _ _ _ _ _ X1.out
      have A1_0 : V1.cell? ⟨w.heap.size + 1, 0, none⟩ = some (.int .u64 (zh a)) := cell_of_row _ _ _ _ _ _ A1.out
      have A1_1 : V1.cell? ⟨w.heap.size + 1, 1, none⟩ = some (.int .u64 (zl a)) := cell_of_row _ _ _ _ _ _ A1.out
      have C1_0 : V1.cell? ⟨w.heap.size + 1 + 1, 0, none⟩ = some (.int .u64 (zh b)) := cell_of_row _ _ _ _ _ _ C1.out
      have C1_1 : V1.cell? ⟨w.heap.size + 1 + 1, 1, none⟩ = some (.int .u64 (zl b)) := cell_of_row _ _ _ _ _ _ C1.out
      have zX1 := lt_of_heap X1.out
      have zA1 := lt_of_heap A1.out
      have zC1 := lt_of_heap C1.out
      go_simp
      go_wp2_with fail
      refine (H2.out _).mono ?_
      rintro e V2 ⟨rfl, hb2⟩
      clear X1_0 X1_1 zX1 A1_0 A1_1 zA1 C1_0 C1_1 zC1
      have B2 : Hid (Below w.heap.size w V2) := by first | exact Lib.hid ((B1.out).trans (hb2.mono (by have := B1.out.size; first | assumption | (simp <;> omega) | (simp; done)))) | exact Lib.hid (((B1.out).alloc (B1.out.size) _).trans (hb2.mono (by have := B1.out.size; first | assumption | (simp <;> omega) | (simp; done)))) | exact Lib.hid ((((B1.out).alloc (B1.out.size) _).alloc (by have := B1.out.size; simp <;> omega) _).trans (hb2.mono (by have := B1.out.size; first | assumption | (simp <;> omega) | (simp; done)))) | exact Lib.hid (((((B1.out).alloc (B1.out.size) _).alloc (by have := B1.out.size; simp <;> omega) _).alloc (by have := B1.out.size; simp <;> omega) _).trans (hb2.mono (by have := B1.out.size; first | assumption | (simp <;> omega) | (simp; done))))
      first | replace X1 := Lib.hid (row_call hb2 X1.out) | replace X1 := Lib.hid (row_call hb2 (row_alloc X1.out _)) | replace X1 := Lib.hid (row_call hb2 (row_alloc (row_alloc X1.out _) _)) | replace X1 := Lib.hid (row_call hb2 (row_alloc (row_alloc (row_alloc X1.out _) _) _))
      first | replace A1 := Lib.hid (row_call hb2 A1.out) | replace A1 := Lib.hid (row_call hb2 (row_alloc A1.out _)) | replace A1 := Lib.hid (row_call hb2 (row_alloc (row_alloc A1.out _) _)) | replace A1 := Lib.hid (row_call hb2 (row_alloc (row_alloc (row_alloc A1.out _) _) _))
      first | replace C1 := Lib.hid (row_call hb2 C1.out) | replace C1 := Lib.hid (row_call hb2 (row_alloc C1.out _)) | replace C1 := Lib.hid (row_call hb2 (row_alloc (row_alloc C1.out _) _)) | replace C1 := Lib.hid (row_call hb2 (row_alloc (row_alloc (row_alloc C1.out _) _) _))
      clear hb2
      have X1_0 : V2.cell? ⟨w.heap.size, 0, none⟩ = some (.int .u64 (zh x)) := cell_of_row _ _ _ _ _ _ X1.out
      have X1_1 : V2.cell? ⟨w.heap.size, 1, none⟩ = some (.int .u64 (zl x)) := cell_of_row _ _ _ _ _ _ X1.out
      have A1_0 : V2.cell? ⟨w.heap.size + 1, 0, none⟩ = some (.int .u64 (zh a)) := cell_of_row _ _ _ _ _ _ A1.out
      have A1_1 : V2.cell? ⟨w.heap.size + 1, 1, none⟩ = some (.int .u64 (zl a)) := cell_of_row _ _ _ _ _ _ A1.out
      have C1_0 : V2.cell? ⟨w.heap.size + 1 + 1, 0, none⟩ = some (.int .u64 (zh b)) := cell_of_row _ _ _ _ _ _ C1.out
      have C1_1 : V2.cell? ⟨w.heap.size + 1 + 1, 1, none⟩ = some (.int .u64 (zl b)) := cell_of_row _ _ _ _ _ _ C1.out
      have zX1 := lt_of_heap X1.out
      have zA1 := lt_of_heap A1.out
      have zC1 := lt_of_heap C1.out
      go_simp
      go_wp2
      go_ret
      exact ⟨by rw [E.out]; try rfl, B2.out⟩
    · have g2 : decide (cmpZ x b ≤ 0) = false := decide_eq_false (fun h => h2 (L2.mp h))
      have E := Lib.hid (inB_not (x := x) (a := a) (fun h => h2 h.2))
      clear L1 L2 h1 h2 bx ba bb
      generalize cmpZ a x = c1 at *
      generalize cmpZ x b = c2 at *
      go_enter Try.func17, Try.ntmps17
      go_wp2_with fail
      
      refine (H1.out _).mono ?_
      rintro e V1 ⟨rfl, hb1⟩
      have B1 := Lib.hid (((((Below.refl w.heap.size w).alloc (Nat.le_refl _) _).alloc (by simp <;> omega) _).alloc (by simp <;> omega) _).trans (hb1.mono (by first | assumption | (simp <;> omega) | (simp; done))))
      have X1 := Lib.hid (row_call hb1 (row_alloc (row_alloc (heap_alloc_new _ _) _) _))
      have A1 := Lib.hid (row_at (k' := w.heap.size + 1) (by simp) (row_call hb1 (row_alloc (heap_alloc_new _ _) _)))
      have C1 := Lib.hid (row_at (k' := w.heap.size + 1 + 1) (by simp) (row_call hb1 (heap_alloc_new _ _)))
      clear hb1
      have X1_0 : V1.cell? ⟨w.heap.size, 0, none⟩ = some (.int .u64 (zh x)) := cell_of_row _ _ _ _ _ _ X1.out
      have X1_1 : V1.cell? ⟨w.heap.size, 1, none⟩ = some (.int .u64 (zl x)) := cell_of_row _ _ _ _ _ _ X1.out
      have A1_0 : V1.cell? ⟨w.heap.size + 1, 0, none⟩ = some (.int .u64 (zh a)) := cell_of_row _ _ _ _ _ _ A1.out
      have A1_1 : V1.cell? ⟨w.heap.size + 1, 1, none⟩ = some (.int .u64 (zl a)) := cell_of_row _ _ _ _ _ _ A1.out
      have C1_0 : V1.cell? ⟨w.heap.size + 1 + 1, 0, none⟩ = some (.int .u64 (zh b)) := cell_of_row _ _ _ _ _ _ C1.out
      have C1_1 : V1.cell? ⟨w.heap.size + 1 + 1, 1, none⟩ = some (.int .u64 (zl b)) := cell_of_row _ _ _ _ _ _ C1.out
      have zX1 := lt_of_heap X1.out
      have zA1 := lt_of_heap A1.out
      have zC1 := lt_of_heap C1.out
      go_simp
      go_wp2_with fail
      refine (H2.out _).mono ?_
      rintro e V2 ⟨rfl, hb2⟩
      clear X1_0 X1_1 zX1 A1_0 A1_1 zA1 C1_0 C1_1 zC1
      have B2 : Hid (Below w.heap.size w V2) := by first | exact Lib.hid ((B1.out).trans (hb2.mono (by have := B1.out.size; first | assumption | (simp <;> omega) | (simp; done)))) | exact Lib.hid (((B1.out).alloc (B1.out.size) _).trans (hb2.mono (by have := B1.out.size; first | assumption | (simp <;> omega) | (simp; done)))) | exact Lib.hid ((((B1.out).alloc (B1.out.size) _).alloc (by have := B1.out.size; simp <;> omega) _).trans (hb2.mono (by have := B1.out.size; first | assumption | (simp <;> omega) | (simp; done)))) | exact Lib.hid (((((B1.out).alloc (B1.out.size) _).alloc (by have := B1.out.size; simp <;> omega) _).alloc (by have := B1.out.size; simp <;> omega) _).trans (hb2.mono (by have := B1.out.size; first | assumption | (simp <;> omega) | (simp; done))))
      first | replace X1 := Lib.hid (row_call hb2 X1.out) | replace X1 := Lib.hid (row_call hb2 (row_alloc X1.out _)) | replace X1 := Lib.hid (row_call hb2 (row_alloc (row_alloc X1.out _) _)) | replace X1 := Lib.hid (row_call hb2 (row_alloc (row_alloc (row_alloc X1.out _) _) _))
      first | replace A1 := Lib.hid (row_call hb2 A1.out) | replace A1 := Lib.hid (row_call hb2 (row_alloc A1.out _)) | replace A1 := Lib.hid (row_call hb2 (row_alloc (row_alloc A1.out _) _)) | replace A1 := Lib.hid (row_call hb2 (row_alloc (row_alloc (row_alloc A1.out _) _) _))
      first | replace C1 := Lib.hid (row_call hb2 C1.out) | replace C1 := Lib.hid (row_call hb2 (row_alloc C1.out _)) | replace C1 := Lib.hid (row_call hb2 (row_alloc (row_alloc C1.out _) _)) | replace C1 := Lib.hid (row_call hb2 (row_alloc (row_alloc (row_alloc C1.out _) _) _))
      clear hb2
      have X1_0 : V2.cell? ⟨w.heap.size, 0, none⟩ = some (.int .u64 (zh x)) := cell_of_row _ _ _ _ _ _ X1.out
      have X1_1 : V2.cell? ⟨w.heap.size, 1, none⟩ = some (.int .u64 (zl x)) := cell_of_row _ _ _ _ _ _ X1.out
      have A1_0 : V2.cell? ⟨w.heap.size + 1, 0, none⟩ = some (.int .u64 (zh a)) := cell_of_row _ _ _ _ _ _ A1.out
      have A1_1 : V2.cell? ⟨w.heap.size + 1, 1, none⟩ = some (.int .u64 (zl a)) := cell_of_row _ _ _ _ _ _ A1.out
      have C1_0 : V2.cell? ⟨w.heap.size + 1 + 1, 0, none⟩ = some (.int .u64 (zh b)) := cell_of_row _ _ _ _ _ _ C1.out
      have C1_1 : V2.cell? ⟨w.heap.size + 1 + 1, 1, none⟩ = some (.int .u64 (zl b)) := cell_of_row _ _ _ _ _ _ C1.out
      have zX1 := lt_of_heap X1.out
      have zA1 := lt_of_heap A1.out
      have zC1 := lt_of_heap C1.out
      go_simp
      go_wp2
      go_ret
      exact ⟨by rw [E.out]; try rfl, B2.out⟩
  · have g1 : decide (cmpZ a x ≤ 0) = false := decide_eq_false (fun h => h1 (L1.mp h))
    have E := Lib.hid (inB_not (x := x) (b := b) (fun h => h1 h.1))
    clear L1 L2 h1 bx ba bb
    generalize cmpZ a x = c1 at *
    go_enter Try.func17, Try.ntmps17
    go_wp2_with fail
    
    refine (H1.out _).mono ?_
    rintro e V1 ⟨rfl, hb1⟩
    have B1 := Lib.hid (((((Below.refl w.heap.size w).alloc (Nat.le_refl _) _).alloc (by simp <;> omega) _).alloc (by simp <;> omega) _).trans (hb1.mono (by first | assumption | (simp <;> omega) | (simp; done))))
    have X1 := Lib.hid (row_call hb1 (row_alloc (row_alloc (heap_alloc_new _ _) _) _))
    have A1 := Lib.hid (row_at (k' := w.heap.size + 1) (by simp) (row_call hb1 (row_alloc (heap_alloc_new _ _) _)))
    have C1 := Lib.hid (row_at (k' := w.heap.size + 1 + 1) (by simp) (row_call hb1 (heap_alloc_new _ _)))
    clear hb1
    have X1_0 : V1.cell? ⟨w.heap.size, 0, none⟩ = some (.int .u64 (zh x)) := cell_of_row _ _ _ _ _ _ X1.out
    have X1_1 : V1.cell? ⟨w.heap.size, 1, none⟩ = some (.int .u64 (zl x)) := cell_of_row _ _ _ _ _ _ X1.out
    have A1_0 : V1.cell? ⟨w.heap.size + 1, 0, none⟩ = some (.int .u64 (zh a)) := cell_of_row _ _ _ _ _ _ A1.out
    have A1_1 : V1.cell? ⟨w.heap.size + 1, 1, none⟩ = some (.int .u64 (zl a)) := cell_of_row _ _ _ _ _ _ A1.out
    have C1_0 : V1.cell? ⟨w.heap.size + 1 + 1, 0, none⟩ = some (.int .u64 (zh b)) := cell_of_row _ _ _ _ _ _ C1.out
    have C1_1 : V1.cell? ⟨w.heap.size + 1 + 1, 1, none⟩ = some (.int .u64 (zl b)) := cell_of_row _ _ _ _ _ _ C1.out
    have zX1 := lt_of_heap X1.out
    have zA1 := lt_of_heap A1.out
    have zC1 := lt_of_heap C1.out
    go_simp
    go_wp2
    go_ret
    exact ⟨by rw [E.out]; try rfl, B1.out⟩
set_option maxHeartbeats 3200000 in
set_option maxRecDepth 100000 in
theorem high_raw (h l c : Nat) (hh : U h) (hl : U l) (h1 : 1 ≤ c) (h2 : c ≤ 63) (w : World) :
    Calls Try.prog 68 #[.agg #[.int .u64 h, .int .u64 l], .int .i64 c] w fun e w' => e = .returned (.agg #[.int .u64 ((h / 2 ^ c : Nat) : Int), .int .u64 ((((h * 2 ^ (64 - c)) % 18446744073709551616) ||| (l / 2 ^ c) : Nat) : Int)]) ∧ Below w.heap.size w w' := by
  obtain ⟨r, Er⟩ : ∃ r, Hid (r = h / 2 ^ c) := ⟨_, rfl⟩
  have f1 : ((h : Int) / 2 ^ c) = (r : Int) := by rw [Er.out, Int.natCast_ediv, Int.natCast_pow]; rfl
  obtain ⟨d, Ed⟩ : ∃ d, Hid (d = 64 - c) := ⟨_, rfl⟩
  have f2 : IntKind.i64.wrap (64 - (c : Int)) = (d : Int) := by rw [IntKind.wrap_i64, Ed.out]; omega
  obtain ⟨a, Ea⟩ : ∃ a, Hid (a = h * 2 ^ (64 - c) % 18446744073709551616) := ⟨_, rfl⟩
  have f3 : IntKind.u64.wrap ((h : Int) * 2 ^ d) = (a : Int) := by
    have e : ((h : Int) * 2 ^ d) = ((h * 2 ^ d : Nat) : Int) := by rw [Int.natCast_mul, Int.natCast_pow]; rfl
    rw [e, IntKind.wrap_u64, Ea.out, Ed.out]; rfl
  obtain ⟨s, Es⟩ : ∃ s, Hid (s = l / 2 ^ c) := ⟨_, rfl⟩
  have f4 : ((l : Int) / 2 ^ c) = (s : Int) := by rw [Es.out, Int.natCast_ediv, Int.natCast_pow]; rfl
  obtain ⟨o, Eo⟩ : ∃ o, Hid (o = a ||| s) := ⟨_, rfl⟩
  have f5 : bits .or .u64 (a : Int) (s : Int) = (o : Int) := by
    rw [Eo.out]
    exact u64_or_nat _ _ (by rw [Ea.out]; exact Nat.mod_lt _ (by omega)) (by rw [Es.out]; exact Nat.lt_of_le_of_lt (Nat.div_le_self _ _) hl)
  have fm : min c 64 = c := Nat.min_eq_left (by omega)
  have fm2 : min d 64 = d := Nat.min_eq_left (by have := Ed.out; omega)
  have n1 : ¬ (c : Int) < 0 := by omega
  have n2 : ¬ (d : Int) < 0 := by omega
  have t1 : ((c : Int)).toNat = c := Int.toNat_natCast c
  have t2 : ((d : Int)).toNat = d := Int.toNat_natCast d
  rw [← Er.out, ← Ea.out, ← Es.out, ← Eo.out]
  clear hh hl h1 h2
  go_enter Try.func68, Try.ntmps68
  refine wp_shut ?_
  go_wp2_with fail
  
  obtain ⟨W0, hW0⟩ : ∃ W0, W0 = ((w.alloc (Obj.cells #[Value.int .u64 h, Value.int .u64 l] 24)).alloc (Obj.cells #[Value.int .u64 0, Value.int .u64 0] 24)) := ⟨_, rfl⟩
  have A1 := Lib.hid (row_at (k' := w.heap.size) (by simp) (row_by hW0 (row_alloc (heap_alloc_new _ _) _)))
  have Z1 := Lib.hid (row_at (k' := w.heap.size + 1) (by simp) (row_by hW0 (heap_alloc_new _ _)))
  have HB0 := Lib.hid (below_by hW0 (((Below.refl w.heap.size w).alloc (by simp <;> omega) _).alloc (by simp <;> omega) _))
  have HW0 := Lib.hid hW0
  clear hW0
  have A1_0 : W0.cell? ⟨w.heap.size, 0, none⟩ = some (.int .u64 h) := cell_of_row _ _ _ _ _ _ A1.out
  have A1_1 : W0.cell? ⟨w.heap.size, 1, none⟩ = some (.int .u64 l) := cell_of_row _ _ _ _ _ _ A1.out
  have zA1 := lt_of_heap A1.out
  have Z1_0 : W0.cell? ⟨w.heap.size + 1, 0, none⟩ = some (.int .u64 0) := cell_of_row _ _ _ _ _ _ Z1.out
  have Z1_1 : W0.cell? ⟨w.heap.size + 1, 1, none⟩ = some (.int .u64 0) := cell_of_row _ _ _ _ _ _ Z1.out
  have Z1_f0 : W0.frozen? ⟨w.heap.size + 1, 0, none⟩ = false := (by simp [World.frozen?, Z1.out])
  have Z1_f1 : W0.frozen? ⟨w.heap.size + 1, 1, none⟩ = false := (by simp [World.frozen?, Z1.out])
  have zZ1 := lt_of_heap Z1.out
  try rw [← HW0.out]
  refine wp_region_still_tail 15 (by kernel_rfl) (by kernel_rfl) ?_
  simp only [List.take_succ_cons, List.take_zero, List.drop_succ_cons, List.drop_zero]
  obtain ⟨V1, hV⟩ : ∃ V, V = W0.drew := ⟨_, rfl⟩
  rw [show ({ heap := W0.heap, tape := W0.tape, drawn := W0.drawn + 1, os := W0.os, output := W0.output } : World) = V1 from hV.symm]
  clear A1_0 A1_1 zA1 Z1_0 Z1_1 Z1_f0 Z1_f1 zZ1
  replace A1 := Lib.hid (row_by hV (show W0.drew.heap[_]? = _ from A1.out))
  replace Z1 := Lib.hid (row_by hV (show W0.drew.heap[_]? = _ from Z1.out))
  have B1 := Lib.hid (below_by hV HB0.out.drew)
  have HV := Lib.hid hV
  clear hV
  have A1_0 : V1.cell? ⟨w.heap.size, 0, none⟩ = some (.int .u64 h) := cell_of_row _ _ _ _ _ _ A1.out
  have A1_1 : V1.cell? ⟨w.heap.size, 1, none⟩ = some (.int .u64 l) := cell_of_row _ _ _ _ _ _ A1.out
  have zA1 := lt_of_heap A1.out
  have Z1_0 : V1.cell? ⟨w.heap.size + 1, 0, none⟩ = some (.int .u64 0) := cell_of_row _ _ _ _ _ _ Z1.out
  have Z1_f0 : V1.frozen? ⟨w.heap.size + 1, 0, none⟩ = false := (by simp [World.frozen?, Z1.out])
  have Z1_1 : V1.cell? ⟨w.heap.size + 1, 1, none⟩ = some (.int .u64 0) := cell_of_row _ _ _ _ _ _ Z1.out
  have Z1_f1 : V1.frozen? ⟨w.heap.size + 1, 1, none⟩ = false := (by simp [World.frozen?, Z1.out])
  have zZ1 := lt_of_heap Z1.out
  repeat still_step
  try refine wpStill_nil ?_
  go_wp2
  refine shut_ret (v := .agg #[.int .u64 r, .int .u64 o]) (by simp [results, Try.results68, go_sem, zZ1, Z1_0, Z1_1]) rfl ⟨rfl, ?_⟩
  exact keep2 B1.out (by omega) _ _
theorem high_any (A c : Nat) (h1 : 1 ≤ c) (h2 : c ≤ 63) (hA : A < 340282366920938463463374607431768211456) (w : World) :
    Calls Try.prog 68 #[.agg #[.int .u64 (zh (A : Int)), .int .u64 (zl (A : Int))], .int .i64 c] w fun e w' => e = .returned (.agg #[.int .u64 (zh ((A / 2 ^ c : Nat) : Int)), .int .u64 (zl ((A / 2 ^ c : Nat) : Int))]) ∧ Below w.heap.size w w' := by
  obtain ⟨e1, e2⟩ := high_parts A c h1 h2 hA
  rw [e1, e2]
  exact high_raw _ _ c (zh_U _) (zl_U _) h1 h2 w
end Go.Proofs.Ytlfbiidnfheelaa
