/- The walk of layer 5's examples. -/
import Derived.Test.YtlfbiidnfheelaaRpkB
import Derived.Test.YtlfbiidnfheelaaEqlW
import Derived.Test.YtlfbiidnfheelaaLotP
import Derived.Deep.DrawnRows
namespace Go.Proofs.Ytlfbiidnfheelaa
set_option linter.unusedVariables false
set_option linter.unusedSimpArgs false
open Go.ChangeShapes Go.WideShapes Go.ChangeAt Go.RowKit

/-- what -15 is, rounded to 10 by each mode. -/
def wantI (m : Nat) : Int := if m = 0 ∨ m = 3 ∨ m = 4 ∨ m = 5 ∨ m = 7 then -20 else -10
def wantC : Array Value := #[.int .i64 (-20), .int .i64 (-10), .int .i64 (-10), .int .i64 (-20), .int .i64 (-20), .int .i64 (-20), .int .i64 (-10), .int .i64 (-20), .int .i64 (-10)]
theorem want_at (m : Nat) (h : m < 9) : wantC[m]? = some (.int .i64 (wantI m)) := by
  have hm : m = 0 ∨ m = 1 ∨ m = 2 ∨ m = 3 ∨ m = 4 ∨ m = 5 ∨ m = 6 ∨ m = 7 ∨ m = 8 := by omega
  rcases hm with rfl | rfl | rfl | rfl | rfl | rfl | rfl | rfl | rfl <;> rfl
set_option maxHeartbeats 3200000 in
set_option maxRecDepth 100000 in
theorem awake5_of (xh xl : Nat) (w : World)
    (HO : Hid (∀ w, Calls Try.prog 29 #[.int .i64 (-15)] w fun e w' => e = .returned (.agg #[.int .u64 xh, .int .u64 xl]) ∧ Below w.heap.size w w'))
    (HW : Hid (∀ m : Nat, m < 9 → ∀ w, Calls Try.prog 8 #[.agg #[.int .u64 xh, .int .u64 xl], .agg #[.int .u64 0, .int .u64 10], .int .i64 m] w fun e w' => e = .returned (.tuple #[.agg #[.int .u64 (zh (wantI m)), .int .u64 (zl (wantI m))], .int .i64 0]) ∧ Below w.heap.size w w'))
    (HQ : Hid (∀ m : Nat, ∀ w, Calls Try.prog 29 #[.int .i64 (wantI m)] w fun e w' => e = .returned (.agg #[.int .u64 (zh (wantI m)), .int .u64 (zl (wantI m))]) ∧ Below w.heap.size w w'))
    (HI : Hid (∀ w, Calls Try.prog 11 #[.agg #[.int .i64 (-1), .int .i64 999999999], .agg #[.int .i64 1, .int .i64 0], .int .i64 1] w fun e w' => e = .returned (.tuple #[.agg #[.int .i64 0, .int .i64 0], .int .i64 0]) ∧ Below w.heap.size w w'))
    (HD : Hid (∀ w, Calls Try.prog 13 #[.agg #[.int .i64 0, .int .i64 0], .agg #[.int .i64 0, .int .i64 0], .int .i64 0] w fun e w' => e = .returned (.tuple #[.agg #[.int .i64 0, .int .i64 0], .int .i64 5]) ∧ Below w.heap.size w w')) :
    Calls Try.prog 10 #[] w fun e w' => e = .returned (.bool true) ∧ Below w.heap.size w w' := by
  go_enter Try.func10, Try.ntmps10
  go_wp2_with fail
  have HR0 : Hid ((w.alloc (.cells wantC 3)).heap[w.heap.size]? = some (.cells wantC 3 (0, 0))) := Lib.hid (heap_alloc_new _ _)
  go_loopw [2] (fun s2 wr => ∃ m : Nat, m ≤ 9 ∧ s2 = .int .i64 m ∧ wr.heap[w.heap.size]? = some (.cells wantC 3 (0, 0)) ∧ Below w.heap.size w wr) (fun s2 _ => (9 - intOf s2).toNat)
  case atStart => exact ⟨0, by omega, rfl, HR0.out, (Below.refl _ _).alloc (Nat.le_refl _) _⟩
  case round =>
    obtain ⟨m, hm, rfl, hS, hB⟩ := hrel
    obtain ⟨V20, rfl⟩ : ∃ V, V = wr := ⟨_, rfl⟩
    have S1 := Lib.hid hS
    have B20 := Lib.hid hB
    clear hS hB HR0
    have zS1 := lt_of_heap S1.out
    by_cases h9 : m < 9
    · have c1 : ((m : Int) < 9) := by omega
      have H2 := Lib.hid (HW.out m h9)
      have H3 := Lib.hid (HQ.out m)
      have e1 := want_at m h9
      generalize zh (wantI m) = rh at *
      generalize zl (wantI m) = rl at *
      generalize wantI m = W at *
      
      have S1_0 : V20.cell? ⟨w.heap.size, m, none⟩ = some (.int .i64 W) := (cell_of_row _ _ _ _ _ _ S1.out).trans e1
      have zS1 := lt_of_heap S1.out
      go_wp2_with fail
      refine (HO.out _).mono ?_
      rintro e V21 ⟨rfl, hb21⟩
      clear S1_0 zS1
      have B21 : Hid (Below w.heap.size w V21) := by first | exact Lib.hid ((B20.out).trans (hb21.mono (by have := B20.out.size; first | assumption | (simp <;> omega) | (simp; done)))) | exact Lib.hid (((B20.out).alloc (B20.out.size) _).trans (hb21.mono (by have := B20.out.size; first | assumption | (simp <;> omega) | (simp; done)))) | exact Lib.hid ((((B20.out).alloc (B20.out.size) _).alloc (by have := B20.out.size; simp <;> omega) _).trans (hb21.mono (by have := B20.out.size; first | assumption | (simp <;> omega) | (simp; done)))) | exact Lib.hid (((((B20.out).alloc (B20.out.size) _).alloc (by have := B20.out.size; simp <;> omega) _).alloc (by have := B20.out.size; simp <;> omega) _).trans (hb21.mono (by have := B20.out.size; first | assumption | (simp <;> omega) | (simp; done))))
      first | replace S1 := Lib.hid (row_call hb21 S1.out) | replace S1 := Lib.hid (row_call hb21 (row_alloc S1.out _)) | replace S1 := Lib.hid (row_call hb21 (row_alloc (row_alloc S1.out _) _)) | replace S1 := Lib.hid (row_call hb21 (row_alloc (row_alloc (row_alloc S1.out _) _) _))
      clear hb21
      have S1_0 : V21.cell? ⟨w.heap.size, m, none⟩ = some (.int .i64 W) := (cell_of_row _ _ _ _ _ _ S1.out).trans e1
      have zS1 := lt_of_heap S1.out
      go_simp
      go_wp2_with fail
      refine (H2.out _).mono ?_
      rintro e V22 ⟨rfl, hb22⟩
      clear S1_0 zS1
      have B22 : Hid (Below w.heap.size w V22) := by first | exact Lib.hid ((B21.out).trans (hb22.mono (by have := B21.out.size; first | assumption | (simp <;> omega) | (simp; done)))) | exact Lib.hid (((B21.out).alloc (B21.out.size) _).trans (hb22.mono (by have := B21.out.size; first | assumption | (simp <;> omega) | (simp; done)))) | exact Lib.hid ((((B21.out).alloc (B21.out.size) _).alloc (by have := B21.out.size; simp <;> omega) _).trans (hb22.mono (by have := B21.out.size; first | assumption | (simp <;> omega) | (simp; done)))) | exact Lib.hid (((((B21.out).alloc (B21.out.size) _).alloc (by have := B21.out.size; simp <;> omega) _).alloc (by have := B21.out.size; simp <;> omega) _).trans (hb22.mono (by have := B21.out.size; first | assumption | (simp <;> omega) | (simp; done))))
      first | replace S1 := Lib.hid (row_call hb22 S1.out) | replace S1 := Lib.hid (row_call hb22 (row_alloc S1.out _)) | replace S1 := Lib.hid (row_call hb22 (row_alloc (row_alloc S1.out _) _)) | replace S1 := Lib.hid (row_call hb22 (row_alloc (row_alloc (row_alloc S1.out _) _) _))
      clear hb22
      have S1_0 : V22.cell? ⟨w.heap.size, m, none⟩ = some (.int .i64 W) := (cell_of_row _ _ _ _ _ _ S1.out).trans e1
      have zS1 := lt_of_heap S1.out
      go_simp
      go_wp2_with fail
      obtain ⟨W0, hW0⟩ : ∃ W0, W0 = (V22.alloc (Obj.cells #[Value.int .u64 rh, Value.int .u64 rl] 24)) := ⟨_, rfl⟩
      replace S1 := Lib.hid (row_by hW0 (row_alloc S1.out _))
      have A1 := Lib.hid (row_at (k' := V22.heap.size) (by simp) (row_by hW0 (heap_alloc_new _ _)))
      clear S1_0 zS1
      have S1_0 : W0.cell? ⟨w.heap.size, m, none⟩ = some (.int .i64 W) := (cell_of_row _ _ _ _ _ _ S1.out).trans e1
      have zS1 := lt_of_heap S1.out
      have A1_0 : W0.cell? ⟨V22.heap.size, 0, none⟩ = some (.int .u64 rh) := cell_of_row _ _ _ _ _ _ A1.out
      have A1_1 : W0.cell? ⟨V22.heap.size, 1, none⟩ = some (.int .u64 rl) := cell_of_row _ _ _ _ _ _ A1.out
      have zA1 := lt_of_heap A1.out
      have HB0 := Lib.hid (below_by hW0 ((B22.out).alloc (B22.out.size) _))
      have zW0 := HB0.out.size
      have HW0 := Lib.hid hW0
      clear hW0
      try go_simp
      rw [← HW0.out]
      have hk0 : ∀ w2, Below W0.heap.size W0 w2 → w2.cell? ⟨w.heap.size, m, none⟩ = some (.int .i64 W) := fun w2 hb => (by rw [hb.cell (p := ⟨w.heap.size, m, none⟩) (by assumption)]; assumption)
      have hk1 : ∀ w2, Below W0.heap.size W0 w2 → w2.cell? ⟨V22.heap.size, 0, none⟩ = some (.int .u64 rh) := fun w2 hb => (by rw [hb.cell (p := ⟨V22.heap.size, 0, none⟩) (by assumption)]; assumption)
      have hk2 : ∀ w2, Below W0.heap.size W0 w2 → w2.cell? ⟨V22.heap.size, 1, none⟩ = some (.int .u64 rl) := fun w2 hb => (by rw [hb.cell (p := ⟨V22.heap.size, 1, none⟩) (by assumption)]; assumption)
      clear S1_0 A1_0 A1_1
      refine region_plan (S := fun w2 => Below W0.heap.size W0 w2) [(0, true), (1, true), (2, true), (3, true), (4, true), (5, false), (6, true), (7, true), (8, true), (9, true), (10, true)] (by as_aux_lemma => kernel_rfl) (by as_aux_lemma => kernel_rfl) (by as_aux_lemma => kernel_rfl) (by as_aux_lemma => kernel_rfl) (Below.refl W0.heap.size W0).drew ?_
      have Y0 := Lib.hid (Below.refl W0.heap.size W0).drew
      refine plan_yes (v := ?v1) (by simp only [List.getElem?_toArray, List.getElem?_cons_zero, List.getElem?_cons_succ]; exact rfl) (Or.inl ⟨by as_aux_lemma => rfl, ?hy1⟩) ?rest1
      case hy1 => (intro w2 hSw; (try dsimp only at hSw); go_simp; try with_reducible rfl)
      try simp only [Act.put, List.setIfInBounds_toArray, List.set_cons_zero, List.set_cons_succ]
      refine plan_yes (v := ?v2) (by simp only [List.getElem?_toArray, List.getElem?_cons_zero, List.getElem?_cons_succ]; exact rfl) (Or.inl ⟨by as_aux_lemma => rfl, ?hy2⟩) ?rest2
      case hy2 => (intro w2 hSw; (try dsimp only at hSw); go_simp; try with_reducible rfl)
      try simp only [Act.put, List.setIfInBounds_toArray, List.set_cons_zero, List.set_cons_succ]
      refine plan_yes (v := ?v3) (by simp only [List.getElem?_toArray, List.getElem?_cons_zero, List.getElem?_cons_succ]; exact rfl) (Or.inl ⟨by as_aux_lemma => rfl, ?hy3⟩) ?rest3
      case hy3 => (intro w2 hSw; (try dsimp only at hSw); go_simp; try with_reducible rfl)
      try simp only [Act.put, List.setIfInBounds_toArray, List.set_cons_zero, List.set_cons_succ]
      refine plan_yes (v := ?v4) (by simp only [List.getElem?_toArray, List.getElem?_cons_zero, List.getElem?_cons_succ]; exact rfl) (Or.inl ⟨by as_aux_lemma => rfl, ?hy4⟩) ?rest4
      case hy4 => (intro w2 hSw; (try dsimp only at hSw); go_simp; try with_reducible rfl)
      try simp only [Act.put, List.setIfInBounds_toArray, List.set_cons_zero, List.set_cons_succ]
      refine plan_yes (v := ?v5) (by simp only [List.getElem?_toArray, List.getElem?_cons_zero, List.getElem?_cons_succ]; exact rfl) (Or.inl ⟨by as_aux_lemma => rfl, ?hy5⟩) ?rest5
      case hy5 => (intro w2 hSw; (try dsimp only at hSw); go_simp; try with_reducible rfl)
      try simp only [Act.put, List.setIfInBounds_toArray, List.set_cons_zero, List.set_cons_succ]
      refine plan_calls (by simp only [List.getElem?_toArray, List.getElem?_cons_zero, List.getElem?_cons_succ]; exact rfl) (by as_aux_lemma => rfl) (fun K hK => ?_)
      go_simp
      refine (H3.out _).mono ?_
      rintro e Y1w ⟨rfl, hb1⟩
      have Y1 := Lib.hid (keepS (W0 := W0) Y0.out hb1)
      clear hb1
      refine hK.out _ _ Y1.out ?_
      clear hK K
      try simp only [Act.put, List.setIfInBounds_toArray, List.set_cons_zero, List.set_cons_succ]
      as_aux_lemma =>
       refine plan_yes (v := .bool false) (by simp only [List.getElem?_toArray, List.getElem?_cons_zero, List.getElem?_cons_succ]; exact rfl) (Or.inl ⟨by as_aux_lemma => rfl, ?hy6⟩) ?rest6
       case hy6 => (intro w2 hSw; first | (apply neq_wide; rfl; rfl; rfl) | (apply neq_inst; rfl; rfl; rfl) | (apply neq_dur; rfl; rfl; rfl))
       try simp only [Act.put, List.setIfInBounds_toArray, List.set_cons_zero, List.set_cons_succ]
       refine plan_yes (v := ?v7) (by simp only [List.getElem?_toArray, List.getElem?_cons_zero, List.getElem?_cons_succ]; exact rfl) (Or.inl ⟨by as_aux_lemma => rfl, ?hy7⟩) ?rest7
       case hy7 => (intro w2 hSw; (try dsimp only at hSw); go_simp; try with_reducible rfl)
       try simp only [Act.put, List.setIfInBounds_toArray, List.set_cons_zero, List.set_cons_succ]
       refine plan_yes (v := ?v8) (by simp only [List.getElem?_toArray, List.getElem?_cons_zero, List.getElem?_cons_succ]; exact rfl) (Or.inl ⟨by as_aux_lemma => rfl, ?hy8⟩) ?rest8
       case hy8 => (intro w2 hSw; (try dsimp only at hSw); go_simp; try with_reducible rfl)
       try simp only [Act.put, List.setIfInBounds_toArray, List.set_cons_zero, List.set_cons_succ]
       refine plan_yes (v := ?v9) (by simp only [List.getElem?_toArray, List.getElem?_cons_zero, List.getElem?_cons_succ]; exact rfl) (Or.inl ⟨by as_aux_lemma => rfl, ?hy9⟩) ?rest9
       case hy9 => (intro w2 hSw; (try dsimp only at hSw); go_simp; try with_reducible rfl)
       try simp only [Act.put, List.setIfInBounds_toArray, List.set_cons_zero, List.set_cons_succ]
       refine plan_yes (v := ?v10) (by simp only [List.getElem?_toArray, List.getElem?_cons_zero, List.getElem?_cons_succ]; exact rfl) (Or.inl ⟨by as_aux_lemma => rfl, ?hy10⟩) ?rest10
       case hy10 => (intro w2 hSw; (try dsimp only at hSw); go_simp; try with_reducible rfl)
       try simp only [Act.put, List.setIfInBounds_toArray, List.set_cons_zero, List.set_cons_succ]
       refine plan_done (NoPanic.normal ?_)
       have B0 := Y1.out
       have BW := Lib.hid (HB0.out.trans (B0.mono zW0))
       replace S1 := Lib.hid (row_call B0 S1.out)
       replace A1 := Lib.hid (row_call B0 A1.out)
       have B23 := BW
       clear BW B0 hk0 hk1 hk2 zS1 zA1 Y0 Y1
       obtain ⟨V23, rfl⟩ : ∃ V, V = Y1w := ⟨_, rfl⟩
       have S1_0 : V23.cell? ⟨w.heap.size, m, none⟩ = some (.int .i64 W) := (cell_of_row _ _ _ _ _ _ S1.out).trans e1
       have zS1 := lt_of_heap S1.out
       have A1_0 : V23.cell? ⟨V22.heap.size, 0, none⟩ = some (.int .u64 rh) := cell_of_row _ _ _ _ _ _ A1.out
       have A1_1 : V23.cell? ⟨V22.heap.size, 1, none⟩ = some (.int .u64 rl) := cell_of_row _ _ _ _ _ _ A1.out
       have zA1 := lt_of_heap A1.out
       go_simp
       go_wp2
       exact ⟨⟨m + 1, by omega, by rw [show ((m + 1 : Nat) : Int) = (m : Int) + 1 by omega], S1.out, B23.out⟩, by simp [intOf]; omega⟩
    · obtain rfl : m = 9 := by omega
      
      go_wp2_with fail
      refine (HI.out _).mono ?_
      rintro e V21 ⟨rfl, hb21⟩
      have B21 : Hid (Below w.heap.size w V21) := by first | exact Lib.hid ((B20.out).trans (hb21.mono (by have := B20.out.size; first | assumption | (simp <;> omega) | (simp; done)))) | exact Lib.hid (((B20.out).alloc (B20.out.size) _).trans (hb21.mono (by have := B20.out.size; first | assumption | (simp <;> omega) | (simp; done)))) | exact Lib.hid ((((B20.out).alloc (B20.out.size) _).alloc (by have := B20.out.size; simp <;> omega) _).trans (hb21.mono (by have := B20.out.size; first | assumption | (simp <;> omega) | (simp; done)))) | exact Lib.hid (((((B20.out).alloc (B20.out.size) _).alloc (by have := B20.out.size; simp <;> omega) _).alloc (by have := B20.out.size; simp <;> omega) _).trans (hb21.mono (by have := B20.out.size; first | assumption | (simp <;> omega) | (simp; done))))
      clear hb21
      go_simp
      go_wp2_with fail
      refine (HD.out _).mono ?_
      rintro e V22 ⟨rfl, hb22⟩
      have B22 := Lib.hid (((B21.out).alloc (B21.out.size) _).trans (hb22.mono (by have := B21.out.size; first | assumption | (simp <;> omega) | (simp; done))))
      have I1 := Lib.hid (row_call hb22 (heap_alloc_new _ _))
      clear hb22
      have I1_0 : V22.cell? ⟨V21.heap.size, 0, none⟩ = some (.int .i64 0) := cell_of_row _ _ _ _ _ _ I1.out
      have I1_1 : V22.cell? ⟨V21.heap.size, 1, none⟩ = some (.int .i64 0) := cell_of_row _ _ _ _ _ _ I1.out
      have zI1 := lt_of_heap I1.out
      go_simp
      go_wp2
      go_ret
      exact ⟨rfl, by first | exact B22.out | exact B22.out.alloc B22.out.size _⟩
end Go.Proofs.Ytlfbiidnfheelaa
