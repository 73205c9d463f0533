/- The walk of RoundTurns: a number and its negative. -/
import Derived.Test.YtlfbiidnfheelaaRawB
namespace Go.Proofs.Ytlfbiidnfheelaa
set_option linter.unusedVariables false
set_option linter.unusedSimpArgs false
open Go.ChangeShapes Go.WideShapes Go.ChangeAt Go.RowKit

def modesC : Array Value := #[.int .i64 0, .int .i64 1, .int .i64 2, .int .i64 3, .int .i64 4, .int .i64 5, .int .i64 6, .int .i64 7, .int .i64 8]
def turnC : Array Value := #[.int .i64 1, .int .i64 0, .int .i64 2, .int .i64 3, .int .i64 4, .int .i64 5, .int .i64 6, .int .i64 8, .int .i64 7]
/-- the mode that a negative turns it to. -/
def turnI (m : Nat) : Nat := if m = 0 then 1 else if m = 1 then 0 else if m = 7 then 8 else if m = 8 then 7 else m
theorem modes_at (m : Nat) (h : m < 9) : modesC[m]? = some (.int .i64 m) := by
  have hm : m = 0 ∨ m = 1 ∨ m = 2 ∨ m = 3 ∨ m = 4 ∨ m = 5 ∨ m = 6 ∨ m = 7 ∨ m = 8 := by omega
  rcases hm with rfl | rfl | rfl | rfl | rfl | rfl | rfl | rfl | rfl <;> rfl
theorem turn_at (m : Nat) (h : m < 9) : turnC[m]? = some (.int .i64 (turnI m)) := by
  have hm : m = 0 ∨ m = 1 ∨ m = 2 ∨ m = 3 ∨ m = 4 ∨ m = 5 ∨ m = 6 ∨ m = 7 ∨ m = 8 := by omega
  rcases hm with rfl | rfl | rfl | rfl | rfl | rfl | rfl | rfl | rfl <;> rfl
theorem aw_turn (m : Nat) (h : m < 9) (b o : Bool) (a c : Nat) : awB m b o (cmpI a c) = awB (turnI m) (!b) o (cmpI a c) := by
  have hm : m = 0 ∨ m = 1 ∨ m = 2 ∨ m = 3 ∨ m = 4 ∨ m = 5 ∨ m = 6 ∨ m = 7 ∨ m = 8 := by omega
  rcases cmpI_three a c with e | e | e <;> rw [e] <;> rcases hm with rfl | rfl | rfl | rfl | rfl | rfl | rfl | rfl | rfl <;> cases b <;> cases o <;> unfold awB turnI <;> decide
theorem amt_turn (A u m : Nat) (h : m < 9) (b : Bool) : amtN A u m b = amtN A u (turnI m) (!b) := by
  unfold amtN
  rw [aw_turn m h]
theorem turn_lt {m : Nat} (h : m < 9) : turnI m < 9 := by
  unfold turnI
  repeat' split
  all_goals omega
theorem rnd_turn (x y : Int) (m : Nat) (hy : 1 ≤ y) (h : m < 9) : rnd (-x) y (turnI m) = -rnd x y m := by
  have ht := turn_lt h
  obtain ⟨u, rfl⟩ : ∃ u : Nat, y = (u : Int) := ⟨y.toNat, by omega⟩
  rcases Int.lt_trichotomy x 0 with hx | hx | hx
  · obtain ⟨A, rfl⟩ : ∃ A : Nat, x = -(A : Int) := ⟨x.natAbs, by omega⟩
    rw [show - -(A : Int) = (A : Int) by omega, amt_pos A u (by omega) (by omega) (by omega), amt_neg A u (by omega) (by omega) (by omega) (by omega), amt_turn A u m h true]
    simp
  · subst hx
    have e : ∀ k : Int, rnd 0 (u : Int) k = 0 := fun k => if_pos (by simp)
    rw [show (-0 : Int) = 0 from rfl, e, e]; rfl
  · obtain ⟨A, rfl⟩ : ∃ A : Nat, x = (A : Int) := ⟨x.toNat, by omega⟩
    rw [amt_neg A u (by omega) (by omega) (by omega) (by omega), amt_pos A u (by omega) (by omega) (by omega), amt_turn A u m h false]
    rfl
/-- the other number as it is shown. -/
def opp (x : Int) : Int := if x = -170141183460469231731687303715884105728 then x else -x
theorem opp_z (x : Int) : zh (-x) = zh (opp x) ∧ zl (-x) = zl (opp x) := by
  unfold opp
  split
  · rename_i h; subst h; exact ⟨by decide +kernel, by decide +kernel⟩
  · exact ⟨rfl, rfl⟩
theorem opp_in {x : Int} (h : in128 x) : in128 (opp x) := by unfold opp; unfold in128 at *; split <;> omega
theorem opp_round (x y : Int) (m : Nat) (h : m < 9) : rwE (opp x) y (turnI m) = rwE x y m ∧ rwV (opp x) y (turnI m) = -rwV x y m := by
  have ht := turn_lt h
  cases hb : badW x y m
  · obtain ⟨b1, b2, b3, b4, b5⟩ := badW_ok hb
    have e : opp x = -x := if_neg (by omega)
    have hb2 : badW (opp x) y (turnI m) = false := by
      cases hc : badW (opp x) y (turnI m)
      · rfl
      · exact absurd ⟨b1, b2, by rw [e]; omega, by omega, by omega⟩ (badW_no hc)
    rw [(rw_ok hb).1, (rw_ok hb).2, (rw_ok hb2).1, (rw_ok hb2).2, e, rnd_turn x y m b1 h]
    exact ⟨rfl, rfl⟩
  · have hn := badW_no hb
    have hb2 : badW (opp x) y (turnI m) = true := by
      cases hc : badW (opp x) y (turnI m)
      · obtain ⟨b1, b2, b3, b4, b5⟩ := badW_ok hc
        exact absurd ⟨b1, b2, by unfold opp at b3; split at b3 <;> omega, by omega, by omega⟩ hn
      · rfl
    rw [(rw_bad hb).1, (rw_bad hb).2, (rw_bad hb2).1, (rw_bad hb2).2]
    exact ⟨rfl, rfl⟩
structure TrnR (w : World) (xh xl yh yl : Nat) (wr : World) : Prop where
  fx : wr.heap[w.heap.size]? = some (.cells #[.int .u64 xh, .int .u64 xl] 24)
  fu : wr.heap[w.heap.size + 1]? = some (.cells #[.int .u64 yh, .int .u64 yl] 24)
  fs : wr.heap[w.heap.size + 1 + 1]? = some (.cells modesC 3)
  ft : wr.heap[w.heap.size + 1 + 1 + 1]? = some (.cells turnC 3)
  fb : Below w.heap.size w wr
set_option maxHeartbeats 6400000 in
set_option maxRecDepth 100000 in
theorem turns_of (xh xl yh yl nh nl : Nat) (E : Nat → Int) (V : Nat → Int) (w : World)
    (hE : ∀ m, m < 9 → E m = 0 ∨ E m = 5)
    (HN : Hid (∀ w, Calls Try.prog 16 #[.agg #[.int .u64 xh, .int .u64 xl]] w fun e w' => e = .returned (.agg #[.int .u64 nh, .int .u64 nl]) ∧ Below w.heap.size w w'))
    (HW : Hid (∀ m : Nat, m < 9 → ∀ w, Calls Try.prog 8 #[.agg #[.int .u64 xh, .int .u64 xl], .agg #[.int .u64 yh, .int .u64 yl], .int .i64 m] w fun e w' => e = .returned (.tuple #[.agg #[.int .u64 (zh (V m)), .int .u64 (zl (V m))], .int .i64 (E m)]) ∧ Below w.heap.size w w'))
    (HT : Hid (∀ m : Nat, m < 9 → ∀ w, Calls Try.prog 8 #[.agg #[.int .u64 nh, .int .u64 nl], .agg #[.int .u64 yh, .int .u64 yl], .int .i64 (turnI m)] w fun e w' => e = .returned (.tuple #[.agg #[.int .u64 (zh (-V m)), .int .u64 (zl (-V m))], .int .i64 (E m)]) ∧ Below w.heap.size w w'))
    (HK : Hid (∀ w, Calls Try.prog 10 #[] w fun e w' => e = .returned (.bool true) ∧ Below w.heap.size w w')) :
    Calls Try.prog 7 #[.agg #[.int .u64 xh, .int .u64 xl], .agg #[.int .u64 yh, .int .u64 yl]] w fun e w' => e = .returned (.bool true) ∧ Below w.heap.size w w' := by
  have HNV := Lib.hid rNeg_any
  go_enter Try.func7, Try.ntmps7
  go_wp2_with fail
  
  obtain ⟨W0, hW0⟩ : ∃ W0, W0 = ((((w.alloc (Obj.cells #[Value.int .u64 xh, Value.int .u64 xl] 24)).alloc (Obj.cells #[Value.int .u64 yh, Value.int .u64 yl] 24)).alloc (Obj.cells #[Value.int .i64 0, Value.int .i64 1, Value.int .i64 2, Value.int .i64 3, Value.int .i64 4, Value.int .i64 5, Value.int .i64 6, Value.int .i64 7, Value.int .i64 8] 3)).alloc (Obj.cells #[Value.int .i64 1, Value.int .i64 0, Value.int .i64 2, Value.int .i64 3, Value.int .i64 4, Value.int .i64 5, Value.int .i64 6, Value.int .i64 8, Value.int .i64 7] 3)) := ⟨_, rfl⟩
  have X1 := Lib.hid (row_at (k' := w.heap.size) (by simp) (row_by hW0 (row_alloc (row_alloc (row_alloc (heap_alloc_new _ _) _) _) _)))
  have U1 := Lib.hid (row_at (k' := w.heap.size + 1) (by simp) (row_by hW0 (row_alloc (row_alloc (heap_alloc_new _ _) _) _)))
  have S1 := Lib.hid (row_at (k' := w.heap.size + 1 + 1) (by simp) (row_by hW0 (row_alloc (heap_alloc_new _ _) _)))
  have T1 := Lib.hid (row_at (k' := w.heap.size + 1 + 1 + 1) (by simp) (row_by hW0 (heap_alloc_new _ _)))
  have HB0 := Lib.hid (below_by hW0 (((((Below.refl w.heap.size w).alloc (by simp <;> omega) _).alloc (by simp <;> omega) _).alloc (by simp <;> omega) _).alloc (by simp <;> omega) _))
  have HW0 := Lib.hid hW0
  clear hW0
  have X1_0 : W0.cell? ⟨w.heap.size, 0, none⟩ = some (.int .u64 xh) := cell_of_row _ _ _ _ _ _ X1.out
  have X1_1 : W0.cell? ⟨w.heap.size, 1, none⟩ = some (.int .u64 xl) := cell_of_row _ _ _ _ _ _ X1.out
  have zX1 := lt_of_heap X1.out
  have U1_0 : W0.cell? ⟨w.heap.size + 1, 0, none⟩ = some (.int .u64 yh) := cell_of_row _ _ _ _ _ _ U1.out
  have U1_1 : W0.cell? ⟨w.heap.size + 1, 1, none⟩ = some (.int .u64 yl) := cell_of_row _ _ _ _ _ _ U1.out
  have zU1 := lt_of_heap U1.out
  have S1_0 : W0.cell? ⟨w.heap.size + 1 + 1, 0, none⟩ = some (.int .i64 0) := cell_of_row _ _ _ _ _ _ S1.out
  have S1_1 : W0.cell? ⟨w.heap.size + 1 + 1, 1, none⟩ = some (.int .i64 1) := cell_of_row _ _ _ _ _ _ S1.out
  have S1_2 : W0.cell? ⟨w.heap.size + 1 + 1, 2, none⟩ = some (.int .i64 2) := cell_of_row _ _ _ _ _ _ S1.out
  have S1_3 : W0.cell? ⟨w.heap.size + 1 + 1, 3, none⟩ = some (.int .i64 3) := cell_of_row _ _ _ _ _ _ S1.out
  have S1_4 : W0.cell? ⟨w.heap.size + 1 + 1, 4, none⟩ = some (.int .i64 4) := cell_of_row _ _ _ _ _ _ S1.out
  have S1_5 : W0.cell? ⟨w.heap.size + 1 + 1, 5, none⟩ = some (.int .i64 5) := cell_of_row _ _ _ _ _ _ S1.out
  have S1_6 : W0.cell? ⟨w.heap.size + 1 + 1, 6, none⟩ = some (.int .i64 6) := cell_of_row _ _ _ _ _ _ S1.out
  have S1_7 : W0.cell? ⟨w.heap.size + 1 + 1, 7, none⟩ = some (.int .i64 7) := cell_of_row _ _ _ _ _ _ S1.out
  have S1_8 : W0.cell? ⟨w.heap.size + 1 + 1, 8, none⟩ = some (.int .i64 8) := cell_of_row _ _ _ _ _ _ S1.out
  have zS1 := lt_of_heap S1.out
  have T1_0 : W0.cell? ⟨w.heap.size + 1 + 1 + 1, 0, none⟩ = some (.int .i64 1) := cell_of_row _ _ _ _ _ _ T1.out
  have T1_1 : W0.cell? ⟨w.heap.size + 1 + 1 + 1, 1, none⟩ = some (.int .i64 0) := cell_of_row _ _ _ _ _ _ T1.out
  have T1_2 : W0.cell? ⟨w.heap.size + 1 + 1 + 1, 2, none⟩ = some (.int .i64 2) := cell_of_row _ _ _ _ _ _ T1.out
  have T1_3 : W0.cell? ⟨w.heap.size + 1 + 1 + 1, 3, none⟩ = some (.int .i64 3) := cell_of_row _ _ _ _ _ _ T1.out
  have T1_4 : W0.cell? ⟨w.heap.size + 1 + 1 + 1, 4, none⟩ = some (.int .i64 4) := cell_of_row _ _ _ _ _ _ T1.out
  have T1_5 : W0.cell? ⟨w.heap.size + 1 + 1 + 1, 5, none⟩ = some (.int .i64 5) := cell_of_row _ _ _ _ _ _ T1.out
  have T1_6 : W0.cell? ⟨w.heap.size + 1 + 1 + 1, 6, none⟩ = some (.int .i64 6) := cell_of_row _ _ _ _ _ _ T1.out
  have T1_7 : W0.cell? ⟨w.heap.size + 1 + 1 + 1, 7, none⟩ = some (.int .i64 8) := cell_of_row _ _ _ _ _ _ T1.out
  have T1_8 : W0.cell? ⟨w.heap.size + 1 + 1 + 1, 8, none⟩ = some (.int .i64 7) := cell_of_row _ _ _ _ _ _ T1.out
  have zT1 := lt_of_heap T1.out
  try rw [← HW0.out]
  have hR : TrnR w xh xl yh yl W0 := ⟨X1.out, U1.out, S1.out, T1.out, HB0.out⟩
  have HR := Lib.hid hR
  clear hR HW0 X1_0 X1_1 zX1 U1_0 U1_1 zU1 S1_0 S1_1 S1_2 S1_3 S1_4 S1_5 S1_6 S1_7 S1_8 zS1 T1_0 T1_1 T1_2 T1_3 T1_4 T1_5 T1_6 T1_7 T1_8 zT1 X1 U1 S1 T1 HB0
  go_loopw [7] (fun s7 wr => ∃ m : Nat, m ≤ 9 ∧ s7 = .int .i64 m ∧ TrnR w xh xl yh yl wr) (fun s7 _ => (9 - intOf s7).toNat)
  case atStart => exact ⟨0, by omega, rfl, HR.out⟩
  case round =>
    obtain ⟨m, hm, rfl, hX⟩ := hrel
    clear HR
    obtain ⟨V20, rfl⟩ : ∃ V, V = wr := ⟨_, rfl⟩
    have X1 := Lib.hid hX.fx
    have U1 := Lib.hid hX.fu
    have S1 := Lib.hid hX.fs
    have T1 := Lib.hid hX.ft
    have B20 := Lib.hid hX.fb
    clear hX
    by_cases h9 : m < 9
    · have c1 : ((m : Int) < 9) := by omega
      have HW1 := Lib.hid (HW.out m h9)
      have HT1 := Lib.hid (HT.out m h9)
      have HN1 := Lib.hid (HNV.out (V m))
      have e1 := modes_at m h9
      have e2 := turn_at m h9
      have hE1 := hE m h9
      clear HW HT HNV hE
      generalize zh (-V m) = wh at *
      generalize zl (-V m) = wl at *
      generalize zh (V m) = vh at *
      generalize zl (V m) = vl at *
      generalize turnI m = t at *
      generalize E m = E at *
      
      have X1_0 : V20.cell? ⟨w.heap.size, 0, none⟩ = some (.int .u64 xh) := cell_of_row _ _ _ _ _ _ X1.out
      have X1_1 : V20.cell? ⟨w.heap.size, 1, none⟩ = some (.int .u64 xl) := cell_of_row _ _ _ _ _ _ X1.out
      have zX1 := lt_of_heap X1.out
      have U1_0 : V20.cell? ⟨w.heap.size + 1, 0, none⟩ = some (.int .u64 yh) := cell_of_row _ _ _ _ _ _ U1.out
      have U1_1 : V20.cell? ⟨w.heap.size + 1, 1, none⟩ = some (.int .u64 yl) := cell_of_row _ _ _ _ _ _ U1.out
      have zU1 := lt_of_heap U1.out
      have S1_0 : V20.cell? ⟨w.heap.size + 1 + 1, m, none⟩ = some (.int .i64 m) := (cell_of_row _ _ _ _ _ _ S1.out).trans e1
      have zS1 := lt_of_heap S1.out
      have T1_0 : V20.cell? ⟨w.heap.size + 1 + 1 + 1, m, none⟩ = some (.int .i64 t) := (cell_of_row _ _ _ _ _ _ T1.out).trans e2
      have zT1 := lt_of_heap T1.out
      go_wp2_with fail
      clear X1_0 X1_1 zX1 U1_0 U1_1 zU1 S1_0 zS1 T1_0 zT1
      obtain ⟨W0, hW0⟩ : ∃ W0, W0 = V20 := ⟨_, rfl⟩
      replace X1 := Lib.hid (row_by hW0 X1.out)
      replace U1 := Lib.hid (row_by hW0 U1.out)
      replace S1 := Lib.hid (row_by hW0 S1.out)
      replace T1 := Lib.hid (row_by hW0 T1.out)
      have HB0 := Lib.hid (below_by hW0 (B20.out))
      have HW0 := Lib.hid hW0
      clear hW0
      have X1_0 : W0.cell? ⟨w.heap.size, 0, none⟩ = some (.int .u64 xh) := cell_of_row _ _ _ _ _ _ X1.out
      have X1_1 : W0.cell? ⟨w.heap.size, 1, none⟩ = some (.int .u64 xl) := cell_of_row _ _ _ _ _ _ X1.out
      have zX1 := lt_of_heap X1.out
      have U1_0 : W0.cell? ⟨w.heap.size + 1, 0, none⟩ = some (.int .u64 yh) := cell_of_row _ _ _ _ _ _ U1.out
      have U1_1 : W0.cell? ⟨w.heap.size + 1, 1, none⟩ = some (.int .u64 yl) := cell_of_row _ _ _ _ _ _ U1.out
      have zU1 := lt_of_heap U1.out
      have S1_0 : W0.cell? ⟨w.heap.size + 1 + 1, m, none⟩ = some (.int .i64 m) := (cell_of_row _ _ _ _ _ _ S1.out).trans e1
      have zS1 := lt_of_heap S1.out
      have T1_0 : W0.cell? ⟨w.heap.size + 1 + 1 + 1, m, none⟩ = some (.int .i64 t) := (cell_of_row _ _ _ _ _ _ T1.out).trans e2
      have zT1 := lt_of_heap T1.out
      try rw [← HW0.out]
      go_cut [8, 9] from 14 to 51 (fun s8 s9 wx => ∃ gI1 : Nat, s8 = .pointer (some ⟨gI1, 0, none⟩) ∧ s9 = .int .i64 E ∧ wx.heap[gI1]? = some (.cells #[.int .u64 vh, .int .u64 vl] 24 (0, 0)) ∧ Below W0.heap.size W0 wx)
      case first =>
        go_region_held3 (fun w' => Below W0.heap.size W0 w' ∧ w'.cell? ⟨w.heap.size, 0, none⟩ = some (.int .u64 xh) ∧ w'.cell? ⟨w.heap.size, 1, none⟩ = some (.int .u64 xl) ∧ w'.cell? ⟨w.heap.size + 1, 0, none⟩ = some (.int .u64 yh) ∧ w'.cell? ⟨w.heap.size + 1, 1, none⟩ = some (.int .u64 yl) ∧ w'.cell? ⟨w.heap.size + 1 + 1, m, none⟩ = some (.int .i64 m))
    (first
      | ((try go_split_ands); refine ⟨(Below.refl _ _).drew, ?_, ?_, ?_, ?_, ?_⟩ <;> first | assumption | (rw [World.cell?_drew]; assumption))
      | ((try go_split_ands); refine ⟨keepS (W0 := W0) ?_ hb1, cellS (W0 := W0) ?_ hb1 ?_ ?_, cellS (W0 := W0) ?_ hb1 ?_ ?_, cellS (W0 := W0) ?_ hb1 ?_ ?_, cellS (W0 := W0) ?_ hb1 ?_ ?_, cellS (W0 := W0) ?_ hb1 ?_ ?_⟩ <;> first | assumption | omega)
      | ((try go_split_ands); refine ⟨keepA (W0 := W0) ?_ _, cellA (W0 := W0) ?_ _ ?_ ?_, cellA (W0 := W0) ?_ _ ?_ ?_, cellA (W0 := W0) ?_ _ ?_ ?_, cellA (W0 := W0) ?_ _ ?_ ?_, cellA (W0 := W0) ?_ _ ?_ ?_⟩ <;> first | assumption | omega)
      | ((try go_split_ands); refine ⟨keepAd (W0 := W0) ?_ _, cellAd (W0 := W0) ?_ _ ?_ ?_, cellAd (W0 := W0) ?_ _ ?_ ?_, cellAd (W0 := W0) ?_ _ ?_ ?_, cellAd (W0 := W0) ?_ _ ?_ ?_, cellAd (W0 := W0) ?_ _ ?_ ?_⟩ <;> first | assumption | omega | exact Below.refl _ _)
      | ((try go_split_ands); refine ⟨keep2 (W0 := W0) ?_ ?_ _ _, cell2 (W0 := W0) ?_ _ _ ?_ ?_, cell2 (W0 := W0) ?_ _ _ ?_ ?_, cell2 (W0 := W0) ?_ _ _ ?_ ?_, cell2 (W0 := W0) ?_ _ _ ?_ ?_, cell2 (W0 := W0) ?_ _ _ ?_ ?_⟩ <;> first | assumption | omega | exact Nat.le_refl _)
      | ((try go_split_ands); refine ⟨keepZ (W0 := W0) ?_ ?_ _, cellZ (W0 := W0) ?_ _ ?_ ?_, cellZ (W0 := W0) ?_ _ ?_ ?_, cellZ (W0 := W0) ?_ _ ?_ ?_, cellZ (W0 := W0) ?_ _ ?_ ?_, cellZ (W0 := W0) ?_ _ ?_ ?_⟩ <;> first | assumption | omega | exact Nat.le_refl _ | exact ⟨_, by assumption⟩))
    (first | (go_at_call 8; (with_reducible refine (HW1.out _).mono ?_); rintro e w1 ⟨rfl, hb1⟩; (try go_split_ands); have hge : W0.heap.size ≤ w1.heap.size := (by first | (refine (keepS (W0 := W0) ?_ hb1).size; assumption) | exact (hb1.size : W0.heap.size ≤ w1.heap.size)); (try have hrow := row_call hb1 hrow); (try have hrow := row_new hb1); (try have hrow := row_newd hb1); have hl1 := lt_below hb1; obtain ⟨hc1, hf1⟩ := bcell hb1; (try (have hrc := row_cellA hrow; clear hc1 hf1)); (try have hrf := row_frozA hrow)))
        all_goals (try go_split_ands)
        all_goals (go_wp2_with fail; go_meet; refine ⟨_, rfl, rfl, ?_, ?_⟩)
        all_goals first | assumption | exact heap_alloc_new _ _ | exact row_set (by assumption) _ _
      case rest =>
        obtain ⟨gI1, rfl, rfl, hI1, hB⟩ := hcut
        obtain ⟨V21, rfl⟩ : ∃ V, V = wc := ⟨_, rfl⟩
        have I1 := Lib.hid hI1
        clear hI1
        clear X1_0 X1_1 zX1 U1_0 U1_1 zU1 S1_0 zS1 T1_0 zT1
        replace X1 := Lib.hid (row_call hB X1.out)
        replace U1 := Lib.hid (row_call hB U1.out)
        replace S1 := Lib.hid (row_call hB S1.out)
        replace T1 := Lib.hid (row_call hB T1.out)
        have B21 := Lib.hid (HB0.out.trans (hB.mono HB0.out.size))
        clear hB
        have X1_0 : V21.cell? ⟨w.heap.size, 0, none⟩ = some (.int .u64 xh) := cell_of_row _ _ _ _ _ _ X1.out
        have X1_1 : V21.cell? ⟨w.heap.size, 1, none⟩ = some (.int .u64 xl) := cell_of_row _ _ _ _ _ _ X1.out
        have zX1 := lt_of_heap X1.out
        have U1_0 : V21.cell? ⟨w.heap.size + 1, 0, none⟩ = some (.int .u64 yh) := cell_of_row _ _ _ _ _ _ U1.out
        have U1_1 : V21.cell? ⟨w.heap.size + 1, 1, none⟩ = some (.int .u64 yl) := cell_of_row _ _ _ _ _ _ U1.out
        have zU1 := lt_of_heap U1.out
        have S1_0 : V21.cell? ⟨w.heap.size + 1 + 1, m, none⟩ = some (.int .i64 m) := (cell_of_row _ _ _ _ _ _ S1.out).trans e1
        have zS1 := lt_of_heap S1.out
        have T1_0 : V21.cell? ⟨w.heap.size + 1 + 1 + 1, m, none⟩ = some (.int .i64 t) := (cell_of_row _ _ _ _ _ _ T1.out).trans e2
        have zT1 := lt_of_heap T1.out
        have I1_0 : V21.cell? ⟨gI1, 0, none⟩ = some (.int .u64 vh) := cell_of_row _ _ _ _ _ _ I1.out
        have I1_1 : V21.cell? ⟨gI1, 1, none⟩ = some (.int .u64 vl) := cell_of_row _ _ _ _ _ _ I1.out
        have zI1 := lt_of_heap I1.out
        go_wp2_with fail
        clear X1_0 X1_1 zX1 U1_0 U1_1 zU1 S1_0 zS1 T1_0 zT1 I1_0 I1_1 zI1
        obtain ⟨W0, hW0⟩ : ∃ W0, W0 = V21 := ⟨_, rfl⟩
        replace X1 := Lib.hid (row_by hW0 X1.out)
        replace U1 := Lib.hid (row_by hW0 U1.out)
        replace S1 := Lib.hid (row_by hW0 S1.out)
        replace T1 := Lib.hid (row_by hW0 T1.out)
        replace I1 := Lib.hid (row_by hW0 I1.out)
        have HB0 := Lib.hid (below_by hW0 (B21.out))
        have HW0 := Lib.hid hW0
        clear hW0
        have X1_0 : W0.cell? ⟨w.heap.size, 0, none⟩ = some (.int .u64 xh) := cell_of_row _ _ _ _ _ _ X1.out
        have X1_1 : W0.cell? ⟨w.heap.size, 1, none⟩ = some (.int .u64 xl) := cell_of_row _ _ _ _ _ _ X1.out
        have zX1 := lt_of_heap X1.out
        have U1_0 : W0.cell? ⟨w.heap.size + 1, 0, none⟩ = some (.int .u64 yh) := cell_of_row _ _ _ _ _ _ U1.out
        have U1_1 : W0.cell? ⟨w.heap.size + 1, 1, none⟩ = some (.int .u64 yl) := cell_of_row _ _ _ _ _ _ U1.out
        have zU1 := lt_of_heap U1.out
        have S1_0 : W0.cell? ⟨w.heap.size + 1 + 1, m, none⟩ = some (.int .i64 m) := (cell_of_row _ _ _ _ _ _ S1.out).trans e1
        have zS1 := lt_of_heap S1.out
        have T1_0 : W0.cell? ⟨w.heap.size + 1 + 1 + 1, m, none⟩ = some (.int .i64 t) := (cell_of_row _ _ _ _ _ _ T1.out).trans e2
        have zT1 := lt_of_heap T1.out
        have I1_0 : W0.cell? ⟨gI1, 0, none⟩ = some (.int .u64 vh) := cell_of_row _ _ _ _ _ _ I1.out
        have I1_1 : W0.cell? ⟨gI1, 1, none⟩ = some (.int .u64 vl) := cell_of_row _ _ _ _ _ _ I1.out
        have zI1 := lt_of_heap I1.out
        try rw [← HW0.out]
        go_cut [10, 11] from 14 to 51 (fun s10 s11 wx => ∃ gJ1 : Nat, s10 = .pointer (some ⟨gJ1, 0, none⟩) ∧ s11 = .int .i64 E ∧ wx.heap[gJ1]? = some (.cells #[.int .u64 wh, .int .u64 wl] 24 (0, 0)) ∧ Below W0.heap.size W0 wx)
        case first =>
          go_region_held3 (fun w' => Below W0.heap.size W0 w' ∧ w'.cell? ⟨w.heap.size, 0, none⟩ = some (.int .u64 xh) ∧ w'.cell? ⟨w.heap.size, 1, none⟩ = some (.int .u64 xl) ∧ w'.cell? ⟨w.heap.size + 1, 0, none⟩ = some (.int .u64 yh) ∧ w'.cell? ⟨w.heap.size + 1, 1, none⟩ = some (.int .u64 yl) ∧ w'.cell? ⟨w.heap.size + 1 + 1 + 1, m, none⟩ = some (.int .i64 t))
    (first
      | ((try go_split_ands); refine ⟨(Below.refl _ _).drew, ?_, ?_, ?_, ?_, ?_⟩ <;> first | assumption | (rw [World.cell?_drew]; assumption))
      | ((try go_split_ands); refine ⟨keepS (W0 := W0) ?_ hb1, cellS (W0 := W0) ?_ hb1 ?_ ?_, cellS (W0 := W0) ?_ hb1 ?_ ?_, cellS (W0 := W0) ?_ hb1 ?_ ?_, cellS (W0 := W0) ?_ hb1 ?_ ?_, cellS (W0 := W0) ?_ hb1 ?_ ?_⟩ <;> first | assumption | omega)
      | ((try go_split_ands); refine ⟨keepA (W0 := W0) ?_ _, cellA (W0 := W0) ?_ _ ?_ ?_, cellA (W0 := W0) ?_ _ ?_ ?_, cellA (W0 := W0) ?_ _ ?_ ?_, cellA (W0 := W0) ?_ _ ?_ ?_, cellA (W0 := W0) ?_ _ ?_ ?_⟩ <;> first | assumption | omega)
      | ((try go_split_ands); refine ⟨keepAd (W0 := W0) ?_ _, cellAd (W0 := W0) ?_ _ ?_ ?_, cellAd (W0 := W0) ?_ _ ?_ ?_, cellAd (W0 := W0) ?_ _ ?_ ?_, cellAd (W0 := W0) ?_ _ ?_ ?_, cellAd (W0 := W0) ?_ _ ?_ ?_⟩ <;> first | assumption | omega | exact Below.refl _ _)
      | ((try go_split_ands); refine ⟨keep2 (W0 := W0) ?_ ?_ _ _, cell2 (W0 := W0) ?_ _ _ ?_ ?_, cell2 (W0 := W0) ?_ _ _ ?_ ?_, cell2 (W0 := W0) ?_ _ _ ?_ ?_, cell2 (W0 := W0) ?_ _ _ ?_ ?_, cell2 (W0 := W0) ?_ _ _ ?_ ?_⟩ <;> first | assumption | omega | exact Nat.le_refl _)
      | ((try go_split_ands); refine ⟨keepZ (W0 := W0) ?_ ?_ _, cellZ (W0 := W0) ?_ _ ?_ ?_, cellZ (W0 := W0) ?_ _ ?_ ?_, cellZ (W0 := W0) ?_ _ ?_ ?_, cellZ (W0 := W0) ?_ _ ?_ ?_, cellZ (W0 := W0) ?_ _ ?_ ?_⟩ <;> first | assumption | omega | exact Nat.le_refl _ | exact ⟨_, by assumption⟩))
    (first | (go_at_call 16; (with_reducible refine (HN.out _).mono ?_); rintro e w1 ⟨rfl, hb1⟩; (try go_split_ands); have hge : W0.heap.size ≤ w1.heap.size := (by first | (refine (keepS (W0 := W0) ?_ hb1).size; assumption) | exact (hb1.size : W0.heap.size ≤ w1.heap.size)); (try have hrow := row_call hb1 hrow); (try have hrow := row_new hb1); (try have hrow := row_newd hb1); have hl1 := lt_below hb1; obtain ⟨hc1, hf1⟩ := bcell hb1; (try (have hrc := row_cellA hrow; clear hc1 hf1)); (try have hrf := row_frozA hrow)) | (go_at_call 8; (with_reducible refine (HT1.out _).mono ?_); rintro e w1 ⟨rfl, hb1⟩; (try go_split_ands); have hge : W0.heap.size ≤ w1.heap.size := (by first | (refine (keepS (W0 := W0) ?_ hb1).size; assumption) | exact (hb1.size : W0.heap.size ≤ w1.heap.size)); (try have hrow := row_call hb1 hrow); (try have hrow := row_new hb1); (try have hrow := row_newd hb1); have hl1 := lt_below hb1; obtain ⟨hc1, hf1⟩ := bcell hb1; (try (have hrc := row_cellA hrow; clear hc1 hf1)); (try have hrf := row_frozA hrow)))
          all_goals (try go_split_ands)
          all_goals (go_wp2_with fail; go_meet; refine ⟨_, rfl, rfl, ?_, ?_⟩)
          all_goals first | assumption | exact heap_alloc_new _ _ | exact row_set (by assumption) _ _
        case rest =>
          obtain ⟨gJ1, rfl, rfl, hJ1, hB⟩ := hcut
          obtain ⟨V22, rfl⟩ : ∃ V, V = wc := ⟨_, rfl⟩
          have J1 := Lib.hid hJ1
          clear hJ1
          clear X1_0 X1_1 zX1 U1_0 U1_1 zU1 S1_0 zS1 T1_0 zT1 I1_0 I1_1 zI1
          replace X1 := Lib.hid (row_call hB X1.out)
          replace U1 := Lib.hid (row_call hB U1.out)
          replace S1 := Lib.hid (row_call hB S1.out)
          replace T1 := Lib.hid (row_call hB T1.out)
          replace I1 := Lib.hid (row_call hB I1.out)
          have B22 := Lib.hid (HB0.out.trans (hB.mono HB0.out.size))
          clear hB
          have X1_0 : V22.cell? ⟨w.heap.size, 0, none⟩ = some (.int .u64 xh) := cell_of_row _ _ _ _ _ _ X1.out
          have X1_1 : V22.cell? ⟨w.heap.size, 1, none⟩ = some (.int .u64 xl) := cell_of_row _ _ _ _ _ _ X1.out
          have zX1 := lt_of_heap X1.out
          have U1_0 : V22.cell? ⟨w.heap.size + 1, 0, none⟩ = some (.int .u64 yh) := cell_of_row _ _ _ _ _ _ U1.out
          have U1_1 : V22.cell? ⟨w.heap.size + 1, 1, none⟩ = some (.int .u64 yl) := cell_of_row _ _ _ _ _ _ U1.out
          have zU1 := lt_of_heap U1.out
          have S1_0 : V22.cell? ⟨w.heap.size + 1 + 1, m, none⟩ = some (.int .i64 m) := (cell_of_row _ _ _ _ _ _ S1.out).trans e1
          have zS1 := lt_of_heap S1.out
          have T1_0 : V22.cell? ⟨w.heap.size + 1 + 1 + 1, m, none⟩ = some (.int .i64 t) := (cell_of_row _ _ _ _ _ _ T1.out).trans e2
          have zT1 := lt_of_heap T1.out
          have I1_0 : V22.cell? ⟨gI1, 0, none⟩ = some (.int .u64 vh) := cell_of_row _ _ _ _ _ _ I1.out
          have I1_1 : V22.cell? ⟨gI1, 1, none⟩ = some (.int .u64 vl) := cell_of_row _ _ _ _ _ _ I1.out
          have zI1 := lt_of_heap I1.out
          have J1_0 : V22.cell? ⟨gJ1, 0, none⟩ = some (.int .u64 wh) := cell_of_row _ _ _ _ _ _ J1.out
          have J1_1 : V22.cell? ⟨gJ1, 1, none⟩ = some (.int .u64 wl) := cell_of_row _ _ _ _ _ _ J1.out
          have zJ1 := lt_of_heap J1.out
          go_wp2_with fail
          
          rcases hE1 with hE2 | hE2
          · subst hE2
            obtain ⟨W0, hW0⟩ : ∃ W0, W0 = V22 := ⟨_, rfl⟩
            replace X1 := Lib.hid (row_by hW0 X1.out)
            replace U1 := Lib.hid (row_by hW0 U1.out)
            replace S1 := Lib.hid (row_by hW0 S1.out)
            replace T1 := Lib.hid (row_by hW0 T1.out)
            replace I1 := Lib.hid (row_by hW0 I1.out)
            replace J1 := Lib.hid (row_by hW0 J1.out)
            clear X1_0 X1_1 zX1 U1_0 U1_1 zU1 S1_0 zS1 T1_0 zT1 I1_0 I1_1 zI1 J1_0 J1_1 zJ1
            have X1_0 : W0.cell? ⟨w.heap.size, 0, none⟩ = some (.int .u64 xh) := cell_of_row _ _ _ _ _ _ X1.out
            have X1_1 : W0.cell? ⟨w.heap.size, 1, none⟩ = some (.int .u64 xl) := cell_of_row _ _ _ _ _ _ X1.out
            have zX1 := lt_of_heap X1.out
            have U1_0 : W0.cell? ⟨w.heap.size + 1, 0, none⟩ = some (.int .u64 yh) := cell_of_row _ _ _ _ _ _ U1.out
            have U1_1 : W0.cell? ⟨w.heap.size + 1, 1, none⟩ = some (.int .u64 yl) := cell_of_row _ _ _ _ _ _ U1.out
            have zU1 := lt_of_heap U1.out
            have S1_0 : W0.cell? ⟨w.heap.size + 1 + 1, m, none⟩ = some (.int .i64 m) := (cell_of_row _ _ _ _ _ _ S1.out).trans e1
            have zS1 := lt_of_heap S1.out
            have T1_0 : W0.cell? ⟨w.heap.size + 1 + 1 + 1, m, none⟩ = some (.int .i64 t) := (cell_of_row _ _ _ _ _ _ T1.out).trans e2
            have zT1 := lt_of_heap T1.out
            have I1_0 : W0.cell? ⟨gI1, 0, none⟩ = some (.int .u64 vh) := cell_of_row _ _ _ _ _ _ I1.out
            have I1_1 : W0.cell? ⟨gI1, 1, none⟩ = some (.int .u64 vl) := cell_of_row _ _ _ _ _ _ I1.out
            have zI1 := lt_of_heap I1.out
            have J1_0 : W0.cell? ⟨gJ1, 0, none⟩ = some (.int .u64 wh) := cell_of_row _ _ _ _ _ _ J1.out
            have J1_1 : W0.cell? ⟨gJ1, 1, none⟩ = some (.int .u64 wl) := cell_of_row _ _ _ _ _ _ J1.out
            have zJ1 := lt_of_heap J1.out
            have HB0 := Lib.hid (below_by hW0 (B22.out))
            have zW0 := HB0.out.size
            have HW0 := Lib.hid hW0
            clear hW0
            try go_simp
            rw [← HW0.out]
            have hk0 : ∀ w2, Below W0.heap.size W0 w2 → w2.cell? ⟨w.heap.size, 0, none⟩ = some (.int .u64 xh) := fun w2 hb => (by rw [hb.cell (p := ⟨w.heap.size, 0, none⟩) (by assumption)]; assumption)
            have hk1 : ∀ w2, Below W0.heap.size W0 w2 → w2.cell? ⟨w.heap.size, 1, none⟩ = some (.int .u64 xl) := fun w2 hb => (by rw [hb.cell (p := ⟨w.heap.size, 1, none⟩) (by assumption)]; assumption)
            have hk2 : ∀ w2, Below W0.heap.size W0 w2 → w2.cell? ⟨w.heap.size + 1, 0, none⟩ = some (.int .u64 yh) := fun w2 hb => (by rw [hb.cell (p := ⟨w.heap.size + 1, 0, none⟩) (by assumption)]; assumption)
            have hk3 : ∀ w2, Below W0.heap.size W0 w2 → w2.cell? ⟨w.heap.size + 1, 1, none⟩ = some (.int .u64 yl) := fun w2 hb => (by rw [hb.cell (p := ⟨w.heap.size + 1, 1, none⟩) (by assumption)]; assumption)
            have hk4 : ∀ w2, Below W0.heap.size W0 w2 → w2.cell? ⟨w.heap.size + 1 + 1, m, none⟩ = some (.int .i64 m) := fun w2 hb => (by rw [hb.cell (p := ⟨w.heap.size + 1 + 1, m, none⟩) (by assumption)]; assumption)
            have hk5 : ∀ w2, Below W0.heap.size W0 w2 → w2.cell? ⟨w.heap.size + 1 + 1 + 1, m, none⟩ = some (.int .i64 t) := fun w2 hb => (by rw [hb.cell (p := ⟨w.heap.size + 1 + 1 + 1, m, none⟩) (by assumption)]; assumption)
            have hk6 : ∀ w2, Below W0.heap.size W0 w2 → w2.cell? ⟨gI1, 0, none⟩ = some (.int .u64 vh) := fun w2 hb => (by rw [hb.cell (p := ⟨gI1, 0, none⟩) (by assumption)]; assumption)
            have hk7 : ∀ w2, Below W0.heap.size W0 w2 → w2.cell? ⟨gI1, 1, none⟩ = some (.int .u64 vl) := fun w2 hb => (by rw [hb.cell (p := ⟨gI1, 1, none⟩) (by assumption)]; assumption)
            have hk8 : ∀ w2, Below W0.heap.size W0 w2 → w2.cell? ⟨gJ1, 0, none⟩ = some (.int .u64 wh) := fun w2 hb => (by rw [hb.cell (p := ⟨gJ1, 0, none⟩) (by assumption)]; assumption)
            have hk9 : ∀ w2, Below W0.heap.size W0 w2 → w2.cell? ⟨gJ1, 1, none⟩ = some (.int .u64 wl) := fun w2 hb => (by rw [hb.cell (p := ⟨gJ1, 1, none⟩) (by assumption)]; assumption)
            clear X1_0 X1_1 U1_0 U1_1 S1_0 T1_0 I1_0 I1_1 J1_0 J1_1
            refine region_plan (S := fun w2 => Below W0.heap.size W0 w2) [(0, true), (1, true), (2, true), (3, true), (4, true), (5, true), (6, true), (7, true), (9, true), (8, false), (10, true), (11, true), (12, true)] (by as_aux_lemma => kernel_rfl) (by as_aux_lemma => kernel_rfl) (by as_aux_lemma => kernel_rfl) (by as_aux_lemma => kernel_rfl) (Below.refl W0.heap.size W0).drew ?_
            have Y0 := Lib.hid (Below.refl W0.heap.size W0).drew
            refine plan_yes (v := ?v1) (by simp only [List.getElem?_toArray, List.getElem?_cons_zero, List.getElem?_cons_succ]; exact rfl) (Or.inl ⟨by as_aux_lemma => rfl, ?hy1⟩) ?rest1
            case hy1 => (intro w2 hSw; (try dsimp only at hSw); go_simp; try with_reducible rfl)
            try simp only [Act.put, List.setIfInBounds_toArray, List.set_cons_zero, List.set_cons_succ]
            refine plan_yes (v := ?v2) (by simp only [List.getElem?_toArray, List.getElem?_cons_zero, List.getElem?_cons_succ]; exact rfl) (Or.inl ⟨by as_aux_lemma => rfl, ?hy2⟩) ?rest2
            case hy2 => (intro w2 hSw; (try dsimp only at hSw); go_simp; try with_reducible rfl)
            try simp only [Act.put, List.setIfInBounds_toArray, List.set_cons_zero, List.set_cons_succ]
            refine plan_yes (v := ?v3) (by simp only [List.getElem?_toArray, List.getElem?_cons_zero, List.getElem?_cons_succ]; exact rfl) (Or.inl ⟨by as_aux_lemma => rfl, ?hy3⟩) ?rest3
            case hy3 => (intro w2 hSw; (try dsimp only at hSw); go_simp; try with_reducible rfl)
            try simp only [Act.put, List.setIfInBounds_toArray, List.set_cons_zero, List.set_cons_succ]
            refine plan_yes (v := ?v4) (by simp only [List.getElem?_toArray, List.getElem?_cons_zero, List.getElem?_cons_succ]; exact rfl) (Or.inl ⟨by as_aux_lemma => rfl, ?hy4⟩) ?rest4
            case hy4 => (intro w2 hSw; (try dsimp only at hSw); go_simp; try with_reducible rfl)
            try simp only [Act.put, List.setIfInBounds_toArray, List.set_cons_zero, List.set_cons_succ]
            refine plan_yes (v := ?v5) (by simp only [List.getElem?_toArray, List.getElem?_cons_zero, List.getElem?_cons_succ]; exact rfl) (Or.inl ⟨by as_aux_lemma => rfl, ?hy5⟩) ?rest5
            case hy5 => (intro w2 hSw; (try dsimp only at hSw); go_simp; try with_reducible rfl)
            try simp only [Act.put, List.setIfInBounds_toArray, List.set_cons_zero, List.set_cons_succ]
            refine plan_yes (v := ?v6) (by simp only [List.getElem?_toArray, List.getElem?_cons_zero, List.getElem?_cons_succ]; exact rfl) (Or.inl ⟨by as_aux_lemma => rfl, ?hy6⟩) ?rest6
            case hy6 => (intro w2 hSw; (try dsimp only at hSw); go_simp; try with_reducible rfl)
            try simp only [Act.put, List.setIfInBounds_toArray, List.set_cons_zero, List.set_cons_succ]
            refine plan_yes (v := ?v7) (by simp only [List.getElem?_toArray, List.getElem?_cons_zero, List.getElem?_cons_succ]; exact rfl) (Or.inl ⟨by as_aux_lemma => rfl, ?hy7⟩) ?rest7
            case hy7 => (intro w2 hSw; (try dsimp only at hSw); go_simp; try with_reducible rfl)
            try simp only [Act.put, List.setIfInBounds_toArray, List.set_cons_zero, List.set_cons_succ]
            refine plan_yes (v := ?v8) (by simp only [List.getElem?_toArray, List.getElem?_cons_zero, List.getElem?_cons_succ]; exact rfl) (Or.inl ⟨by as_aux_lemma => rfl, ?hy8⟩) ?rest8
            case hy8 => (intro w2 hSw; (try dsimp only at hSw); go_simp; try with_reducible rfl)
            try simp only [Act.put, List.setIfInBounds_toArray, List.set_cons_zero, List.set_cons_succ]
            refine plan_yes (v := ?v9) (by simp only [List.getElem?_toArray, List.getElem?_cons_zero, List.getElem?_cons_succ]; exact rfl) (Or.inl ⟨by as_aux_lemma => rfl, ?hy9⟩) ?rest9
            case hy9 => (intro w2 hSw; (try dsimp only at hSw); go_simp; try with_reducible rfl)
            try simp only [Act.put, List.setIfInBounds_toArray, List.set_cons_zero, List.set_cons_succ]
            refine plan_calls (by simp only [List.getElem?_toArray, List.getElem?_cons_zero, List.getElem?_cons_succ]; exact rfl) (by as_aux_lemma => rfl) (fun K hK => ?_)
            go_simp
            refine (HN1.out _).mono ?_
            rintro e Y1w ⟨rfl, hb1⟩
            have Y1 := Lib.hid (keepS (W0 := W0) Y0.out hb1)
            clear hb1
            refine hK.out _ _ Y1.out ?_
            clear hK K
            try simp only [Act.put, List.setIfInBounds_toArray, List.set_cons_zero, List.set_cons_succ]
            as_aux_lemma =>
             refine plan_yes (v := .bool false) (by simp only [List.getElem?_toArray, List.getElem?_cons_zero, List.getElem?_cons_succ]; exact rfl) (Or.inl ⟨by as_aux_lemma => rfl, ?hy10⟩) ?rest10
             case hy10 => (intro w2 hSw; first | (apply neq_wide; rfl; rfl; rfl) | (apply neq_inst; rfl; rfl; rfl) | (apply neq_dur; rfl; rfl; rfl))
             try simp only [Act.put, List.setIfInBounds_toArray, List.set_cons_zero, List.set_cons_succ]
             refine plan_yes (v := ?v11) (by simp only [List.getElem?_toArray, List.getElem?_cons_zero, List.getElem?_cons_succ]; exact rfl) (Or.inl ⟨by as_aux_lemma => rfl, ?hy11⟩) ?rest11
             case hy11 => (intro w2 hSw; (try dsimp only at hSw); go_simp; try with_reducible rfl)
             try simp only [Act.put, List.setIfInBounds_toArray, List.set_cons_zero, List.set_cons_succ]
             refine plan_yes (v := ?v12) (by simp only [List.getElem?_toArray, List.getElem?_cons_zero, List.getElem?_cons_succ]; exact rfl) (Or.inl ⟨by as_aux_lemma => rfl, ?hy12⟩) ?rest12
             case hy12 => (intro w2 hSw; (try dsimp only at hSw); go_simp; try with_reducible rfl)
             try simp only [Act.put, List.setIfInBounds_toArray, List.set_cons_zero, List.set_cons_succ]
             refine plan_done (NoPanic.normal ?_)
             have B0 := Y1.out
             have BW := Lib.hid (HB0.out.trans (B0.mono zW0))
             replace X1 := Lib.hid (row_call B0 X1.out)
             replace U1 := Lib.hid (row_call B0 U1.out)
             replace S1 := Lib.hid (row_call B0 S1.out)
             replace T1 := Lib.hid (row_call B0 T1.out)
             replace I1 := Lib.hid (row_call B0 I1.out)
             replace J1 := Lib.hid (row_call B0 J1.out)
             have B23 := BW
             clear BW B0 hk0 hk1 hk2 hk3 hk4 hk5 hk6 hk7 hk8 hk9 zX1 zU1 zS1 zT1 zI1 zJ1 Y0 Y1
             obtain ⟨V23, rfl⟩ : ∃ V, V = Y1w := ⟨_, rfl⟩
             have X1_0 : V23.cell? ⟨w.heap.size, 0, none⟩ = some (.int .u64 xh) := cell_of_row _ _ _ _ _ _ X1.out
             have X1_1 : V23.cell? ⟨w.heap.size, 1, none⟩ = some (.int .u64 xl) := cell_of_row _ _ _ _ _ _ X1.out
             have zX1 := lt_of_heap X1.out
             have U1_0 : V23.cell? ⟨w.heap.size + 1, 0, none⟩ = some (.int .u64 yh) := cell_of_row _ _ _ _ _ _ U1.out
             have U1_1 : V23.cell? ⟨w.heap.size + 1, 1, none⟩ = some (.int .u64 yl) := cell_of_row _ _ _ _ _ _ U1.out
             have zU1 := lt_of_heap U1.out
             have S1_0 : V23.cell? ⟨w.heap.size + 1 + 1, m, none⟩ = some (.int .i64 m) := (cell_of_row _ _ _ _ _ _ S1.out).trans e1
             have zS1 := lt_of_heap S1.out
             have T1_0 : V23.cell? ⟨w.heap.size + 1 + 1 + 1, m, none⟩ = some (.int .i64 t) := (cell_of_row _ _ _ _ _ _ T1.out).trans e2
             have zT1 := lt_of_heap T1.out
             have I1_0 : V23.cell? ⟨gI1, 0, none⟩ = some (.int .u64 vh) := cell_of_row _ _ _ _ _ _ I1.out
             have I1_1 : V23.cell? ⟨gI1, 1, none⟩ = some (.int .u64 vl) := cell_of_row _ _ _ _ _ _ I1.out
             have zI1 := lt_of_heap I1.out
             have J1_0 : V23.cell? ⟨gJ1, 0, none⟩ = some (.int .u64 wh) := cell_of_row _ _ _ _ _ _ J1.out
             have J1_1 : V23.cell? ⟨gJ1, 1, none⟩ = some (.int .u64 wl) := cell_of_row _ _ _ _ _ _ J1.out
             have zJ1 := lt_of_heap J1.out
             go_simp
             go_wp2
             exact ⟨⟨m + 1, by omega, by rw [show ((m + 1 : Nat) : Int) = (m : Int) + 1 by omega], X1.out, U1.out, S1.out, T1.out, B23.out⟩, by simp [intOf]; omega⟩
          · subst hE2
            
            obtain ⟨W0, hW0⟩ : ∃ W0, W0 = V22 := ⟨_, rfl⟩
            replace X1 := Lib.hid (row_by hW0 X1.out)
            replace U1 := Lib.hid (row_by hW0 U1.out)
            replace S1 := Lib.hid (row_by hW0 S1.out)
            replace T1 := Lib.hid (row_by hW0 T1.out)
            replace I1 := Lib.hid (row_by hW0 I1.out)
            replace J1 := Lib.hid (row_by hW0 J1.out)
            clear X1_0 X1_1 zX1 U1_0 U1_1 zU1 S1_0 zS1 T1_0 zT1 I1_0 I1_1 zI1 J1_0 J1_1 zJ1
            have X1_0 : W0.cell? ⟨w.heap.size, 0, none⟩ = some (.int .u64 xh) := cell_of_row _ _ _ _ _ _ X1.out
            have X1_1 : W0.cell? ⟨w.heap.size, 1, none⟩ = some (.int .u64 xl) := cell_of_row _ _ _ _ _ _ X1.out
            have zX1 := lt_of_heap X1.out
            have U1_0 : W0.cell? ⟨w.heap.size + 1, 0, none⟩ = some (.int .u64 yh) := cell_of_row _ _ _ _ _ _ U1.out
            have U1_1 : W0.cell? ⟨w.heap.size + 1, 1, none⟩ = some (.int .u64 yl) := cell_of_row _ _ _ _ _ _ U1.out
            have zU1 := lt_of_heap U1.out
            have S1_0 : W0.cell? ⟨w.heap.size + 1 + 1, m, none⟩ = some (.int .i64 m) := (cell_of_row _ _ _ _ _ _ S1.out).trans e1
            have zS1 := lt_of_heap S1.out
            have T1_0 : W0.cell? ⟨w.heap.size + 1 + 1 + 1, m, none⟩ = some (.int .i64 t) := (cell_of_row _ _ _ _ _ _ T1.out).trans e2
            have zT1 := lt_of_heap T1.out
            have I1_0 : W0.cell? ⟨gI1, 0, none⟩ = some (.int .u64 vh) := cell_of_row _ _ _ _ _ _ I1.out
            have I1_1 : W0.cell? ⟨gI1, 1, none⟩ = some (.int .u64 vl) := cell_of_row _ _ _ _ _ _ I1.out
            have zI1 := lt_of_heap I1.out
            have J1_0 : W0.cell? ⟨gJ1, 0, none⟩ = some (.int .u64 wh) := cell_of_row _ _ _ _ _ _ J1.out
            have J1_1 : W0.cell? ⟨gJ1, 1, none⟩ = some (.int .u64 wl) := cell_of_row _ _ _ _ _ _ J1.out
            have zJ1 := lt_of_heap J1.out
            have HB0 := Lib.hid (below_by hW0 (B22.out))
            have zW0 := HB0.out.size
            have HW0 := Lib.hid hW0
            clear hW0
            try go_simp
            rw [← HW0.out]
            have hk0 : ∀ w2, Below W0.heap.size W0 w2 → w2.cell? ⟨w.heap.size, 0, none⟩ = some (.int .u64 xh) := fun w2 hb => (by rw [hb.cell (p := ⟨w.heap.size, 0, none⟩) (by assumption)]; assumption)
            have hk1 : ∀ w2, Below W0.heap.size W0 w2 → w2.cell? ⟨w.heap.size, 1, none⟩ = some (.int .u64 xl) := fun w2 hb => (by rw [hb.cell (p := ⟨w.heap.size, 1, none⟩) (by assumption)]; assumption)
            have hk2 : ∀ w2, Below W0.heap.size W0 w2 → w2.cell? ⟨w.heap.size + 1, 0, none⟩ = some (.int .u64 yh) := fun w2 hb => (by rw [hb.cell (p := ⟨w.heap.size + 1, 0, none⟩) (by assumption)]; assumption)
            have hk3 : ∀ w2, Below W0.heap.size W0 w2 → w2.cell? ⟨w.heap.size + 1, 1, none⟩ = some (.int .u64 yl) := fun w2 hb => (by rw [hb.cell (p := ⟨w.heap.size + 1, 1, none⟩) (by assumption)]; assumption)
            have hk4 : ∀ w2, Below W0.heap.size W0 w2 → w2.cell? ⟨w.heap.size + 1 + 1, m, none⟩ = some (.int .i64 m) := fun w2 hb => (by rw [hb.cell (p := ⟨w.heap.size + 1 + 1, m, none⟩) (by assumption)]; assumption)
            have hk5 : ∀ w2, Below W0.heap.size W0 w2 → w2.cell? ⟨w.heap.size + 1 + 1 + 1, m, none⟩ = some (.int .i64 t) := fun w2 hb => (by rw [hb.cell (p := ⟨w.heap.size + 1 + 1 + 1, m, none⟩) (by assumption)]; assumption)
            have hk6 : ∀ w2, Below W0.heap.size W0 w2 → w2.cell? ⟨gI1, 0, none⟩ = some (.int .u64 vh) := fun w2 hb => (by rw [hb.cell (p := ⟨gI1, 0, none⟩) (by assumption)]; assumption)
            have hk7 : ∀ w2, Below W0.heap.size W0 w2 → w2.cell? ⟨gI1, 1, none⟩ = some (.int .u64 vl) := fun w2 hb => (by rw [hb.cell (p := ⟨gI1, 1, none⟩) (by assumption)]; assumption)
            have hk8 : ∀ w2, Below W0.heap.size W0 w2 → w2.cell? ⟨gJ1, 0, none⟩ = some (.int .u64 wh) := fun w2 hb => (by rw [hb.cell (p := ⟨gJ1, 0, none⟩) (by assumption)]; assumption)
            have hk9 : ∀ w2, Below W0.heap.size W0 w2 → w2.cell? ⟨gJ1, 1, none⟩ = some (.int .u64 wl) := fun w2 hb => (by rw [hb.cell (p := ⟨gJ1, 1, none⟩) (by assumption)]; assumption)
            clear X1_0 X1_1 U1_0 U1_1 S1_0 T1_0 I1_0 I1_1 J1_0 J1_1
            refine region_plan (S := fun w2 => Below W0.heap.size W0 w2) [(0, true), (1, true), (2, true), (3, true), (4, true), (5, true), (6, true), (7, true), (9, true), (8, true), (10, true), (11, true), (12, true)] (by as_aux_lemma => kernel_rfl) (by as_aux_lemma => kernel_rfl) (by as_aux_lemma => kernel_rfl) (by as_aux_lemma => kernel_rfl) (Below.refl W0.heap.size W0).drew ?_
            have Y0 := Lib.hid (Below.refl W0.heap.size W0).drew
            refine plan_yes (v := ?v1_2) (by simp only [List.getElem?_toArray, List.getElem?_cons_zero, List.getElem?_cons_succ]; exact rfl) (Or.inl ⟨by as_aux_lemma => rfl, ?hy1_2⟩) ?rest1_2
            case hy1_2 => (intro w2 hSw; (try dsimp only at hSw); go_simp; try with_reducible rfl)
            try simp only [Act.put, List.setIfInBounds_toArray, List.set_cons_zero, List.set_cons_succ]
            refine plan_yes (v := ?v2_2) (by simp only [List.getElem?_toArray, List.getElem?_cons_zero, List.getElem?_cons_succ]; exact rfl) (Or.inl ⟨by as_aux_lemma => rfl, ?hy2_2⟩) ?rest2_2
            case hy2_2 => (intro w2 hSw; (try dsimp only at hSw); go_simp; try with_reducible rfl)
            try simp only [Act.put, List.setIfInBounds_toArray, List.set_cons_zero, List.set_cons_succ]
            refine plan_yes (v := ?v3_2) (by simp only [List.getElem?_toArray, List.getElem?_cons_zero, List.getElem?_cons_succ]; exact rfl) (Or.inl ⟨by as_aux_lemma => rfl, ?hy3_2⟩) ?rest3_2
            case hy3_2 => (intro w2 hSw; (try dsimp only at hSw); go_simp; try with_reducible rfl)
            try simp only [Act.put, List.setIfInBounds_toArray, List.set_cons_zero, List.set_cons_succ]
            refine plan_yes (v := ?v4_2) (by simp only [List.getElem?_toArray, List.getElem?_cons_zero, List.getElem?_cons_succ]; exact rfl) (Or.inl ⟨by as_aux_lemma => rfl, ?hy4_2⟩) ?rest4_2
            case hy4_2 => (intro w2 hSw; (try dsimp only at hSw); go_simp; try with_reducible rfl)
            try simp only [Act.put, List.setIfInBounds_toArray, List.set_cons_zero, List.set_cons_succ]
            refine plan_yes (v := ?v5_2) (by simp only [List.getElem?_toArray, List.getElem?_cons_zero, List.getElem?_cons_succ]; exact rfl) (Or.inl ⟨by as_aux_lemma => rfl, ?hy5_2⟩) ?rest5_2
            case hy5_2 => (intro w2 hSw; (try dsimp only at hSw); go_simp; try with_reducible rfl)
            try simp only [Act.put, List.setIfInBounds_toArray, List.set_cons_zero, List.set_cons_succ]
            refine plan_yes (v := ?v6_2) (by simp only [List.getElem?_toArray, List.getElem?_cons_zero, List.getElem?_cons_succ]; exact rfl) (Or.inl ⟨by as_aux_lemma => rfl, ?hy6_2⟩) ?rest6_2
            case hy6_2 => (intro w2 hSw; (try dsimp only at hSw); go_simp; try with_reducible rfl)
            try simp only [Act.put, List.setIfInBounds_toArray, List.set_cons_zero, List.set_cons_succ]
            refine plan_yes (v := ?v7_2) (by simp only [List.getElem?_toArray, List.getElem?_cons_zero, List.getElem?_cons_succ]; exact rfl) (Or.inl ⟨by as_aux_lemma => rfl, ?hy7_2⟩) ?rest7_2
            case hy7_2 => (intro w2 hSw; (try dsimp only at hSw); go_simp; try with_reducible rfl)
            try simp only [Act.put, List.setIfInBounds_toArray, List.set_cons_zero, List.set_cons_succ]
            refine plan_yes (v := undef) (by simp only [List.getElem?_toArray, List.getElem?_cons_zero, List.getElem?_cons_succ]; exact rfl) (Or.inr ⟨by as_aux_lemma => rfl, rfl⟩) ?_
            try simp only [Act.put, List.setIfInBounds_toArray, List.set_cons_zero, List.set_cons_succ]
            refine plan_yes (v := undef) (by simp only [List.getElem?_toArray, List.getElem?_cons_zero, List.getElem?_cons_succ]; exact rfl) (Or.inr ⟨by as_aux_lemma => rfl, rfl⟩) ?_
            try simp only [Act.put, List.setIfInBounds_toArray, List.set_cons_zero, List.set_cons_succ]
            refine plan_yes (v := undef) (by simp only [List.getElem?_toArray, List.getElem?_cons_zero, List.getElem?_cons_succ]; exact rfl) (Or.inr ⟨by as_aux_lemma => rfl, rfl⟩) ?_
            try simp only [Act.put, List.setIfInBounds_toArray, List.set_cons_zero, List.set_cons_succ]
            refine plan_yes (v := undef) (by simp only [List.getElem?_toArray, List.getElem?_cons_zero, List.getElem?_cons_succ]; exact rfl) (Or.inr ⟨by as_aux_lemma => rfl, rfl⟩) ?_
            try simp only [Act.put, List.setIfInBounds_toArray, List.set_cons_zero, List.set_cons_succ]
            refine plan_yes (v := ?v8_2) (by simp only [List.getElem?_toArray, List.getElem?_cons_zero, List.getElem?_cons_succ]; exact rfl) (Or.inl ⟨by as_aux_lemma => rfl, ?hy8_2⟩) ?rest8_2
            case hy8_2 => (intro w2 hSw; (try dsimp only at hSw); go_simp; try with_reducible rfl)
            try simp only [Act.put, List.setIfInBounds_toArray, List.set_cons_zero, List.set_cons_succ]
            refine plan_yes (v := ?v9_2) (by simp only [List.getElem?_toArray, List.getElem?_cons_zero, List.getElem?_cons_succ]; exact rfl) (Or.inl ⟨by as_aux_lemma => rfl, ?hy9_2⟩) ?rest9_2
            case hy9_2 => (intro w2 hSw; (try dsimp only at hSw); go_simp; try with_reducible rfl)
            try simp only [Act.put, List.setIfInBounds_toArray, List.set_cons_zero, List.set_cons_succ]
            refine plan_done (NoPanic.normal ?_)
            have B0 := Y0.out
            have BW := Lib.hid (HB0.out.trans (B0.mono zW0))
            replace X1 := Lib.hid (row_call B0 X1.out)
            replace U1 := Lib.hid (row_call B0 U1.out)
            replace S1 := Lib.hid (row_call B0 S1.out)
            replace T1 := Lib.hid (row_call B0 T1.out)
            replace I1 := Lib.hid (row_call B0 I1.out)
            replace J1 := Lib.hid (row_call B0 J1.out)
            have B23 := BW
            clear BW B0 hk0 hk1 hk2 hk3 hk4 hk5 hk6 hk7 hk8 hk9 zX1 zU1 zS1 zT1 zI1 zJ1 Y0
            generalize W0.drew = V23 at *
            have X1_0 : V23.cell? ⟨w.heap.size, 0, none⟩ = some (.int .u64 xh) := cell_of_row _ _ _ _ _ _ X1.out
            have X1_1 : V23.cell? ⟨w.heap.size, 1, none⟩ = some (.int .u64 xl) := cell_of_row _ _ _ _ _ _ X1.out
            have zX1 := lt_of_heap X1.out
            have U1_0 : V23.cell? ⟨w.heap.size + 1, 0, none⟩ = some (.int .u64 yh) := cell_of_row _ _ _ _ _ _ U1.out
            have U1_1 : V23.cell? ⟨w.heap.size + 1, 1, none⟩ = some (.int .u64 yl) := cell_of_row _ _ _ _ _ _ U1.out
            have zU1 := lt_of_heap U1.out
            have S1_0 : V23.cell? ⟨w.heap.size + 1 + 1, m, none⟩ = some (.int .i64 m) := (cell_of_row _ _ _ _ _ _ S1.out).trans e1
            have zS1 := lt_of_heap S1.out
            have T1_0 : V23.cell? ⟨w.heap.size + 1 + 1 + 1, m, none⟩ = some (.int .i64 t) := (cell_of_row _ _ _ _ _ _ T1.out).trans e2
            have zT1 := lt_of_heap T1.out
            have I1_0 : V23.cell? ⟨gI1, 0, none⟩ = some (.int .u64 vh) := cell_of_row _ _ _ _ _ _ I1.out
            have I1_1 : V23.cell? ⟨gI1, 1, none⟩ = some (.int .u64 vl) := cell_of_row _ _ _ _ _ _ I1.out
            have zI1 := lt_of_heap I1.out
            have J1_0 : V23.cell? ⟨gJ1, 0, none⟩ = some (.int .u64 wh) := cell_of_row _ _ _ _ _ _ J1.out
            have J1_1 : V23.cell? ⟨gJ1, 1, none⟩ = some (.int .u64 wl) := cell_of_row _ _ _ _ _ _ J1.out
            have zJ1 := lt_of_heap J1.out
            go_simp
            go_wp2
            exact ⟨⟨m + 1, by omega, by rw [show ((m + 1 : Nat) : Int) = (m : Int) + 1 by omega], X1.out, U1.out, S1.out, T1.out, B23.out⟩, by simp [intOf]; omega⟩
    · obtain rfl : m = 9 := by omega
      
      go_wp2_with fail
      refine (HK.out _).mono ?_
      rintro e V21 ⟨rfl, hb21⟩
      have B21 : Hid (Below w.heap.size w V21) := by first | exact Lib.hid ((B20.out).trans (hb21.mono (by have := B20.out.size; first | assumption | (simp <;> omega) | (simp; done)))) | exact Lib.hid (((B20.out).alloc (B20.out.size) _).trans (hb21.mono (by have := B20.out.size; first | assumption | (simp <;> omega) | (simp; done)))) | exact Lib.hid ((((B20.out).alloc (B20.out.size) _).alloc (by have := B20.out.size; simp <;> omega) _).trans (hb21.mono (by have := B20.out.size; first | assumption | (simp <;> omega) | (simp; done)))) | exact Lib.hid (((((B20.out).alloc (B20.out.size) _).alloc (by have := B20.out.size; simp <;> omega) _).alloc (by have := B20.out.size; simp <;> omega) _).trans (hb21.mono (by have := B20.out.size; first | assumption | (simp <;> omega) | (simp; done))))
      clear hb21
      go_simp
      go_wp2
      go_ret
      exact ⟨rfl, by first | exact B21.out | exact B21.out.alloc B21.out.size _⟩
theorem roundTurns_walk (h l p q : Nat) (u : U h) (v : U l) (u2 : U p) (v2 : U q) (w : World) :
    Calls Try.prog 7 #[.agg #[.int .u64 h, .int .u64 l], .agg #[.int .u64 p, .int .u64 q]] w fun e w' => e = .returned (.bool true) ∧ Below w.heap.size w w' := by
  obtain ⟨x, ix, rfl, rfl⟩ : ∃ x, in128 x ∧ zh x = h ∧ zl x = l := ⟨sz h l, sz_in h l u v, zh_sz h l u v, zl_sz h l u v⟩
  obtain ⟨y, iy, rfl, rfl⟩ : ∃ y, in128 y ∧ zh y = p ∧ zl y = q := ⟨sz p q, sz_in p q u2 v2, zh_sz p q u2 v2, zl_sz p q u2 v2⟩
  have XN := rNeg_any x
  rw [(opp_z x).1, (opp_z x).2] at XN
  refine turns_of _ _ _ _ _ _ (fun m => rwE x y m) (fun m => rwV x y m) w (fun m h => ?_) (Lib.hid XN) (Lib.hid (fun m h w => roundWide_any x y m ix iy w)) (Lib.hid (fun m h w => ?_)) (Lib.hid awake5_any)
  · cases hb : badW x y m
    · left; exact (rw_ok hb).2
    · right; exact (rw_bad hb).2
  · have X := roundWide_any (opp x) y (turnI m) (opp_in ix) iy w
    rw [(opp_round x y m h).1, (opp_round x y m h).2] at X
    exact X
end Go.Proofs.Ytlfbiidnfheelaa
