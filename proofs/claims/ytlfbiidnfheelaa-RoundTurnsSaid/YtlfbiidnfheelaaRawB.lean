/- The walks of the laws of layer 5. -/
import Derived.Test.YtlfbiidnfheelaaRpkF
import Derived.Test.YtlfbiidnfheelaaRawA
namespace Go.Proofs.Ytlfbiidnfheelaa
set_option linter.unusedVariables false
set_option linter.unusedSimpArgs false
open Go.ChangeShapes Go.WideShapes Go.ChangeAt Go.RowKit

theorem ten_zhl : zh 10 = 0 ∧ zl 10 = 10 := by decide +kernel
theorem want_round (m : Nat) (h : m < 9) : rwV (-15) 10 m = wantI m ∧ rwE (-15) 10 m = 0 := by
  have hm : m = 0 ∨ m = 1 ∨ m = 2 ∨ m = 3 ∨ m = 4 ∨ m = 5 ∨ m = 6 ∨ m = 7 ∨ m = 8 := by omega
  rcases hm with rfl | rfl | rfl | rfl | rfl | rfl | rfl | rfl | rfl <;> decide +kernel
theorem awake5_any (w : World) : Calls Try.prog 10 #[] w fun e w' => e = .returned (.bool true) ∧ Below w.heap.size w w' := by
  have XO := rOf_any (-15) (by unfold in64; omega)
  have XW : ∀ m : Nat, m < 9 → ∀ w, Calls Try.prog 8 #[.agg #[.int .u64 (zh (-15)), .int .u64 (zl (-15))], .agg #[.int .u64 0, .int .u64 10], .int .i64 m] w fun e w' => e = .returned (.tuple #[.agg #[.int .u64 (zh (wantI m)), .int .u64 (zl (wantI m))], .int .i64 0]) ∧ Below w.heap.size w w' := fun m h w => by
    have X := roundWide_any (-15) 10 m (by unfold in128; omega) (by unfold in128; omega) w
    rw [(want_round m h).1, (want_round m h).2, ten_zhl.1, ten_zhl.2] at X
    exact X
  have XI := iRound_any (-1) 999999999 1 0 1 (by unfold in64; omega) (by unfold in64; omega)
  rw [show tpS (fsI (ckI (-1) 999999999) (agE 1 0 1)) (rwV (nanos (-1) 999999999) (nanos 1 0) 1) = 0 by decide +kernel, show tpN (fsI (ckI (-1) 999999999) (agE 1 0 1)) (rwV (nanos (-1) 999999999) (nanos 1 0) 1) = 0 by decide +kernel, show tpE (fsI (ckI (-1) 999999999) (agE 1 0 1)) (rwV (nanos (-1) 999999999) (nanos 1 0) 1) = 0 by decide +kernel] at XI
  have XD := dRound_any 0 0 0 0 0 (by unfold in64; omega) (by unfold in64; omega)
  rw [show dpS (fsI (ckD 0 0) (agE 0 0 0)) (rwV (nanos 0 0) (nanos 0 0) 0) = 0 by decide +kernel, show dpN (fsI (ckD 0 0) (agE 0 0 0)) (rwV (nanos 0 0) (nanos 0 0) 0) = 0 by decide +kernel, show dpE (fsI (ckD 0 0) (agE 0 0 0)) (rwV (nanos 0 0) (nanos 0 0) 0) = 5 by decide +kernel] at XD
  exact awake5_of _ _ w (Lib.hid XO) (Lib.hid XW) (Lib.hid (fun m w => rOf_any (wantI m) (by unfold wantI in64; split <;> omega) w)) (Lib.hid XI) (Lib.hid XD)
set_option maxHeartbeats 3200000 in
set_option maxRecDepth 100000 in
theorem roundWides_walk (h l p q : Nat) (m : Int) (u : U h) (v : U l) (u2 : U p) (v2 : U q) (bm : in64 m) (w : World) :
    Calls Try.prog 3 #[.agg #[.int .u64 h, .int .u64 l], .agg #[.int .u64 p, .int .u64 q], .int .i64 m] w fun e w' => e = .returned (.bool true) ∧ Below w.heap.size w w' := by
  obtain ⟨x, ix, rfl, rfl⟩ : ∃ x, in128 x ∧ zh x = h ∧ zl x = l := ⟨sz h l, sz_in h l u v, zh_sz h l u v, zl_sz h l u v⟩
  obtain ⟨y, iy, rfl, rfl⟩ : ∃ y, in128 y ∧ zh y = p ∧ zl y = q := ⟨sz p q, sz_in p q u2 v2, zh_sz p q u2 v2, zl_sz p q u2 v2⟩
  have H1 := Lib.hid (roundWide_any x y m ix iy)
  have H2 := Lib.hid (rwWide_any x y m ix iy)
  have H5 := Lib.hid awake5_any
  clear ix iy u v u2 v2 bm
  generalize rwV x y m = V at *
  generalize rwE x y m = E at *
  go_enter Try.func3, Try.ntmps3
  go_wp2_with fail
  
  refine (H1.out _).mono ?_
  rintro e V1 ⟨rfl, hb1⟩
  have B1 := Lib.hid ((((Below.refl w.heap.size w).alloc (Nat.le_refl _) _).alloc (by simp <;> omega) _).trans (hb1.mono (by first | assumption | (simp <;> omega) | (simp; done))))
  have A1 := Lib.hid (row_call hb1 (row_alloc (heap_alloc_new _ _) _))
  have D1 := Lib.hid (row_at (k' := w.heap.size + 1) (by simp) (row_call hb1 (heap_alloc_new _ _)))
  clear hb1
  have A1_0 : V1.cell? ⟨w.heap.size, 0, none⟩ = some (.int .u64 (zh x)) := cell_of_row _ _ _ _ _ _ A1.out
  have A1_1 : V1.cell? ⟨w.heap.size, 1, none⟩ = some (.int .u64 (zl x)) := cell_of_row _ _ _ _ _ _ A1.out
  have D1_0 : V1.cell? ⟨w.heap.size + 1, 0, none⟩ = some (.int .u64 (zh y)) := cell_of_row _ _ _ _ _ _ D1.out
  have D1_1 : V1.cell? ⟨w.heap.size + 1, 1, none⟩ = some (.int .u64 (zl y)) := cell_of_row _ _ _ _ _ _ D1.out
  have zA1 := lt_of_heap A1.out
  have zD1 := lt_of_heap D1.out
  go_simp
  go_wp2_with fail
  refine (H2.out _).mono ?_
  rintro e V2 ⟨rfl, hb2⟩
  clear A1_0 A1_1 zA1 D1_0 D1_1 zD1
  have nA1I1 := Lib.hid (lt_of_heap A1.out)
  have nD1I1 := Lib.hid (lt_of_heap D1.out)
  have B2 := Lib.hid (((B1.out).alloc (B1.out.size) _).trans (hb2.mono (by have := B1.out.size; first | assumption | (simp <;> omega) | (simp; done))))
  replace A1 := Lib.hid (row_call hb2 (row_alloc A1.out _))
  replace D1 := Lib.hid (row_call hb2 (row_alloc D1.out _))
  have I1 := Lib.hid (row_call hb2 (heap_alloc_new _ _))
  clear hb2
  have A1_0 : V2.cell? ⟨w.heap.size, 0, none⟩ = some (.int .u64 (zh x)) := cell_of_row _ _ _ _ _ _ A1.out
  have A1_1 : V2.cell? ⟨w.heap.size, 1, none⟩ = some (.int .u64 (zl x)) := cell_of_row _ _ _ _ _ _ A1.out
  have D1_0 : V2.cell? ⟨w.heap.size + 1, 0, none⟩ = some (.int .u64 (zh y)) := cell_of_row _ _ _ _ _ _ D1.out
  have D1_1 : V2.cell? ⟨w.heap.size + 1, 1, none⟩ = some (.int .u64 (zl y)) := cell_of_row _ _ _ _ _ _ D1.out
  have I1_0 : V2.cell? ⟨V1.heap.size, 0, none⟩ = some (.int .u64 (zh V)) := cell_of_row _ _ _ _ _ _ I1.out
  have I1_1 : V2.cell? ⟨V1.heap.size, 1, none⟩ = some (.int .u64 (zl V)) := cell_of_row _ _ _ _ _ _ I1.out
  have zA1 := lt_of_heap A1.out
  have zD1 := lt_of_heap D1.out
  have zI1 := lt_of_heap I1.out
  go_simp
  go_wp2_with fail
  refine (H5.out _).mono ?_
  rintro e V3 ⟨rfl, hb3⟩
  clear A1_0 A1_1 zA1 D1_0 D1_1 zD1 I1_0 I1_1 zI1
  have nA1J1 := Lib.hid (lt_of_heap A1.out)
  have nD1J1 := Lib.hid (lt_of_heap D1.out)
  have nI1J1 := Lib.hid (lt_of_heap I1.out)
  have B3 := Lib.hid (((B2.out).alloc (B2.out.size) _).trans (hb3.mono (by have := B2.out.size; first | assumption | (simp <;> omega) | (simp; done))))
  replace A1 := Lib.hid (row_call hb3 (row_alloc A1.out _))
  replace D1 := Lib.hid (row_call hb3 (row_alloc D1.out _))
  replace I1 := Lib.hid (row_call hb3 (row_alloc I1.out _))
  have J1 := Lib.hid (row_call hb3 (heap_alloc_new _ _))
  clear hb3
  have A1_0 : V3.cell? ⟨w.heap.size, 0, none⟩ = some (.int .u64 (zh x)) := cell_of_row _ _ _ _ _ _ A1.out
  have A1_1 : V3.cell? ⟨w.heap.size, 1, none⟩ = some (.int .u64 (zl x)) := cell_of_row _ _ _ _ _ _ A1.out
  have D1_0 : V3.cell? ⟨w.heap.size + 1, 0, none⟩ = some (.int .u64 (zh y)) := cell_of_row _ _ _ _ _ _ D1.out
  have D1_1 : V3.cell? ⟨w.heap.size + 1, 1, none⟩ = some (.int .u64 (zl y)) := cell_of_row _ _ _ _ _ _ D1.out
  have I1_0 : V3.cell? ⟨V1.heap.size, 0, none⟩ = some (.int .u64 (zh V)) := cell_of_row _ _ _ _ _ _ I1.out
  have I1_1 : V3.cell? ⟨V1.heap.size, 1, none⟩ = some (.int .u64 (zl V)) := cell_of_row _ _ _ _ _ _ I1.out
  have J1_0 : V3.cell? ⟨V2.heap.size, 0, none⟩ = some (.int .u64 (zh V)) := cell_of_row _ _ _ _ _ _ J1.out
  have J1_1 : V3.cell? ⟨V2.heap.size, 1, none⟩ = some (.int .u64 (zl V)) := cell_of_row _ _ _ _ _ _ J1.out
  have zA1 := lt_of_heap A1.out
  have zD1 := lt_of_heap D1.out
  have zI1 := lt_of_heap I1.out
  have zJ1 := lt_of_heap J1.out
  go_simp
  go_wp2
  go_ret
  exact ⟨rfl, by first | exact B3.out | exact B3.out.alloc B3.out.size _⟩
set_option maxHeartbeats 3200000 in
set_option maxRecDepth 100000 in
theorem roundInstants_walk (s n d k m : Int) (bs : in64 s) (bn : in64 n) (bd : in64 d) (bk : in64 k) (bm : in64 m) (w : World) :
    Calls Try.prog 4 #[.agg #[.int .i64 s, .int .i64 n], .agg #[.int .i64 d, .int .i64 k], .int .i64 m] w fun e w' => e = .returned (.bool true) ∧ Below w.heap.size w w' := by
  have H1 := Lib.hid (iRound_any s n d k m bs bn)
  have H2 := Lib.hid (riRound_any s n d k m)
  have H5 := Lib.hid awake5_any
  clear bs bn bd bk bm
  generalize rwV (nanos s n) (nanos d k) m = T at *
  generalize fsI (ckI s n) (agE d k m) = F at *
  generalize tpS F T = S at *
  generalize tpN F T = N at *
  generalize tpE F T = E at *
  go_enter Try.func4, Try.ntmps4
  go_wp2_with fail
  
  refine (H1.out _).mono ?_
  rintro e V1 ⟨rfl, hb1⟩
  have B1 := Lib.hid ((((Below.refl w.heap.size w).alloc (Nat.le_refl _) _).alloc (by simp <;> omega) _).trans (hb1.mono (by first | assumption | (simp <;> omega) | (simp; done))))
  have A1 := Lib.hid (row_call hb1 (row_alloc (heap_alloc_new _ _) _))
  have D1 := Lib.hid (row_at (k' := w.heap.size + 1) (by simp) (row_call hb1 (heap_alloc_new _ _)))
  clear hb1
  have A1_0 : V1.cell? ⟨w.heap.size, 0, none⟩ = some (.int .i64 s) := cell_of_row _ _ _ _ _ _ A1.out
  have A1_1 : V1.cell? ⟨w.heap.size, 1, none⟩ = some (.int .i64 n) := cell_of_row _ _ _ _ _ _ A1.out
  have D1_0 : V1.cell? ⟨w.heap.size + 1, 0, none⟩ = some (.int .i64 d) := cell_of_row _ _ _ _ _ _ D1.out
  have D1_1 : V1.cell? ⟨w.heap.size + 1, 1, none⟩ = some (.int .i64 k) := cell_of_row _ _ _ _ _ _ D1.out
  have zA1 := lt_of_heap A1.out
  have zD1 := lt_of_heap D1.out
  go_simp
  go_wp2_with fail
  refine (H2.out _).mono ?_
  rintro e V2 ⟨rfl, hb2⟩
  clear A1_0 A1_1 zA1 D1_0 D1_1 zD1
  have nA1I1 := Lib.hid (lt_of_heap A1.out)
  have nD1I1 := Lib.hid (lt_of_heap D1.out)
  have B2 := Lib.hid (((B1.out).alloc (B1.out.size) _).trans (hb2.mono (by have := B1.out.size; first | assumption | (simp <;> omega) | (simp; done))))
  replace A1 := Lib.hid (row_call hb2 (row_alloc A1.out _))
  replace D1 := Lib.hid (row_call hb2 (row_alloc D1.out _))
  have I1 := Lib.hid (row_call hb2 (heap_alloc_new _ _))
  clear hb2
  have A1_0 : V2.cell? ⟨w.heap.size, 0, none⟩ = some (.int .i64 s) := cell_of_row _ _ _ _ _ _ A1.out
  have A1_1 : V2.cell? ⟨w.heap.size, 1, none⟩ = some (.int .i64 n) := cell_of_row _ _ _ _ _ _ A1.out
  have D1_0 : V2.cell? ⟨w.heap.size + 1, 0, none⟩ = some (.int .i64 d) := cell_of_row _ _ _ _ _ _ D1.out
  have D1_1 : V2.cell? ⟨w.heap.size + 1, 1, none⟩ = some (.int .i64 k) := cell_of_row _ _ _ _ _ _ D1.out
  have I1_0 : V2.cell? ⟨V1.heap.size, 0, none⟩ = some (.int .i64 S) := cell_of_row _ _ _ _ _ _ I1.out
  have I1_1 : V2.cell? ⟨V1.heap.size, 1, none⟩ = some (.int .i64 N) := cell_of_row _ _ _ _ _ _ I1.out
  have zA1 := lt_of_heap A1.out
  have zD1 := lt_of_heap D1.out
  have zI1 := lt_of_heap I1.out
  go_simp
  go_wp2_with fail
  refine (H5.out _).mono ?_
  rintro e V3 ⟨rfl, hb3⟩
  clear A1_0 A1_1 zA1 D1_0 D1_1 zD1 I1_0 I1_1 zI1
  have nA1J1 := Lib.hid (lt_of_heap A1.out)
  have nD1J1 := Lib.hid (lt_of_heap D1.out)
  have nI1J1 := Lib.hid (lt_of_heap I1.out)
  have B3 := Lib.hid (((B2.out).alloc (B2.out.size) _).trans (hb3.mono (by have := B2.out.size; first | assumption | (simp <;> omega) | (simp; done))))
  replace A1 := Lib.hid (row_call hb3 (row_alloc A1.out _))
  replace D1 := Lib.hid (row_call hb3 (row_alloc D1.out _))
  replace I1 := Lib.hid (row_call hb3 (row_alloc I1.out _))
  have J1 := Lib.hid (row_call hb3 (heap_alloc_new _ _))
  clear hb3
  have A1_0 : V3.cell? ⟨w.heap.size, 0, none⟩ = some (.int .i64 s) := cell_of_row _ _ _ _ _ _ A1.out
  have A1_1 : V3.cell? ⟨w.heap.size, 1, none⟩ = some (.int .i64 n) := cell_of_row _ _ _ _ _ _ A1.out
  have D1_0 : V3.cell? ⟨w.heap.size + 1, 0, none⟩ = some (.int .i64 d) := cell_of_row _ _ _ _ _ _ D1.out
  have D1_1 : V3.cell? ⟨w.heap.size + 1, 1, none⟩ = some (.int .i64 k) := cell_of_row _ _ _ _ _ _ D1.out
  have I1_0 : V3.cell? ⟨V1.heap.size, 0, none⟩ = some (.int .i64 S) := cell_of_row _ _ _ _ _ _ I1.out
  have I1_1 : V3.cell? ⟨V1.heap.size, 1, none⟩ = some (.int .i64 N) := cell_of_row _ _ _ _ _ _ I1.out
  have J1_0 : V3.cell? ⟨V2.heap.size, 0, none⟩ = some (.int .i64 S) := cell_of_row _ _ _ _ _ _ J1.out
  have J1_1 : V3.cell? ⟨V2.heap.size, 1, none⟩ = some (.int .i64 N) := cell_of_row _ _ _ _ _ _ J1.out
  have zA1 := lt_of_heap A1.out
  have zD1 := lt_of_heap D1.out
  have zI1 := lt_of_heap I1.out
  have zJ1 := lt_of_heap J1.out
  go_simp
  go_wp2
  go_ret
  exact ⟨rfl, by first | exact B3.out | exact B3.out.alloc B3.out.size _⟩
set_option maxHeartbeats 3200000 in
set_option maxRecDepth 100000 in
theorem roundDurs_walk (s n d k m : Int) (bs : in64 s) (bn : in64 n) (bd : in64 d) (bk : in64 k) (bm : in64 m) (w : World) :
    Calls Try.prog 5 #[.agg #[.int .i64 s, .int .i64 n], .agg #[.int .i64 d, .int .i64 k], .int .i64 m] w fun e w' => e = .returned (.bool true) ∧ Below w.heap.size w w' := by
  have H1 := Lib.hid (dRound_any s n d k m bs bn)
  have H2 := Lib.hid (rdRound_any s n d k m)
  have H5 := Lib.hid awake5_any
  clear bs bn bd bk bm
  generalize rwV (nanos s n) (nanos d k) m = T at *
  generalize fsI (ckD s n) (agE d k m) = F at *
  generalize dpS F T = S at *
  generalize dpN F T = N at *
  generalize dpE F T = E at *
  go_enter Try.func5, Try.ntmps5
  go_wp2_with fail
  
  refine (H1.out _).mono ?_
  rintro e V1 ⟨rfl, hb1⟩
  have B1 := Lib.hid ((((Below.refl w.heap.size w).alloc (Nat.le_refl _) _).alloc (by simp <;> omega) _).trans (hb1.mono (by first | assumption | (simp <;> omega) | (simp; done))))
  have A1 := Lib.hid (row_call hb1 (row_alloc (heap_alloc_new _ _) _))
  have D1 := Lib.hid (row_at (k' := w.heap.size + 1) (by simp) (row_call hb1 (heap_alloc_new _ _)))
  clear hb1
  have A1_0 : V1.cell? ⟨w.heap.size, 0, none⟩ = some (.int .i64 s) := cell_of_row _ _ _ _ _ _ A1.out
  have A1_1 : V1.cell? ⟨w.heap.size, 1, none⟩ = some (.int .i64 n) := cell_of_row _ _ _ _ _ _ A1.out
  have D1_0 : V1.cell? ⟨w.heap.size + 1, 0, none⟩ = some (.int .i64 d) := cell_of_row _ _ _ _ _ _ D1.out
  have D1_1 : V1.cell? ⟨w.heap.size + 1, 1, none⟩ = some (.int .i64 k) := cell_of_row _ _ _ _ _ _ D1.out
  have zA1 := lt_of_heap A1.out
  have zD1 := lt_of_heap D1.out
  go_simp
  go_wp2_with fail
  refine (H2.out _).mono ?_
  rintro e V2 ⟨rfl, hb2⟩
  clear A1_0 A1_1 zA1 D1_0 D1_1 zD1
  have nA1I1 := Lib.hid (lt_of_heap A1.out)
  have nD1I1 := Lib.hid (lt_of_heap D1.out)
  have B2 := Lib.hid (((B1.out).alloc (B1.out.size) _).trans (hb2.mono (by have := B1.out.size; first | assumption | (simp <;> omega) | (simp; done))))
  replace A1 := Lib.hid (row_call hb2 (row_alloc A1.out _))
  replace D1 := Lib.hid (row_call hb2 (row_alloc D1.out _))
  have I1 := Lib.hid (row_call hb2 (heap_alloc_new _ _))
  clear hb2
  have A1_0 : V2.cell? ⟨w.heap.size, 0, none⟩ = some (.int .i64 s) := cell_of_row _ _ _ _ _ _ A1.out
  have A1_1 : V2.cell? ⟨w.heap.size, 1, none⟩ = some (.int .i64 n) := cell_of_row _ _ _ _ _ _ A1.out
  have D1_0 : V2.cell? ⟨w.heap.size + 1, 0, none⟩ = some (.int .i64 d) := cell_of_row _ _ _ _ _ _ D1.out
  have D1_1 : V2.cell? ⟨w.heap.size + 1, 1, none⟩ = some (.int .i64 k) := cell_of_row _ _ _ _ _ _ D1.out
  have I1_0 : V2.cell? ⟨V1.heap.size, 0, none⟩ = some (.int .i64 S) := cell_of_row _ _ _ _ _ _ I1.out
  have I1_1 : V2.cell? ⟨V1.heap.size, 1, none⟩ = some (.int .i64 N) := cell_of_row _ _ _ _ _ _ I1.out
  have zA1 := lt_of_heap A1.out
  have zD1 := lt_of_heap D1.out
  have zI1 := lt_of_heap I1.out
  go_simp
  go_wp2_with fail
  refine (H5.out _).mono ?_
  rintro e V3 ⟨rfl, hb3⟩
  clear A1_0 A1_1 zA1 D1_0 D1_1 zD1 I1_0 I1_1 zI1
  have nA1J1 := Lib.hid (lt_of_heap A1.out)
  have nD1J1 := Lib.hid (lt_of_heap D1.out)
  have nI1J1 := Lib.hid (lt_of_heap I1.out)
  have B3 := Lib.hid (((B2.out).alloc (B2.out.size) _).trans (hb3.mono (by have := B2.out.size; first | assumption | (simp <;> omega) | (simp; done))))
  replace A1 := Lib.hid (row_call hb3 (row_alloc A1.out _))
  replace D1 := Lib.hid (row_call hb3 (row_alloc D1.out _))
  replace I1 := Lib.hid (row_call hb3 (row_alloc I1.out _))
  have J1 := Lib.hid (row_call hb3 (heap_alloc_new _ _))
  clear hb3
  have A1_0 : V3.cell? ⟨w.heap.size, 0, none⟩ = some (.int .i64 s) := cell_of_row _ _ _ _ _ _ A1.out
  have A1_1 : V3.cell? ⟨w.heap.size, 1, none⟩ = some (.int .i64 n) := cell_of_row _ _ _ _ _ _ A1.out
  have D1_0 : V3.cell? ⟨w.heap.size + 1, 0, none⟩ = some (.int .i64 d) := cell_of_row _ _ _ _ _ _ D1.out
  have D1_1 : V3.cell? ⟨w.heap.size + 1, 1, none⟩ = some (.int .i64 k) := cell_of_row _ _ _ _ _ _ D1.out
  have I1_0 : V3.cell? ⟨V1.heap.size, 0, none⟩ = some (.int .i64 S) := cell_of_row _ _ _ _ _ _ I1.out
  have I1_1 : V3.cell? ⟨V1.heap.size, 1, none⟩ = some (.int .i64 N) := cell_of_row _ _ _ _ _ _ I1.out
  have J1_0 : V3.cell? ⟨V2.heap.size, 0, none⟩ = some (.int .i64 S) := cell_of_row _ _ _ _ _ _ J1.out
  have J1_1 : V3.cell? ⟨V2.heap.size, 1, none⟩ = some (.int .i64 N) := cell_of_row _ _ _ _ _ _ J1.out
  have zA1 := lt_of_heap A1.out
  have zD1 := lt_of_heap D1.out
  have zI1 := lt_of_heap I1.out
  have zJ1 := lt_of_heap J1.out
  go_simp
  go_wp2
  go_ret
  exact ⟨rfl, by first | exact B3.out | exact B3.out.alloc B3.out.size _⟩
end Go.Proofs.Ytlfbiidnfheelaa
