/- The plain answer of layer 5: the multiple that is not above, bit by bit: its walk. -/
import Derived.Test.YtlfbiidnfheelaaRndB
namespace Go.Proofs.Ytlfbiidnfheelaa
set_option linter.unusedVariables false
set_option linter.unusedSimpArgs false
open Go.ChangeShapes Go.WideShapes Go.ChangeAt Go.RowKit

structure Flw (w : World) (bU bZ bL bG : Nat) (A u k : Nat) (wr : World) : Prop where
  fu : wr.heap[bU]? = some (.cells #[.int .u64 (zh (u : Int)), .int .u64 (zl (u : Int))] 24)
  fz : wr.heap[bZ]? = some (.cells #[.int .u64 0, .int .u64 0] 24)
  fl : wr.heap[bL]? = some (.cells #[.int .u64 (zh (lft A u k : Int)), .int .u64 (zl (lft A u k : Int))] 24)
  fg : wr.heap[bG]? = some (.cells #[.int .u64 (zh (gt A u k : Int)), .int .u64 (zl (gt A u k : Int))] 24)
  fb : Below w.heap.size w wr
def rowX (wr : World) (bX u j : Nat) : Prop := wr.heap[bX]? = some (.cells #[.int .u64 (zh ((u * 2 ^ j : Nat) : Int)), .int .u64 (zl ((u * 2 ^ j : Nat) : Int))] 24)
set_option maxHeartbeats 3200000 in
set_option maxRecDepth 100000 in
theorem rFl_pos (A u : Nat) (hA : A < 170141183460469231731687303715884105728) (hu : 0 < u) (hu2 : u ≤ 1208925819614629174706176) (w : World)
    (H1 : Hid (∀ w, Calls Try.prog 27 #[.agg #[.int .u64 (zh (A : Int)), .int .u64 (zl (A : Int))]] w fun e w' => e = .returned (.bool false) ∧ Below w.heap.size w w')) :
    Calls Try.prog 25 #[.agg #[.int .u64 (zh (A : Int)), .int .u64 (zl (A : Int))], .agg #[.int .u64 (zh (u : Int)), .int .u64 (zl (u : Int))]] w fun e w' => e = .returned (.tuple #[.agg #[.int .u64 (zh (gt A u 0 : Int)), .int .u64 (zl (gt A u 0 : Int))], .bool (evB A u 0)]) ∧ Below w.heap.size w w' := by
  have S0 := Lib.hid (lft_start hA hu)
  have K1 := Lib.hid hA
  have K2 := Lib.hid hu
  have K3 := Lib.hid hu2
  clear hA hu hu2
  go_enter Try.func25, Try.ntmps25
  refine wp_shut ?_
  go_wp2_with fail
  
  refine (H1.out _).mono ?_
  rintro e V1 ⟨rfl, hb1⟩
  have B1 := Lib.hid (((((Below.refl w.heap.size w).alloc (Nat.le_refl _) _).alloc (by simp <;> omega) _).alloc (by simp <;> omega) _).trans (hb1.mono (by first | assumption | (simp <;> omega) | (simp; done))))
  have N1 := Lib.hid (row_call hb1 (row_alloc (row_alloc (heap_alloc_new _ _) _) _))
  have U1 := Lib.hid (row_at (k' := w.heap.size + 1) (by simp) (row_call hb1 (row_alloc (heap_alloc_new _ _) _)))
  have Z1 := Lib.hid (row_at (k' := w.heap.size + 1 + 1) (by simp) (row_call hb1 (heap_alloc_new _ _)))
  clear hb1
  have N1_0 : V1.cell? ⟨w.heap.size, 0, none⟩ = some (.int .u64 (zh (A : Int))) := cell_of_row _ _ _ _ _ _ N1.out
  have N1_1 : V1.cell? ⟨w.heap.size, 1, none⟩ = some (.int .u64 (zl (A : Int))) := cell_of_row _ _ _ _ _ _ N1.out
  have U1_0 : V1.cell? ⟨w.heap.size + 1, 0, none⟩ = some (.int .u64 (zh (u : Int))) := cell_of_row _ _ _ _ _ _ U1.out
  have U1_1 : V1.cell? ⟨w.heap.size + 1, 1, none⟩ = some (.int .u64 (zl (u : Int))) := cell_of_row _ _ _ _ _ _ U1.out
  have Z1_0 : V1.cell? ⟨w.heap.size + 1 + 1, 0, none⟩ = some (.int .u64 0) := cell_of_row _ _ _ _ _ _ Z1.out
  have Z1_1 : V1.cell? ⟨w.heap.size + 1 + 1, 1, none⟩ = some (.int .u64 0) := cell_of_row _ _ _ _ _ _ Z1.out
  have Z1_f0 : V1.frozen? ⟨w.heap.size + 1 + 1, 0, none⟩ = false := by simp [World.frozen?, Z1.out]
  have Z1_f1 : V1.frozen? ⟨w.heap.size + 1 + 1, 1, none⟩ = false := by simp [World.frozen?, Z1.out]
  have zN1 := lt_of_heap N1.out
  have zU1 := lt_of_heap U1.out
  have zZ1 := lt_of_heap Z1.out
  go_simp
  go_wp2_with fail
  have q1 : w.heap.size + 1 + 1 < V1.heap.size := zZ1
  have nN1L1 := Lib.hid (lt_of_heap N1.out)
  have nU1L1 := Lib.hid (lt_of_heap U1.out)
  have nZ1L1 := Lib.hid (lt_of_heap Z1.out)
  have nlZ1L1 : ¬ (w.heap.size + 1 + 1 = V1.heap.size) := Nat.ne_of_lt (lt_of_heap Z1.out)
  have nrZ1L1 : ¬ (V1.heap.size = w.heap.size + 1 + 1) := Ne.symm (Nat.ne_of_lt (lt_of_heap Z1.out))
  have nN1G1 := Lib.hid (lt_of_heap N1.out)
  have nU1G1 := Lib.hid (lt_of_heap U1.out)
  have nZ1G1 := Lib.hid (lt_of_heap Z1.out)
  have nlZ1G1 : ¬ (w.heap.size + 1 + 1 = V1.heap.size) := Nat.ne_of_lt (lt_of_heap Z1.out)
  have nrZ1G1 : ¬ (V1.heap.size = w.heap.size + 1 + 1) := Ne.symm (Nat.ne_of_lt (lt_of_heap Z1.out))
  clear N1_0 N1_1 zN1 U1_0 U1_1 zU1 Z1_0 Z1_1 Z1_f0 Z1_f1 zZ1
  obtain ⟨W0, hW0⟩ : ∃ W0, W0 = ((V1.alloc (Obj.cells #[Value.int .u64 (zh (A : Int)), Value.int .u64 (zl (A : Int))] 24)).alloc (Obj.cells #[Value.int .u64 0, Value.int .u64 0] 24)) := ⟨_, rfl⟩
  replace N1 := Lib.hid (row_by hW0 (row_alloc (row_alloc N1.out _) _))
  replace U1 := Lib.hid (row_by hW0 (row_alloc (row_alloc U1.out _) _))
  replace Z1 := Lib.hid (row_by hW0 (row_alloc (row_alloc Z1.out _) _))
  have L1 := Lib.hid (row_at (k' := V1.heap.size) (by simp) (row_by hW0 (row_alloc (heap_alloc_new _ _) _)))
  have G1 := Lib.hid (row_at (k' := V1.heap.size + 1) (by simp) (row_by hW0 (heap_alloc_new _ _)))
  have HB0 := Lib.hid (below_by hW0 (((B1.out).alloc (by have := B1.out.size; simp <;> omega) _).alloc (by have := B1.out.size; simp <;> omega) _))
  have HW0 := Lib.hid hW0
  clear hW0
  have N1_0 : W0.cell? ⟨w.heap.size, 0, none⟩ = some (.int .u64 (zh (A : Int))) := cell_of_row _ _ _ _ _ _ N1.out
  have N1_1 : W0.cell? ⟨w.heap.size, 1, none⟩ = some (.int .u64 (zl (A : Int))) := cell_of_row _ _ _ _ _ _ N1.out
  have zN1 := lt_of_heap N1.out
  have U1_0 : W0.cell? ⟨w.heap.size + 1, 0, none⟩ = some (.int .u64 (zh (u : Int))) := cell_of_row _ _ _ _ _ _ U1.out
  have U1_1 : W0.cell? ⟨w.heap.size + 1, 1, none⟩ = some (.int .u64 (zl (u : Int))) := cell_of_row _ _ _ _ _ _ U1.out
  have zU1 := lt_of_heap U1.out
  have Z1_0 : W0.cell? ⟨w.heap.size + 1 + 1, 0, none⟩ = some (.int .u64 0) := cell_of_row _ _ _ _ _ _ Z1.out
  have Z1_1 : W0.cell? ⟨w.heap.size + 1 + 1, 1, none⟩ = some (.int .u64 0) := cell_of_row _ _ _ _ _ _ Z1.out
  have Z1_f0 : W0.frozen? ⟨w.heap.size + 1 + 1, 0, none⟩ = false := (by simp [World.frozen?, Z1.out])
  have Z1_f1 : W0.frozen? ⟨w.heap.size + 1 + 1, 1, none⟩ = false := (by simp [World.frozen?, Z1.out])
  have zZ1 := lt_of_heap Z1.out
  have L1_0 : W0.cell? ⟨V1.heap.size, 0, none⟩ = some (.int .u64 (zh (A : Int))) := cell_of_row _ _ _ _ _ _ L1.out
  have L1_1 : W0.cell? ⟨V1.heap.size, 1, none⟩ = some (.int .u64 (zl (A : Int))) := cell_of_row _ _ _ _ _ _ L1.out
  have L1_f0 : W0.frozen? ⟨V1.heap.size, 0, none⟩ = false := (by simp [World.frozen?, L1.out])
  have L1_f1 : W0.frozen? ⟨V1.heap.size, 1, none⟩ = false := (by simp [World.frozen?, L1.out])
  have zL1 := lt_of_heap L1.out
  have G1_0 : W0.cell? ⟨V1.heap.size + 1, 0, none⟩ = some (.int .u64 0) := cell_of_row _ _ _ _ _ _ G1.out
  have G1_1 : W0.cell? ⟨V1.heap.size + 1, 1, none⟩ = some (.int .u64 0) := cell_of_row _ _ _ _ _ _ G1.out
  have G1_f0 : W0.frozen? ⟨V1.heap.size + 1, 0, none⟩ = false := (by simp [World.frozen?, G1.out])
  have G1_f1 : W0.frozen? ⟨V1.heap.size + 1, 1, none⟩ = false := (by simp [World.frozen?, G1.out])
  have zG1 := lt_of_heap G1.out
  try rw [← HW0.out]
  clear HW0 nN1L1 nU1L1 nZ1L1 nN1G1 nU1G1 nZ1G1 N1
  generalize hbG : V1.heap.size + 1 = bG at *
  generalize hbL : V1.heap.size = bL at *
  have q2 : bL < bG := by omega
  clear hbG hbL
  have nL1G1 : Hid (bL < bG) := Lib.hid q2
  have nU1L1 : Hid (w.heap.size + 1 < bL) := Lib.hid (by omega)
  have nU1G1 : Hid (w.heap.size + 1 < bG) := Lib.hid (by omega)
  have nZ1L1 : Hid (w.heap.size + 1 + 1 < bL) := Lib.hid q1
  have nZ1G1 : Hid (w.heap.size + 1 + 1 < bG) := Lib.hid (by omega)
  have hR : Flw w (w.heap.size + 1) (w.heap.size + 1 + 1) bL bG A u 128 W0 := ⟨U1.out, Z1.out, by rw [S0.out.1]; exact L1.out, by rw [S0.out.2.1, show ((0 : Nat) : Int) = 0 from rfl, zh_zero, zl_zero]; exact G1.out, HB0.out⟩
  have HR := Lib.hid hR
  clear hR
  clear N1_0 N1_1 zN1 U1_0 U1_1 zU1 Z1_0 Z1_1 Z1_f0 Z1_f1 zZ1 G1_0 G1_1 G1_f0 G1_f1 zG1 L1_0 L1_1 L1_f0 L1_f1 zL1 nlZ1L1 nrZ1L1 nlZ1G1 nrZ1G1 U1 Z1 L1 G1 HB0 B1 q2
  have d1 : ¬ bL = bG := by have := nL1G1.out; omega
  have d2 : ¬ bG = bL := by have := nL1G1.out; omega
  have d3 : ¬ w.heap.size + 1 = bL := by have := nU1L1.out; omega
  have d4 : ¬ w.heap.size + 1 = bG := by have := nU1G1.out; omega
  have d5 : ¬ w.heap.size + 1 + 1 = bL := by have := nZ1L1.out; omega
  have d6 : ¬ w.heap.size + 1 + 1 = bG := by have := nZ1G1.out; omega
  have D1 := Lib.hid d1
  have D2 := Lib.hid d2
  have D3 := Lib.hid d3
  have D4 := Lib.hid d4
  have D5 := Lib.hid d5
  have D6 := Lib.hid d6
  clear d1 d2 d3 d4 d5 d6
  have HQ1 := Lib.hid q1
  clear q1
  have HM := Lib.hid more_any
  have HL := Lib.hid less_any
  have HC := Lib.hid rcmp_any
  go_loopw [9, 10] (fun s9 s10 wr => ∃ k : Nat, k ≤ 128 ∧ s10 = .int .i64 ((k : Int) - 1) ∧ s9 = .bool (evB A u k) ∧ Flw w (w.heap.size + 1) (w.heap.size + 1 + 1) bL bG A u k wr) (fun _ s10 _ => (intOf s10 + 1).toNat)
  case atStart => exact ⟨128, by omega, by go_num, by rw [S0.out.2.2], HR.out⟩
  case round =>
    obtain ⟨k, hk, rfl, rfl, hX⟩ := hrel
    clear HR S0
    obtain ⟨V20, rfl⟩ : ∃ V, V = wr := ⟨_, rfl⟩
    have U1 := Lib.hid hX.fu
    have Z1 := Lib.hid hX.fz
    have L1 := Lib.hid hX.fl
    have G1 := Lib.hid hX.fg
    have B20 := Lib.hid hX.fb
    clear hX
    by_cases hk0 : 0 < k
    · obtain ⟨i, rfl⟩ : ∃ i, k = i + 1 := ⟨k - 1, by omega⟩
      rw [show ((i + 1 : Nat) : Int) - 1 = (i : Int) by omega, evB_true]
      have hi0 : (0 : Int) ≤ (i : Int) := by omega
      
      have U1_0 : V20.cell? ⟨w.heap.size + 1, 0, none⟩ = some (.int .u64 (zh (u : Int))) := cell_of_row _ _ _ _ _ _ U1.out
      have U1_1 : V20.cell? ⟨w.heap.size + 1, 1, none⟩ = some (.int .u64 (zl (u : Int))) := cell_of_row _ _ _ _ _ _ U1.out
      have zU1 := lt_of_heap U1.out
      have Z1_0 : V20.cell? ⟨w.heap.size + 1 + 1, 0, none⟩ = some (.int .u64 0) := cell_of_row _ _ _ _ _ _ Z1.out
      have Z1_1 : V20.cell? ⟨w.heap.size + 1 + 1, 1, none⟩ = some (.int .u64 0) := cell_of_row _ _ _ _ _ _ Z1.out
      have zZ1 := lt_of_heap Z1.out
      have L1_f0 : V20.frozen? ⟨bL, 0, none⟩ = false := by simp [World.frozen?, L1.out]
      have L1_f1 : V20.frozen? ⟨bL, 1, none⟩ = false := by simp [World.frozen?, L1.out]
      have L1_0 : V20.cell? ⟨bL, 0, none⟩ = some (.int .u64 (zh (lft A u (i + 1) : Int))) := cell_of_row _ _ _ _ _ _ L1.out
      have L1_1 : V20.cell? ⟨bL, 1, none⟩ = some (.int .u64 (zl (lft A u (i + 1) : Int))) := cell_of_row _ _ _ _ _ _ L1.out
      have zL1 := lt_of_heap L1.out
      have G1_f0 : V20.frozen? ⟨bG, 0, none⟩ = false := by simp [World.frozen?, G1.out]
      have G1_f1 : V20.frozen? ⟨bG, 1, none⟩ = false := by simp [World.frozen?, G1.out]
      have G1_0 : V20.cell? ⟨bG, 0, none⟩ = some (.int .u64 (zh (gt A u (i + 1) : Int))) := cell_of_row _ _ _ _ _ _ G1.out
      have G1_1 : V20.cell? ⟨bG, 1, none⟩ = some (.int .u64 (zl (gt A u (i + 1) : Int))) := cell_of_row _ _ _ _ _ _ G1.out
      have zG1 := lt_of_heap G1.out
      go_wp2_with fail
      have nU1X1 := Lib.hid (lt_of_heap U1.out)
      have nZ1X1 := Lib.hid (lt_of_heap Z1.out)
      have nlZ1X1 : ¬ (w.heap.size + 1 + 1 = V20.heap.size) := Nat.ne_of_lt (lt_of_heap Z1.out)
      have nrZ1X1 : ¬ (V20.heap.size = w.heap.size + 1 + 1) := Ne.symm (Nat.ne_of_lt (lt_of_heap Z1.out))
      have nL1X1 := Lib.hid (lt_of_heap L1.out)
      have nlL1X1 : ¬ (bL = V20.heap.size) := Nat.ne_of_lt (lt_of_heap L1.out)
      have nrL1X1 : ¬ (V20.heap.size = bL) := Ne.symm (Nat.ne_of_lt (lt_of_heap L1.out))
      have nG1X1 := Lib.hid (lt_of_heap G1.out)
      have nlG1X1 : ¬ (bG = V20.heap.size) := Nat.ne_of_lt (lt_of_heap G1.out)
      have nrG1X1 : ¬ (V20.heap.size = bG) := Ne.symm (Nat.ne_of_lt (lt_of_heap G1.out))
      clear U1_0 U1_1 zU1 Z1_0 Z1_1 zZ1 L1_f0 L1_f1 L1_0 L1_1 zL1 G1_f0 G1_f1 G1_0 G1_1 zG1
      obtain ⟨W0, hW0⟩ : ∃ W0, W0 = (V20.alloc (Obj.cells #[Value.int .u64 (zh (u : Int)), Value.int .u64 (zl (u : Int))] 24)) := ⟨_, rfl⟩
      replace U1 := Lib.hid (row_by hW0 (row_alloc U1.out _))
      replace Z1 := Lib.hid (row_by hW0 (row_alloc Z1.out _))
      replace L1 := Lib.hid (row_by hW0 (row_alloc L1.out _))
      replace G1 := Lib.hid (row_by hW0 (row_alloc G1.out _))
      have X1 := Lib.hid (row_at (k' := V20.heap.size) (by simp) (row_by hW0 (heap_alloc_new _ _)))
      have HB0 := Lib.hid (below_by hW0 ((B20.out).alloc (by have := B20.out.size; simp <;> omega) _))
      have HW0 := Lib.hid hW0
      clear hW0
      have U1_0 : W0.cell? ⟨w.heap.size + 1, 0, none⟩ = some (.int .u64 (zh (u : Int))) := cell_of_row _ _ _ _ _ _ U1.out
      have U1_1 : W0.cell? ⟨w.heap.size + 1, 1, none⟩ = some (.int .u64 (zl (u : Int))) := cell_of_row _ _ _ _ _ _ U1.out
      have zU1 := lt_of_heap U1.out
      have Z1_0 : W0.cell? ⟨w.heap.size + 1 + 1, 0, none⟩ = some (.int .u64 0) := cell_of_row _ _ _ _ _ _ Z1.out
      have Z1_1 : W0.cell? ⟨w.heap.size + 1 + 1, 1, none⟩ = some (.int .u64 0) := cell_of_row _ _ _ _ _ _ Z1.out
      have Z1_f0 : W0.frozen? ⟨w.heap.size + 1 + 1, 0, none⟩ = false := (by simp [World.frozen?, Z1.out])
      have Z1_f1 : W0.frozen? ⟨w.heap.size + 1 + 1, 1, none⟩ = false := (by simp [World.frozen?, Z1.out])
      have zZ1 := lt_of_heap Z1.out
      have L1_0 : W0.cell? ⟨bL, 0, none⟩ = some (.int .u64 (zh (lft A u (i + 1) : Int))) := cell_of_row _ _ _ _ _ _ L1.out
      have L1_1 : W0.cell? ⟨bL, 1, none⟩ = some (.int .u64 (zl (lft A u (i + 1) : Int))) := cell_of_row _ _ _ _ _ _ L1.out
      have L1_f0 : W0.frozen? ⟨bL, 0, none⟩ = false := (by simp [World.frozen?, L1.out])
      have L1_f1 : W0.frozen? ⟨bL, 1, none⟩ = false := (by simp [World.frozen?, L1.out])
      have zL1 := lt_of_heap L1.out
      have G1_0 : W0.cell? ⟨bG, 0, none⟩ = some (.int .u64 (zh (gt A u (i + 1) : Int))) := cell_of_row _ _ _ _ _ _ G1.out
      have G1_1 : W0.cell? ⟨bG, 1, none⟩ = some (.int .u64 (zl (gt A u (i + 1) : Int))) := cell_of_row _ _ _ _ _ _ G1.out
      have G1_f0 : W0.frozen? ⟨bG, 0, none⟩ = false := (by simp [World.frozen?, G1.out])
      have G1_f1 : W0.frozen? ⟨bG, 1, none⟩ = false := (by simp [World.frozen?, G1.out])
      have zG1 := lt_of_heap G1.out
      have X1_0 : W0.cell? ⟨V20.heap.size, 0, none⟩ = some (.int .u64 (zh (u : Int))) := cell_of_row _ _ _ _ _ _ X1.out
      have X1_1 : W0.cell? ⟨V20.heap.size, 1, none⟩ = some (.int .u64 (zl (u : Int))) := cell_of_row _ _ _ _ _ _ X1.out
      have X1_f0 : W0.frozen? ⟨V20.heap.size, 0, none⟩ = false := (by simp [World.frozen?, X1.out])
      have X1_f1 : W0.frozen? ⟨V20.heap.size, 1, none⟩ = false := (by simp [World.frozen?, X1.out])
      have zX1 := lt_of_heap X1.out
      try rw [← HW0.out]
      clear HW0 U1_0 U1_1 zU1 Z1_0 Z1_1 zZ1 G1_0 G1_1 G1_f0 G1_f1 zG1 L1_0 L1_1 L1_f0 L1_f1 zL1 X1_0 X1_1 X1_f0 X1_f1 zX1 nlL1X1 nrL1X1 nlG1X1 nrG1X1
      have nD1 := Lib.hid (Nat.ne_of_lt nU1X1.out)
      have nD2 := Lib.hid (Nat.ne_of_lt nZ1X1.out)
      have nD3 := Lib.hid (Nat.ne_of_lt nL1X1.out)
      have nD4 := Lib.hid (Nat.ne_of_lt nG1X1.out)
      have hb0 : Hid (w.heap.size ≤ V20.heap.size) := Lib.hid B20.out.size
      go_loopw [12, 13] (fun s12 s13 wr => ∃ j : Nat, j ≤ i ∧ s13 = .int .i64 j ∧ s12 = .bool (fitB u j) ∧ rowX wr V20.heap.size u j ∧ Flw w (w.heap.size + 1) (w.heap.size + 1 + 1) bL bG A u (i + 1) wr) (fun _ s13 _ => (i - intOf s13).toNat)
      case atStart => exact ⟨0, by omega, by go_num, by rw [fitB_zero K3.out], by unfold rowX; rw [Nat.pow_zero, Nat.mul_one]; exact X1.out, U1.out, Z1.out, L1.out, G1.out, HB0.out⟩
      case round =>
        obtain ⟨j, hj, rfl, rfl, hx, hY⟩ := hrel
        clear U1 Z1 L1 G1 X1 HB0
        obtain ⟨V21, rfl⟩ : ∃ V, V = wr := ⟨_, rfl⟩
        have U1 := Lib.hid hY.fu
        have Z1 := Lib.hid hY.fz
        have L1 := Lib.hid hY.fl
        have G1 := Lib.hid hY.fg
        have X1 := Lib.hid hx
        have B21 := Lib.hid hY.fb
        clear hx hY
        unfold rowX at X1
        have no : fitB u i = false → Flw w (w.heap.size + 1) (w.heap.size + 1 + 1) bL bG A u i V21 ∧ true = evB A u i := fun h => by
          obtain ⟨t1, t2, t3⟩ := lft_no K2.out (no_fit K1.out h)
          exact ⟨⟨U1.out, Z1.out, by rw [← t1]; exact L1.out, by rw [← t2]; exact G1.out, B21.out⟩, by rw [← ev_no t3, evB_true]⟩
        have NO := Lib.hid no
        clear no
        by_cases hlt : j < i
        · cases hf : fitB u j
          · have NN := Lib.hid (NO.out (fit_up hf i hj))
            clear hf NO
            go_wp2
            go_roundw
            case rel => exact ⟨i, by omega, rfl, by rw [← NN.out.2], NN.out.1⟩
            case measure => simp [intOf]
          · have X2 := more_any ((u * 2 ^ j : Nat) : Int) ((u * 2 ^ j : Nat) : Int)
            rw [dbl_z] at X2
            have H2 := Lib.hid X2
            have HF := Lib.hid (fitB_step hf)
            clear X2 hf NO
            have X1 : Hid (V21.heap[V20.heap.size]? = some (.cells #[.int .u64 (zh ((u * 2 ^ j : Nat) : Int)), .int .u64 (zl ((u * 2 ^ j : Nat) : Int))] 24)) := X1
            generalize zh ((u * 2 ^ j : Nat) : Int) = xh at *
            generalize zl ((u * 2 ^ j : Nat) : Int) = xl at *
            
            have U1_0 : V21.cell? ⟨w.heap.size + 1, 0, none⟩ = some (.int .u64 (zh (u : Int))) := cell_of_row _ _ _ _ _ _ U1.out
            have U1_1 : V21.cell? ⟨w.heap.size + 1, 1, none⟩ = some (.int .u64 (zl (u : Int))) := cell_of_row _ _ _ _ _ _ U1.out
            have zU1 := lt_of_heap U1.out
            have Z1_0 : V21.cell? ⟨w.heap.size + 1 + 1, 0, none⟩ = some (.int .u64 0) := cell_of_row _ _ _ _ _ _ Z1.out
            have Z1_1 : V21.cell? ⟨w.heap.size + 1 + 1, 1, none⟩ = some (.int .u64 0) := cell_of_row _ _ _ _ _ _ Z1.out
            have zZ1 := lt_of_heap Z1.out
            have L1_f0 : V21.frozen? ⟨bL, 0, none⟩ = false := by simp [World.frozen?, L1.out]
            have L1_f1 : V21.frozen? ⟨bL, 1, none⟩ = false := by simp [World.frozen?, L1.out]
            have L1_0 : V21.cell? ⟨bL, 0, none⟩ = some (.int .u64 (zh (lft A u (i + 1) : Int))) := cell_of_row _ _ _ _ _ _ L1.out
            have L1_1 : V21.cell? ⟨bL, 1, none⟩ = some (.int .u64 (zl (lft A u (i + 1) : Int))) := cell_of_row _ _ _ _ _ _ L1.out
            have zL1 := lt_of_heap L1.out
            have G1_f0 : V21.frozen? ⟨bG, 0, none⟩ = false := by simp [World.frozen?, G1.out]
            have G1_f1 : V21.frozen? ⟨bG, 1, none⟩ = false := by simp [World.frozen?, G1.out]
            have G1_0 : V21.cell? ⟨bG, 0, none⟩ = some (.int .u64 (zh (gt A u (i + 1) : Int))) := cell_of_row _ _ _ _ _ _ G1.out
            have G1_1 : V21.cell? ⟨bG, 1, none⟩ = some (.int .u64 (zl (gt A u (i + 1) : Int))) := cell_of_row _ _ _ _ _ _ G1.out
            have zG1 := lt_of_heap G1.out
            have X1_f0 : V21.frozen? ⟨V20.heap.size, 0, none⟩ = false := by simp [World.frozen?, X1.out]
            have X1_f1 : V21.frozen? ⟨V20.heap.size, 1, none⟩ = false := by simp [World.frozen?, X1.out]
            have X1_0 : V21.cell? ⟨V20.heap.size, 0, none⟩ = some (.int .u64 xh) := cell_of_row _ _ _ _ _ _ X1.out
            have X1_1 : V21.cell? ⟨V20.heap.size, 1, none⟩ = some (.int .u64 xl) := cell_of_row _ _ _ _ _ _ X1.out
            have zX1 := lt_of_heap X1.out
            go_wp2_with fail
            refine (H2.out _).mono ?_
            rintro e V22 ⟨rfl, hb22⟩
            clear U1_0 U1_1 zU1 Z1_0 Z1_1 zZ1 L1_f0 L1_f1 L1_0 L1_1 zL1 G1_f0 G1_f1 G1_0 G1_1 zG1 X1_f0 X1_f1 X1_0 X1_1 zX1
            have B22 : Hid (Below w.heap.size w V22) := by first | exact Lib.hid ((B21.out).trans (hb22.mono (by have := B21.out.size; first | assumption | (simp <;> omega) | (simp; done)))) | exact Lib.hid (((B21.out).alloc (B21.out.size) _).trans (hb22.mono (by have := B21.out.size; first | assumption | (simp <;> omega) | (simp; done)))) | exact Lib.hid ((((B21.out).alloc (B21.out.size) _).alloc (by have := B21.out.size; simp <;> omega) _).trans (hb22.mono (by have := B21.out.size; first | assumption | (simp <;> omega) | (simp; done)))) | exact Lib.hid (((((B21.out).alloc (B21.out.size) _).alloc (by have := B21.out.size; simp <;> omega) _).alloc (by have := B21.out.size; simp <;> omega) _).trans (hb22.mono (by have := B21.out.size; first | assumption | (simp <;> omega) | (simp; done))))
            first | replace U1 := Lib.hid (row_call hb22 U1.out) | replace U1 := Lib.hid (row_call hb22 (row_alloc U1.out _)) | replace U1 := Lib.hid (row_call hb22 (row_alloc (row_alloc U1.out _) _)) | replace U1 := Lib.hid (row_call hb22 (row_alloc (row_alloc (row_alloc U1.out _) _) _))
            first | replace Z1 := Lib.hid (row_call hb22 Z1.out) | replace Z1 := Lib.hid (row_call hb22 (row_alloc Z1.out _)) | replace Z1 := Lib.hid (row_call hb22 (row_alloc (row_alloc Z1.out _) _)) | replace Z1 := Lib.hid (row_call hb22 (row_alloc (row_alloc (row_alloc Z1.out _) _) _))
            first | replace L1 := Lib.hid (row_call hb22 L1.out) | replace L1 := Lib.hid (row_call hb22 (row_alloc L1.out _)) | replace L1 := Lib.hid (row_call hb22 (row_alloc (row_alloc L1.out _) _)) | replace L1 := Lib.hid (row_call hb22 (row_alloc (row_alloc (row_alloc L1.out _) _) _))
            first | replace G1 := Lib.hid (row_call hb22 G1.out) | replace G1 := Lib.hid (row_call hb22 (row_alloc G1.out _)) | replace G1 := Lib.hid (row_call hb22 (row_alloc (row_alloc G1.out _) _)) | replace G1 := Lib.hid (row_call hb22 (row_alloc (row_alloc (row_alloc G1.out _) _) _))
            first | replace X1 := Lib.hid (row_call hb22 X1.out) | replace X1 := Lib.hid (row_call hb22 (row_alloc X1.out _)) | replace X1 := Lib.hid (row_call hb22 (row_alloc (row_alloc X1.out _) _)) | replace X1 := Lib.hid (row_call hb22 (row_alloc (row_alloc (row_alloc X1.out _) _) _))
            clear hb22
            have U1_0 : V22.cell? ⟨w.heap.size + 1, 0, none⟩ = some (.int .u64 (zh (u : Int))) := cell_of_row _ _ _ _ _ _ U1.out
            have U1_1 : V22.cell? ⟨w.heap.size + 1, 1, none⟩ = some (.int .u64 (zl (u : Int))) := cell_of_row _ _ _ _ _ _ U1.out
            have Z1_0 : V22.cell? ⟨w.heap.size + 1 + 1, 0, none⟩ = some (.int .u64 0) := cell_of_row _ _ _ _ _ _ Z1.out
            have Z1_1 : V22.cell? ⟨w.heap.size + 1 + 1, 1, none⟩ = some (.int .u64 0) := cell_of_row _ _ _ _ _ _ Z1.out
            have Z1_f0 : V22.frozen? ⟨w.heap.size + 1 + 1, 0, none⟩ = false := by simp [World.frozen?, Z1.out]
            have Z1_f1 : V22.frozen? ⟨w.heap.size + 1 + 1, 1, none⟩ = false := by simp [World.frozen?, Z1.out]
            have L1_0 : V22.cell? ⟨bL, 0, none⟩ = some (.int .u64 (zh (lft A u (i + 1) : Int))) := cell_of_row _ _ _ _ _ _ L1.out
            have L1_1 : V22.cell? ⟨bL, 1, none⟩ = some (.int .u64 (zl (lft A u (i + 1) : Int))) := cell_of_row _ _ _ _ _ _ L1.out
            have L1_f0 : V22.frozen? ⟨bL, 0, none⟩ = false := by simp [World.frozen?, L1.out]
            have L1_f1 : V22.frozen? ⟨bL, 1, none⟩ = false := by simp [World.frozen?, L1.out]
            have G1_0 : V22.cell? ⟨bG, 0, none⟩ = some (.int .u64 (zh (gt A u (i + 1) : Int))) := cell_of_row _ _ _ _ _ _ G1.out
            have G1_1 : V22.cell? ⟨bG, 1, none⟩ = some (.int .u64 (zl (gt A u (i + 1) : Int))) := cell_of_row _ _ _ _ _ _ G1.out
            have G1_f0 : V22.frozen? ⟨bG, 0, none⟩ = false := by simp [World.frozen?, G1.out]
            have G1_f1 : V22.frozen? ⟨bG, 1, none⟩ = false := by simp [World.frozen?, G1.out]
            have X1_0 : V22.cell? ⟨V20.heap.size, 0, none⟩ = some (.int .u64 xh) := cell_of_row _ _ _ _ _ _ X1.out
            have X1_1 : V22.cell? ⟨V20.heap.size, 1, none⟩ = some (.int .u64 xl) := cell_of_row _ _ _ _ _ _ X1.out
            have X1_f0 : V22.frozen? ⟨V20.heap.size, 0, none⟩ = false := by simp [World.frozen?, X1.out]
            have X1_f1 : V22.frozen? ⟨V20.heap.size, 1, none⟩ = false := by simp [World.frozen?, X1.out]
            have zU1 := lt_of_heap U1.out
            have zZ1 := lt_of_heap Z1.out
            have zL1 := lt_of_heap L1.out
            have zG1 := lt_of_heap G1.out
            have zX1 := lt_of_heap X1.out
            go_simp
            go_wp2
            go_roundw
            case rel => exact ⟨j + 1, hlt, by go_num, by rw [HF.out], row_set X1.out _ _, row_other nD1.out U1.out _ _, row_other nD2.out Z1.out _ _, row_other nD3.out L1.out _ _, row_other nD4.out G1.out _ _, keep2 B22.out hb0.out _ _⟩
            case measure => simp [intOf]; omega
        · obtain rfl : j = i := by omega
          cases hf : fitB u j
          · have NN := Lib.hid (NO.out hf)
            clear hf NO
            go_wp2
            go_roundw
            case rel => exact ⟨j, by omega, rfl, by rw [← NN.out.2], NN.out.1⟩
            case measure => simp [intOf]
          · have X3 := rcmp_any (u * 2 ^ j) (lft A u (j + 1)) (by have := fit_lt hf; omega) (by have := lft_le A u (j + 1); have := K1.out; omega)
            have X4 := less_any ((lft A u (j + 1) : Nat) : Int) ((u * 2 ^ j : Nat) : Int)
            have X5 := more_any ((gt A u (j + 1) : Nat) : Int) ((u * 2 ^ j : Nat) : Int)
            have hc := @cmpL_le (u * 2 ^ j) (lft A u (j + 1))
            have Y1 := @lft_yes A u j K2.out
            have Y2 := @lft_no A u j K2.out
            have E1 := @ev_yes A u j
            have E2 := @ev_no A u j
            rw [evB_true, Bool.true_and] at E1
            rw [evB_true] at E2
            clear hf NO
            generalize hD : u * 2 ^ j = D at *
            clear hD
            by_cases hb : D ≤ lft A u (j + 1)
            · obtain ⟨y1, y2, y3⟩ := Y1 hb
              have c1 := hc.mpr hb
              have EV := Lib.hid (E1 y3)
              rw [y1] at X4
              rw [y2] at X5
              have H3 := Lib.hid X3
              have H4 := Lib.hid X4
              have H5 := Lib.hid X5
              clear X3 X4 X5 Y1 Y2 E1 E2 y1 y2 y3 hc hb
              generalize cmpI D (lft A u (j + 1)) = c at *
              generalize lft A u (j + 1) = l1 at *
              generalize gt A u (j + 1) = g1 at *
              have HLD := Lib.hid (rfl : lft A u j = lft A u j)
              generalize hl0 : lft A u j = l0 at H4
              generalize hg0 : gt A u j = g0 at H5
              have HL0 := Lib.hid hl0
              have HG0 := Lib.hid hg0
              clear hl0 hg0
              
              have U1_0 : V21.cell? ⟨w.heap.size + 1, 0, none⟩ = some (.int .u64 (zh (u : Int))) := cell_of_row _ _ _ _ _ _ U1.out
              have U1_1 : V21.cell? ⟨w.heap.size + 1, 1, none⟩ = some (.int .u64 (zl (u : Int))) := cell_of_row _ _ _ _ _ _ U1.out
              have zU1 := lt_of_heap U1.out
              have Z1_0 : V21.cell? ⟨w.heap.size + 1 + 1, 0, none⟩ = some (.int .u64 0) := cell_of_row _ _ _ _ _ _ Z1.out
              have Z1_1 : V21.cell? ⟨w.heap.size + 1 + 1, 1, none⟩ = some (.int .u64 0) := cell_of_row _ _ _ _ _ _ Z1.out
              have zZ1 := lt_of_heap Z1.out
              have L1_f0 : V21.frozen? ⟨bL, 0, none⟩ = false := by simp [World.frozen?, L1.out]
              have L1_f1 : V21.frozen? ⟨bL, 1, none⟩ = false := by simp [World.frozen?, L1.out]
              have L1_0 : V21.cell? ⟨bL, 0, none⟩ = some (.int .u64 (zh (l1 : Int))) := cell_of_row _ _ _ _ _ _ L1.out
              have L1_1 : V21.cell? ⟨bL, 1, none⟩ = some (.int .u64 (zl (l1 : Int))) := cell_of_row _ _ _ _ _ _ L1.out
              have zL1 := lt_of_heap L1.out
              have G1_f0 : V21.frozen? ⟨bG, 0, none⟩ = false := by simp [World.frozen?, G1.out]
              have G1_f1 : V21.frozen? ⟨bG, 1, none⟩ = false := by simp [World.frozen?, G1.out]
              have G1_0 : V21.cell? ⟨bG, 0, none⟩ = some (.int .u64 (zh (g1 : Int))) := cell_of_row _ _ _ _ _ _ G1.out
              have G1_1 : V21.cell? ⟨bG, 1, none⟩ = some (.int .u64 (zl (g1 : Int))) := cell_of_row _ _ _ _ _ _ G1.out
              have zG1 := lt_of_heap G1.out
              have X1_f0 : V21.frozen? ⟨V20.heap.size, 0, none⟩ = false := by simp [World.frozen?, X1.out]
              have X1_f1 : V21.frozen? ⟨V20.heap.size, 1, none⟩ = false := by simp [World.frozen?, X1.out]
              have X1_0 : V21.cell? ⟨V20.heap.size, 0, none⟩ = some (.int .u64 (zh (D : Int))) := cell_of_row _ _ _ _ _ _ X1.out
              have X1_1 : V21.cell? ⟨V20.heap.size, 1, none⟩ = some (.int .u64 (zl (D : Int))) := cell_of_row _ _ _ _ _ _ X1.out
              have zX1 := lt_of_heap X1.out
              go_wp2_with fail
              refine (H3.out _).mono ?_
              rintro e V22 ⟨rfl, hb22⟩
              clear U1_0 U1_1 zU1 Z1_0 Z1_1 zZ1 L1_f0 L1_f1 L1_0 L1_1 zL1 G1_f0 G1_f1 G1_0 G1_1 zG1 X1_f0 X1_f1 X1_0 X1_1 zX1
              have B22 : Hid (Below w.heap.size w V22) := by first | exact Lib.hid ((B21.out).trans (hb22.mono (by have := B21.out.size; first | assumption | (simp <;> omega) | (simp; done)))) | exact Lib.hid (((B21.out).alloc (B21.out.size) _).trans (hb22.mono (by have := B21.out.size; first | assumption | (simp <;> omega) | (simp; done)))) | exact Lib.hid ((((B21.out).alloc (B21.out.size) _).alloc (by have := B21.out.size; simp <;> omega) _).trans (hb22.mono (by have := B21.out.size; first | assumption | (simp <;> omega) | (simp; done)))) | exact Lib.hid (((((B21.out).alloc (B21.out.size) _).alloc (by have := B21.out.size; simp <;> omega) _).alloc (by have := B21.out.size; simp <;> omega) _).trans (hb22.mono (by have := B21.out.size; first | assumption | (simp <;> omega) | (simp; done))))
              first | replace U1 := Lib.hid (row_call hb22 U1.out) | replace U1 := Lib.hid (row_call hb22 (row_alloc U1.out _)) | replace U1 := Lib.hid (row_call hb22 (row_alloc (row_alloc U1.out _) _)) | replace U1 := Lib.hid (row_call hb22 (row_alloc (row_alloc (row_alloc U1.out _) _) _))
              first | replace Z1 := Lib.hid (row_call hb22 Z1.out) | replace Z1 := Lib.hid (row_call hb22 (row_alloc Z1.out _)) | replace Z1 := Lib.hid (row_call hb22 (row_alloc (row_alloc Z1.out _) _)) | replace Z1 := Lib.hid (row_call hb22 (row_alloc (row_alloc (row_alloc Z1.out _) _) _))
              first | replace L1 := Lib.hid (row_call hb22 L1.out) | replace L1 := Lib.hid (row_call hb22 (row_alloc L1.out _)) | replace L1 := Lib.hid (row_call hb22 (row_alloc (row_alloc L1.out _) _)) | replace L1 := Lib.hid (row_call hb22 (row_alloc (row_alloc (row_alloc L1.out _) _) _))
              first | replace G1 := Lib.hid (row_call hb22 G1.out) | replace G1 := Lib.hid (row_call hb22 (row_alloc G1.out _)) | replace G1 := Lib.hid (row_call hb22 (row_alloc (row_alloc G1.out _) _)) | replace G1 := Lib.hid (row_call hb22 (row_alloc (row_alloc (row_alloc G1.out _) _) _))
              first | replace X1 := Lib.hid (row_call hb22 X1.out) | replace X1 := Lib.hid (row_call hb22 (row_alloc X1.out _)) | replace X1 := Lib.hid (row_call hb22 (row_alloc (row_alloc X1.out _) _)) | replace X1 := Lib.hid (row_call hb22 (row_alloc (row_alloc (row_alloc X1.out _) _) _))
              clear hb22
              have U1_0 : V22.cell? ⟨w.heap.size + 1, 0, none⟩ = some (.int .u64 (zh (u : Int))) := cell_of_row _ _ _ _ _ _ U1.out
              have U1_1 : V22.cell? ⟨w.heap.size + 1, 1, none⟩ = some (.int .u64 (zl (u : Int))) := cell_of_row _ _ _ _ _ _ U1.out
              have Z1_0 : V22.cell? ⟨w.heap.size + 1 + 1, 0, none⟩ = some (.int .u64 0) := cell_of_row _ _ _ _ _ _ Z1.out
              have Z1_1 : V22.cell? ⟨w.heap.size + 1 + 1, 1, none⟩ = some (.int .u64 0) := cell_of_row _ _ _ _ _ _ Z1.out
              have Z1_f0 : V22.frozen? ⟨w.heap.size + 1 + 1, 0, none⟩ = false := by simp [World.frozen?, Z1.out]
              have Z1_f1 : V22.frozen? ⟨w.heap.size + 1 + 1, 1, none⟩ = false := by simp [World.frozen?, Z1.out]
              have L1_0 : V22.cell? ⟨bL, 0, none⟩ = some (.int .u64 (zh (l1 : Int))) := cell_of_row _ _ _ _ _ _ L1.out
              have L1_1 : V22.cell? ⟨bL, 1, none⟩ = some (.int .u64 (zl (l1 : Int))) := cell_of_row _ _ _ _ _ _ L1.out
              have L1_f0 : V22.frozen? ⟨bL, 0, none⟩ = false := by simp [World.frozen?, L1.out]
              have L1_f1 : V22.frozen? ⟨bL, 1, none⟩ = false := by simp [World.frozen?, L1.out]
              have G1_0 : V22.cell? ⟨bG, 0, none⟩ = some (.int .u64 (zh (g1 : Int))) := cell_of_row _ _ _ _ _ _ G1.out
              have G1_1 : V22.cell? ⟨bG, 1, none⟩ = some (.int .u64 (zl (g1 : Int))) := cell_of_row _ _ _ _ _ _ G1.out
              have G1_f0 : V22.frozen? ⟨bG, 0, none⟩ = false := by simp [World.frozen?, G1.out]
              have G1_f1 : V22.frozen? ⟨bG, 1, none⟩ = false := by simp [World.frozen?, G1.out]
              have X1_0 : V22.cell? ⟨V20.heap.size, 0, none⟩ = some (.int .u64 (zh (D : Int))) := cell_of_row _ _ _ _ _ _ X1.out
              have X1_1 : V22.cell? ⟨V20.heap.size, 1, none⟩ = some (.int .u64 (zl (D : Int))) := cell_of_row _ _ _ _ _ _ X1.out
              have X1_f0 : V22.frozen? ⟨V20.heap.size, 0, none⟩ = false := by simp [World.frozen?, X1.out]
              have X1_f1 : V22.frozen? ⟨V20.heap.size, 1, none⟩ = false := by simp [World.frozen?, X1.out]
              have zU1 := lt_of_heap U1.out
              have zZ1 := lt_of_heap Z1.out
              have zL1 := lt_of_heap L1.out
              have zG1 := lt_of_heap G1.out
              have zX1 := lt_of_heap X1.out
              go_simp
              go_wp2_with fail
              have d1 := D1.out
              have d2 := D2.out
              have d7 := nD3.out
              have d8 := Ne.symm nD3.out
              refine (H4.out _).mono ?_
              rintro e V23 ⟨rfl, hb23⟩
              clear U1_0 U1_1 zU1 Z1_0 Z1_1 Z1_f0 Z1_f1 zZ1 L1_0 L1_1 L1_f0 L1_f1 zL1 G1_0 G1_1 G1_f0 G1_f1 zG1 X1_0 X1_1 X1_f0 X1_f1 zX1
              have B23 : Hid (Below w.heap.size w V23) := by first | exact Lib.hid ((B22.out).trans (hb23.mono (by have := B22.out.size; first | assumption | (simp <;> omega) | (simp; done)))) | exact Lib.hid (((B22.out).alloc (B22.out.size) _).trans (hb23.mono (by have := B22.out.size; first | assumption | (simp <;> omega) | (simp; done)))) | exact Lib.hid ((((B22.out).alloc (B22.out.size) _).alloc (by have := B22.out.size; simp <;> omega) _).trans (hb23.mono (by have := B22.out.size; first | assumption | (simp <;> omega) | (simp; done)))) | exact Lib.hid (((((B22.out).alloc (B22.out.size) _).alloc (by have := B22.out.size; simp <;> omega) _).alloc (by have := B22.out.size; simp <;> omega) _).trans (hb23.mono (by have := B22.out.size; first | assumption | (simp <;> omega) | (simp; done))))
              first | replace U1 := Lib.hid (row_call hb23 U1.out) | replace U1 := Lib.hid (row_call hb23 (row_alloc U1.out _)) | replace U1 := Lib.hid (row_call hb23 (row_alloc (row_alloc U1.out _) _)) | replace U1 := Lib.hid (row_call hb23 (row_alloc (row_alloc (row_alloc U1.out _) _) _))
              first | replace Z1 := Lib.hid (row_call hb23 Z1.out) | replace Z1 := Lib.hid (row_call hb23 (row_alloc Z1.out _)) | replace Z1 := Lib.hid (row_call hb23 (row_alloc (row_alloc Z1.out _) _)) | replace Z1 := Lib.hid (row_call hb23 (row_alloc (row_alloc (row_alloc Z1.out _) _) _))
              first | replace L1 := Lib.hid (row_call hb23 L1.out) | replace L1 := Lib.hid (row_call hb23 (row_alloc L1.out _)) | replace L1 := Lib.hid (row_call hb23 (row_alloc (row_alloc L1.out _) _)) | replace L1 := Lib.hid (row_call hb23 (row_alloc (row_alloc (row_alloc L1.out _) _) _))
              first | replace G1 := Lib.hid (row_call hb23 G1.out) | replace G1 := Lib.hid (row_call hb23 (row_alloc G1.out _)) | replace G1 := Lib.hid (row_call hb23 (row_alloc (row_alloc G1.out _) _)) | replace G1 := Lib.hid (row_call hb23 (row_alloc (row_alloc (row_alloc G1.out _) _) _))
              first | replace X1 := Lib.hid (row_call hb23 X1.out) | replace X1 := Lib.hid (row_call hb23 (row_alloc X1.out _)) | replace X1 := Lib.hid (row_call hb23 (row_alloc (row_alloc X1.out _) _)) | replace X1 := Lib.hid (row_call hb23 (row_alloc (row_alloc (row_alloc X1.out _) _) _))
              clear hb23
              have U1_0 : V23.cell? ⟨w.heap.size + 1, 0, none⟩ = some (.int .u64 (zh (u : Int))) := cell_of_row _ _ _ _ _ _ U1.out
              have U1_1 : V23.cell? ⟨w.heap.size + 1, 1, none⟩ = some (.int .u64 (zl (u : Int))) := cell_of_row _ _ _ _ _ _ U1.out
              have Z1_0 : V23.cell? ⟨w.heap.size + 1 + 1, 0, none⟩ = some (.int .u64 0) := cell_of_row _ _ _ _ _ _ Z1.out
              have Z1_1 : V23.cell? ⟨w.heap.size + 1 + 1, 1, none⟩ = some (.int .u64 0) := cell_of_row _ _ _ _ _ _ Z1.out
              have Z1_f0 : V23.frozen? ⟨w.heap.size + 1 + 1, 0, none⟩ = false := by simp [World.frozen?, Z1.out]
              have Z1_f1 : V23.frozen? ⟨w.heap.size + 1 + 1, 1, none⟩ = false := by simp [World.frozen?, Z1.out]
              have L1_0 : V23.cell? ⟨bL, 0, none⟩ = some (.int .u64 (zh (l1 : Int))) := cell_of_row _ _ _ _ _ _ L1.out
              have L1_1 : V23.cell? ⟨bL, 1, none⟩ = some (.int .u64 (zl (l1 : Int))) := cell_of_row _ _ _ _ _ _ L1.out
              have L1_f0 : V23.frozen? ⟨bL, 0, none⟩ = false := by simp [World.frozen?, L1.out]
              have L1_f1 : V23.frozen? ⟨bL, 1, none⟩ = false := by simp [World.frozen?, L1.out]
              have G1_0 : V23.cell? ⟨bG, 0, none⟩ = some (.int .u64 (zh (g1 : Int))) := cell_of_row _ _ _ _ _ _ G1.out
              have G1_1 : V23.cell? ⟨bG, 1, none⟩ = some (.int .u64 (zl (g1 : Int))) := cell_of_row _ _ _ _ _ _ G1.out
              have G1_f0 : V23.frozen? ⟨bG, 0, none⟩ = false := by simp [World.frozen?, G1.out]
              have G1_f1 : V23.frozen? ⟨bG, 1, none⟩ = false := by simp [World.frozen?, G1.out]
              have X1_0 : V23.cell? ⟨V20.heap.size, 0, none⟩ = some (.int .u64 (zh (D : Int))) := cell_of_row _ _ _ _ _ _ X1.out
              have X1_1 : V23.cell? ⟨V20.heap.size, 1, none⟩ = some (.int .u64 (zl (D : Int))) := cell_of_row _ _ _ _ _ _ X1.out
              have X1_f0 : V23.frozen? ⟨V20.heap.size, 0, none⟩ = false := by simp [World.frozen?, X1.out]
              have X1_f1 : V23.frozen? ⟨V20.heap.size, 1, none⟩ = false := by simp [World.frozen?, X1.out]
              have zU1 := lt_of_heap U1.out
              have zZ1 := lt_of_heap Z1.out
              have zL1 := lt_of_heap L1.out
              have zG1 := lt_of_heap G1.out
              have zX1 := lt_of_heap X1.out
              go_simp
              go_wp2_with fail
              have hL0 : w.heap.size ≤ bL := by have := HQ1.out; omega
              refine (H5.out _).mono ?_
              rintro e V24 ⟨rfl, hb24⟩
              clear U1_0 U1_1 zU1 Z1_0 Z1_1 Z1_f0 Z1_f1 zZ1 L1_0 L1_1 L1_f0 L1_f1 zL1 G1_0 G1_1 G1_f0 G1_f1 zG1 X1_0 X1_1 X1_f0 X1_f1 zX1
              have B24 : Hid (Below w.heap.size w V24) := by first | exact Lib.hid ((keep2 (B23.out) (by omega) _ _).trans (hb24.mono (by have := B23.out.size; first | assumption | (simp <;> omega) | (simp; done)))) | exact Lib.hid (((keep2 (B23.out) (by omega) _ _).alloc (B23.out.size) _).trans (hb24.mono (by have := B23.out.size; first | assumption | (simp <;> omega) | (simp; done)))) | exact Lib.hid ((((keep2 (B23.out) (by omega) _ _).alloc (B23.out.size) _).alloc (by have := B23.out.size; simp <;> omega) _).trans (hb24.mono (by have := B23.out.size; first | assumption | (simp <;> omega) | (simp; done)))) | exact Lib.hid (((((keep2 (B23.out) (by omega) _ _).alloc (B23.out.size) _).alloc (by have := B23.out.size; simp <;> omega) _).alloc (by have := B23.out.size; simp <;> omega) _).trans (hb24.mono (by have := B23.out.size; first | assumption | (simp <;> omega) | (simp; done))))
              first | replace U1 := Lib.hid (row_call hb24 (row_other (by have := nU1L1.out; omega) U1.out _ _)) | replace U1 := Lib.hid (row_call hb24 (row_alloc (row_other (by have := nU1L1.out; omega) U1.out _ _) _)) | replace U1 := Lib.hid (row_call hb24 (row_alloc (row_alloc (row_other (by have := nU1L1.out; omega) U1.out _ _) _) _)) | replace U1 := Lib.hid (row_call hb24 (row_alloc (row_alloc (row_alloc (row_other (by have := nU1L1.out; omega) U1.out _ _) _) _) _))
              first | replace Z1 := Lib.hid (row_call hb24 (row_other (by have := nZ1L1.out; omega) Z1.out _ _)) | replace Z1 := Lib.hid (row_call hb24 (row_alloc (row_other (by have := nZ1L1.out; omega) Z1.out _ _) _)) | replace Z1 := Lib.hid (row_call hb24 (row_alloc (row_alloc (row_other (by have := nZ1L1.out; omega) Z1.out _ _) _) _)) | replace Z1 := Lib.hid (row_call hb24 (row_alloc (row_alloc (row_alloc (row_other (by have := nZ1L1.out; omega) Z1.out _ _) _) _) _))
              first | replace L1 := Lib.hid (row_call hb24 (row_set L1.out _ _)) | replace L1 := Lib.hid (row_call hb24 (row_alloc (row_set L1.out _ _) _)) | replace L1 := Lib.hid (row_call hb24 (row_alloc (row_alloc (row_set L1.out _ _) _) _)) | replace L1 := Lib.hid (row_call hb24 (row_alloc (row_alloc (row_alloc (row_set L1.out _ _) _) _) _))
              first | replace G1 := Lib.hid (row_call hb24 (row_other (by have := nL1G1.out; omega) G1.out _ _)) | replace G1 := Lib.hid (row_call hb24 (row_alloc (row_other (by have := nL1G1.out; omega) G1.out _ _) _)) | replace G1 := Lib.hid (row_call hb24 (row_alloc (row_alloc (row_other (by have := nL1G1.out; omega) G1.out _ _) _) _)) | replace G1 := Lib.hid (row_call hb24 (row_alloc (row_alloc (row_alloc (row_other (by have := nL1G1.out; omega) G1.out _ _) _) _) _))
              first | replace X1 := Lib.hid (row_call hb24 (row_other (by have := nL1X1.out; omega) X1.out _ _)) | replace X1 := Lib.hid (row_call hb24 (row_alloc (row_other (by have := nL1X1.out; omega) X1.out _ _) _)) | replace X1 := Lib.hid (row_call hb24 (row_alloc (row_alloc (row_other (by have := nL1X1.out; omega) X1.out _ _) _) _)) | replace X1 := Lib.hid (row_call hb24 (row_alloc (row_alloc (row_alloc (row_other (by have := nL1X1.out; omega) X1.out _ _) _) _) _))
              clear hb24
              have U1_0 : V24.cell? ⟨w.heap.size + 1, 0, none⟩ = some (.int .u64 (zh (u : Int))) := cell_of_row _ _ _ _ _ _ U1.out
              have U1_1 : V24.cell? ⟨w.heap.size + 1, 1, none⟩ = some (.int .u64 (zl (u : Int))) := cell_of_row _ _ _ _ _ _ U1.out
              have Z1_0 : V24.cell? ⟨w.heap.size + 1 + 1, 0, none⟩ = some (.int .u64 0) := cell_of_row _ _ _ _ _ _ Z1.out
              have Z1_1 : V24.cell? ⟨w.heap.size + 1 + 1, 1, none⟩ = some (.int .u64 0) := cell_of_row _ _ _ _ _ _ Z1.out
              have Z1_f0 : V24.frozen? ⟨w.heap.size + 1 + 1, 0, none⟩ = false := by simp [World.frozen?, Z1.out]
              have Z1_f1 : V24.frozen? ⟨w.heap.size + 1 + 1, 1, none⟩ = false := by simp [World.frozen?, Z1.out]
              have L1_0 : V24.cell? ⟨bL, 0, none⟩ = some (.int .u64 (zh (l0 : Int))) := cell_of_row _ _ _ _ _ _ L1.out
              have L1_1 : V24.cell? ⟨bL, 1, none⟩ = some (.int .u64 (zl (l0 : Int))) := cell_of_row _ _ _ _ _ _ L1.out
              have L1_f0 : V24.frozen? ⟨bL, 0, none⟩ = false := by simp [World.frozen?, L1.out]
              have L1_f1 : V24.frozen? ⟨bL, 1, none⟩ = false := by simp [World.frozen?, L1.out]
              have G1_0 : V24.cell? ⟨bG, 0, none⟩ = some (.int .u64 (zh (g1 : Int))) := cell_of_row _ _ _ _ _ _ G1.out
              have G1_1 : V24.cell? ⟨bG, 1, none⟩ = some (.int .u64 (zl (g1 : Int))) := cell_of_row _ _ _ _ _ _ G1.out
              have G1_f0 : V24.frozen? ⟨bG, 0, none⟩ = false := by simp [World.frozen?, G1.out]
              have G1_f1 : V24.frozen? ⟨bG, 1, none⟩ = false := by simp [World.frozen?, G1.out]
              have X1_0 : V24.cell? ⟨V20.heap.size, 0, none⟩ = some (.int .u64 (zh (D : Int))) := cell_of_row _ _ _ _ _ _ X1.out
              have X1_1 : V24.cell? ⟨V20.heap.size, 1, none⟩ = some (.int .u64 (zl (D : Int))) := cell_of_row _ _ _ _ _ _ X1.out
              have X1_f0 : V24.frozen? ⟨V20.heap.size, 0, none⟩ = false := by simp [World.frozen?, X1.out]
              have X1_f1 : V24.frozen? ⟨V20.heap.size, 1, none⟩ = false := by simp [World.frozen?, X1.out]
              have zU1 := lt_of_heap U1.out
              have zZ1 := lt_of_heap Z1.out
              have zL1 := lt_of_heap L1.out
              have zG1 := lt_of_heap G1.out
              have zX1 := lt_of_heap X1.out
              go_simp
              go_wp2
              go_roundw
              case rel => exact ⟨j, by omega, rfl, by rw [← EV.out], row_other D4.out U1.out _ _, row_other D6.out Z1.out _ _, by rw [HL0.out]; exact row_other D1.out L1.out _ _, by rw [HG0.out]; exact row_set G1.out _ _, keep2 B24.out (by have := HQ1.out; have := nL1G1.out; omega) _ _⟩
              case measure => simp [intOf]
            · obtain ⟨y1, y2, y3⟩ := Y2 hb
              have c1 : ¬ cmpI D (lft A u (j + 1)) ≤ 0 := fun h => hb (hc.mp h)
              have EV := Lib.hid (E2 y3)
              have HL0 := Lib.hid y1
              have HG0 := Lib.hid y2
              have H3 := Lib.hid X3
              clear X3 X4 X5 Y1 Y2 E1 E2 y1 y2 y3 hc hb
              generalize cmpI D (lft A u (j + 1)) = c at *
              generalize lft A u (j + 1) = l1 at *
              generalize gt A u (j + 1) = g1 at *
              
              have U1_0 : V21.cell? ⟨w.heap.size + 1, 0, none⟩ = some (.int .u64 (zh (u : Int))) := cell_of_row _ _ _ _ _ _ U1.out
              have U1_1 : V21.cell? ⟨w.heap.size + 1, 1, none⟩ = some (.int .u64 (zl (u : Int))) := cell_of_row _ _ _ _ _ _ U1.out
              have zU1 := lt_of_heap U1.out
              have Z1_0 : V21.cell? ⟨w.heap.size + 1 + 1, 0, none⟩ = some (.int .u64 0) := cell_of_row _ _ _ _ _ _ Z1.out
              have Z1_1 : V21.cell? ⟨w.heap.size + 1 + 1, 1, none⟩ = some (.int .u64 0) := cell_of_row _ _ _ _ _ _ Z1.out
              have zZ1 := lt_of_heap Z1.out
              have L1_f0 : V21.frozen? ⟨bL, 0, none⟩ = false := by simp [World.frozen?, L1.out]
              have L1_f1 : V21.frozen? ⟨bL, 1, none⟩ = false := by simp [World.frozen?, L1.out]
              have L1_0 : V21.cell? ⟨bL, 0, none⟩ = some (.int .u64 (zh (l1 : Int))) := cell_of_row _ _ _ _ _ _ L1.out
              have L1_1 : V21.cell? ⟨bL, 1, none⟩ = some (.int .u64 (zl (l1 : Int))) := cell_of_row _ _ _ _ _ _ L1.out
              have zL1 := lt_of_heap L1.out
              have G1_f0 : V21.frozen? ⟨bG, 0, none⟩ = false := by simp [World.frozen?, G1.out]
              have G1_f1 : V21.frozen? ⟨bG, 1, none⟩ = false := by simp [World.frozen?, G1.out]
              have G1_0 : V21.cell? ⟨bG, 0, none⟩ = some (.int .u64 (zh (g1 : Int))) := cell_of_row _ _ _ _ _ _ G1.out
              have G1_1 : V21.cell? ⟨bG, 1, none⟩ = some (.int .u64 (zl (g1 : Int))) := cell_of_row _ _ _ _ _ _ G1.out
              have zG1 := lt_of_heap G1.out
              have X1_f0 : V21.frozen? ⟨V20.heap.size, 0, none⟩ = false := by simp [World.frozen?, X1.out]
              have X1_f1 : V21.frozen? ⟨V20.heap.size, 1, none⟩ = false := by simp [World.frozen?, X1.out]
              have X1_0 : V21.cell? ⟨V20.heap.size, 0, none⟩ = some (.int .u64 (zh (D : Int))) := cell_of_row _ _ _ _ _ _ X1.out
              have X1_1 : V21.cell? ⟨V20.heap.size, 1, none⟩ = some (.int .u64 (zl (D : Int))) := cell_of_row _ _ _ _ _ _ X1.out
              have zX1 := lt_of_heap X1.out
              go_wp2_with fail
              refine (H3.out _).mono ?_
              rintro e V22 ⟨rfl, hb22⟩
              clear U1_0 U1_1 zU1 Z1_0 Z1_1 zZ1 L1_f0 L1_f1 L1_0 L1_1 zL1 G1_f0 G1_f1 G1_0 G1_1 zG1 X1_f0 X1_f1 X1_0 X1_1 zX1
              have B22 : Hid (Below w.heap.size w V22) := by first | exact Lib.hid ((B21.out).trans (hb22.mono (by have := B21.out.size; first | assumption | (simp <;> omega) | (simp; done)))) | exact Lib.hid (((B21.out).alloc (B21.out.size) _).trans (hb22.mono (by have := B21.out.size; first | assumption | (simp <;> omega) | (simp; done)))) | exact Lib.hid ((((B21.out).alloc (B21.out.size) _).alloc (by have := B21.out.size; simp <;> omega) _).trans (hb22.mono (by have := B21.out.size; first | assumption | (simp <;> omega) | (simp; done)))) | exact Lib.hid (((((B21.out).alloc (B21.out.size) _).alloc (by have := B21.out.size; simp <;> omega) _).alloc (by have := B21.out.size; simp <;> omega) _).trans (hb22.mono (by have := B21.out.size; first | assumption | (simp <;> omega) | (simp; done))))
              first | replace U1 := Lib.hid (row_call hb22 U1.out) | replace U1 := Lib.hid (row_call hb22 (row_alloc U1.out _)) | replace U1 := Lib.hid (row_call hb22 (row_alloc (row_alloc U1.out _) _)) | replace U1 := Lib.hid (row_call hb22 (row_alloc (row_alloc (row_alloc U1.out _) _) _))
              first | replace Z1 := Lib.hid (row_call hb22 Z1.out) | replace Z1 := Lib.hid (row_call hb22 (row_alloc Z1.out _)) | replace Z1 := Lib.hid (row_call hb22 (row_alloc (row_alloc Z1.out _) _)) | replace Z1 := Lib.hid (row_call hb22 (row_alloc (row_alloc (row_alloc Z1.out _) _) _))
              first | replace L1 := Lib.hid (row_call hb22 L1.out) | replace L1 := Lib.hid (row_call hb22 (row_alloc L1.out _)) | replace L1 := Lib.hid (row_call hb22 (row_alloc (row_alloc L1.out _) _)) | replace L1 := Lib.hid (row_call hb22 (row_alloc (row_alloc (row_alloc L1.out _) _) _))
              first | replace G1 := Lib.hid (row_call hb22 G1.out) | replace G1 := Lib.hid (row_call hb22 (row_alloc G1.out _)) | replace G1 := Lib.hid (row_call hb22 (row_alloc (row_alloc G1.out _) _)) | replace G1 := Lib.hid (row_call hb22 (row_alloc (row_alloc (row_alloc G1.out _) _) _))
              first | replace X1 := Lib.hid (row_call hb22 X1.out) | replace X1 := Lib.hid (row_call hb22 (row_alloc X1.out _)) | replace X1 := Lib.hid (row_call hb22 (row_alloc (row_alloc X1.out _) _)) | replace X1 := Lib.hid (row_call hb22 (row_alloc (row_alloc (row_alloc X1.out _) _) _))
              clear hb22
              have U1_0 : V22.cell? ⟨w.heap.size + 1, 0, none⟩ = some (.int .u64 (zh (u : Int))) := cell_of_row _ _ _ _ _ _ U1.out
              have U1_1 : V22.cell? ⟨w.heap.size + 1, 1, none⟩ = some (.int .u64 (zl (u : Int))) := cell_of_row _ _ _ _ _ _ U1.out
              have Z1_0 : V22.cell? ⟨w.heap.size + 1 + 1, 0, none⟩ = some (.int .u64 0) := cell_of_row _ _ _ _ _ _ Z1.out
              have Z1_1 : V22.cell? ⟨w.heap.size + 1 + 1, 1, none⟩ = some (.int .u64 0) := cell_of_row _ _ _ _ _ _ Z1.out
              have Z1_f0 : V22.frozen? ⟨w.heap.size + 1 + 1, 0, none⟩ = false := by simp [World.frozen?, Z1.out]
              have Z1_f1 : V22.frozen? ⟨w.heap.size + 1 + 1, 1, none⟩ = false := by simp [World.frozen?, Z1.out]
              have L1_0 : V22.cell? ⟨bL, 0, none⟩ = some (.int .u64 (zh (l1 : Int))) := cell_of_row _ _ _ _ _ _ L1.out
              have L1_1 : V22.cell? ⟨bL, 1, none⟩ = some (.int .u64 (zl (l1 : Int))) := cell_of_row _ _ _ _ _ _ L1.out
              have L1_f0 : V22.frozen? ⟨bL, 0, none⟩ = false := by simp [World.frozen?, L1.out]
              have L1_f1 : V22.frozen? ⟨bL, 1, none⟩ = false := by simp [World.frozen?, L1.out]
              have G1_0 : V22.cell? ⟨bG, 0, none⟩ = some (.int .u64 (zh (g1 : Int))) := cell_of_row _ _ _ _ _ _ G1.out
              have G1_1 : V22.cell? ⟨bG, 1, none⟩ = some (.int .u64 (zl (g1 : Int))) := cell_of_row _ _ _ _ _ _ G1.out
              have G1_f0 : V22.frozen? ⟨bG, 0, none⟩ = false := by simp [World.frozen?, G1.out]
              have G1_f1 : V22.frozen? ⟨bG, 1, none⟩ = false := by simp [World.frozen?, G1.out]
              have X1_0 : V22.cell? ⟨V20.heap.size, 0, none⟩ = some (.int .u64 (zh (D : Int))) := cell_of_row _ _ _ _ _ _ X1.out
              have X1_1 : V22.cell? ⟨V20.heap.size, 1, none⟩ = some (.int .u64 (zl (D : Int))) := cell_of_row _ _ _ _ _ _ X1.out
              have X1_f0 : V22.frozen? ⟨V20.heap.size, 0, none⟩ = false := by simp [World.frozen?, X1.out]
              have X1_f1 : V22.frozen? ⟨V20.heap.size, 1, none⟩ = false := by simp [World.frozen?, X1.out]
              have zU1 := lt_of_heap U1.out
              have zZ1 := lt_of_heap Z1.out
              have zL1 := lt_of_heap L1.out
              have zG1 := lt_of_heap G1.out
              have zX1 := lt_of_heap X1.out
              go_simp
              go_wp2
              go_roundw
              case rel => exact ⟨j, by omega, rfl, by rw [← EV.out], U1.out, Z1.out, by rw [← HL0.out]; exact L1.out, by rw [← HG0.out]; exact G1.out, B22.out⟩
              case measure => simp [intOf]
    · obtain rfl : k = 0 := by omega
      rw [show ((0 : Nat) : Int) - 1 = -1 by omega]
      
      have U1_0 : V20.cell? ⟨w.heap.size + 1, 0, none⟩ = some (.int .u64 (zh (u : Int))) := cell_of_row _ _ _ _ _ _ U1.out
      have U1_1 : V20.cell? ⟨w.heap.size + 1, 1, none⟩ = some (.int .u64 (zl (u : Int))) := cell_of_row _ _ _ _ _ _ U1.out
      have zU1 := lt_of_heap U1.out
      have Z1_f0 : V20.frozen? ⟨w.heap.size + 1 + 1, 0, none⟩ = false := by simp [World.frozen?, Z1.out]
      have Z1_f1 : V20.frozen? ⟨w.heap.size + 1 + 1, 1, none⟩ = false := by simp [World.frozen?, Z1.out]
      have Z1_0 : V20.cell? ⟨w.heap.size + 1 + 1, 0, none⟩ = some (.int .u64 0) := cell_of_row _ _ _ _ _ _ Z1.out
      have Z1_1 : V20.cell? ⟨w.heap.size + 1 + 1, 1, none⟩ = some (.int .u64 0) := cell_of_row _ _ _ _ _ _ Z1.out
      have zZ1 := lt_of_heap Z1.out
      have L1_f0 : V20.frozen? ⟨bL, 0, none⟩ = false := by simp [World.frozen?, L1.out]
      have L1_f1 : V20.frozen? ⟨bL, 1, none⟩ = false := by simp [World.frozen?, L1.out]
      have L1_0 : V20.cell? ⟨bL, 0, none⟩ = some (.int .u64 (zh (lft A u 0 : Int))) := cell_of_row _ _ _ _ _ _ L1.out
      have L1_1 : V20.cell? ⟨bL, 1, none⟩ = some (.int .u64 (zl (lft A u 0 : Int))) := cell_of_row _ _ _ _ _ _ L1.out
      have zL1 := lt_of_heap L1.out
      have G1_f0 : V20.frozen? ⟨bG, 0, none⟩ = false := by simp [World.frozen?, G1.out]
      have G1_f1 : V20.frozen? ⟨bG, 1, none⟩ = false := by simp [World.frozen?, G1.out]
      have G1_0 : V20.cell? ⟨bG, 0, none⟩ = some (.int .u64 (zh (gt A u 0 : Int))) := cell_of_row _ _ _ _ _ _ G1.out
      have G1_1 : V20.cell? ⟨bG, 1, none⟩ = some (.int .u64 (zl (gt A u 0 : Int))) := cell_of_row _ _ _ _ _ _ G1.out
      have zG1 := lt_of_heap G1.out
      go_wp2
      refine shut_ret (v := .tuple #[.agg #[.int .u64 (zh (gt A u 0 : Int)), .int .u64 (zl (gt A u 0 : Int))], .bool (evB A u 0)]) (by simp [results, Try.results25, go_sem, zZ1, Z1_0, Z1_1]) rfl ⟨rfl, ?_⟩
      exact keep2 B20.out (by omega) _ _
end Go.Proofs.Ytlfbiidnfheelaa
