/- Contracts of package round: an amount, rounded. -/
import Derived.Test.YtlfbiidnfheelaaRpkC
namespace Go.Proofs.Ytlfbiidnfheelaa
set_option linter.unusedVariables false
set_option linter.unusedSimpArgs false
open Go.ChangeShapes Go.WideShapes Go.ChangeAt Go.RowKit

set_option maxHeartbeats 3200000 in
set_option maxRecDepth 100000 in
theorem amount_none (nh nl uh ul qh ql dh dl lh ll : Nat) (m : Int) (b b1 b2 o : Bool) (w : World)
    (fo : (((ql : Int) % 2) != 0) = o) (fo2 : (((ql : Int).tmod 2) != 0) = o)
    (H1 : Hid (∀ w, Calls Try.prog 45 #[.agg #[.int .u64 nh, .int .u64 nl], .agg #[.int .u64 uh, .int .u64 ul]] w fun e w' => e = .returned (.tuple #[.agg #[.int .u64 qh, .int .u64 ql], .agg #[.int .u64 0, .int .u64 0]]) ∧ Below w.heap.size w w'))
    (H2 : Hid (∀ w, Calls Try.prog 43 #[.agg #[.int .u64 nh, .int .u64 nl], .agg #[.int .u64 0, .int .u64 0]] w fun e w' => e = .returned (.tuple #[.agg #[.int .u64 dh, .int .u64 dl], .bool b1]) ∧ Below w.heap.size w w'))
    (H3 : Hid (∀ w, Calls Try.prog 43 #[.agg #[.int .u64 uh, .int .u64 ul], .agg #[.int .u64 0, .int .u64 0]] w fun e w' => e = .returned (.tuple #[.agg #[.int .u64 lh, .int .u64 ll], .bool b2]) ∧ Below w.heap.size w w')) :
    Calls Try.prog 22 #[.agg #[.int .u64 nh, .int .u64 nl], .agg #[.int .u64 uh, .int .u64 ul], .int .i64 m, .bool b] w fun e w' => e = .returned (.agg #[.int .u64 dh, .int .u64 dl]) ∧ Below w.heap.size w w' := by
  go_enter Try.func22, Try.ntmps22
  refine wp_shut ?_
  go_wp2_with fail
  
  refine (H1.out _).mono ?_
  rintro e V1 ⟨rfl, hb1⟩
  have B1 := Lib.hid (((((Below.refl w.heap.size w).alloc (Nat.le_refl _) _).alloc (by simp <;> omega) _).alloc (by simp <;> omega) _).trans (hb1.mono (by first | assumption | (simp <;> omega) | (simp; done))))
  have N1 := Lib.hid (row_call hb1 (row_alloc (row_alloc (heap_alloc_new _ _) _) _))
  have U1 := Lib.hid (row_at (k' := w.heap.size + 1) (by simp) (row_call hb1 (row_alloc (heap_alloc_new _ _) _)))
  have Z1 := Lib.hid (row_at (k' := w.heap.size + 1 + 1) (by simp) (row_call hb1 (heap_alloc_new _ _)))
  clear hb1
  have N1_0 : V1.cell? ⟨w.heap.size, 0, none⟩ = some (.int .u64 nh) := cell_of_row _ _ _ _ _ _ N1.out
  have N1_1 : V1.cell? ⟨w.heap.size, 1, none⟩ = some (.int .u64 nl) := cell_of_row _ _ _ _ _ _ N1.out
  have U1_0 : V1.cell? ⟨w.heap.size + 1, 0, none⟩ = some (.int .u64 uh) := cell_of_row _ _ _ _ _ _ U1.out
  have U1_1 : V1.cell? ⟨w.heap.size + 1, 1, none⟩ = some (.int .u64 ul) := cell_of_row _ _ _ _ _ _ U1.out
  have Z1_0 : V1.cell? ⟨w.heap.size + 1 + 1, 0, none⟩ = some (.int .u64 0) := cell_of_row _ _ _ _ _ _ Z1.out
  have Z1_1 : V1.cell? ⟨w.heap.size + 1 + 1, 1, none⟩ = some (.int .u64 0) := cell_of_row _ _ _ _ _ _ Z1.out
  have Z1_f0 : V1.frozen? ⟨w.heap.size + 1 + 1, 0, none⟩ = false := by simp [World.frozen?, Z1.out]
  have Z1_f1 : V1.frozen? ⟨w.heap.size + 1 + 1, 1, none⟩ = false := by simp [World.frozen?, Z1.out]
  have zN1 := lt_of_heap N1.out
  have zU1 := lt_of_heap U1.out
  have zZ1 := lt_of_heap Z1.out
  go_simp
  go_wp2_with fail
  refine (H2.out _).mono ?_
  rintro e V2 ⟨rfl, hb2⟩
  clear N1_0 N1_1 zN1 U1_0 U1_1 zU1 Z1_0 Z1_1 Z1_f0 Z1_f1 zZ1
  have nN1Q1 := Lib.hid (lt_of_heap N1.out)
  have nU1Q1 := Lib.hid (lt_of_heap U1.out)
  have nZ1Q1 := Lib.hid (lt_of_heap Z1.out)
  have nN1R1 := Lib.hid (lt_of_heap N1.out)
  have nU1R1 := Lib.hid (lt_of_heap U1.out)
  have nZ1R1 := Lib.hid (lt_of_heap Z1.out)
  have B2 := Lib.hid ((((B1.out).alloc (B1.out.size) _).alloc (by have := B1.out.size; simp <;> omega) _).trans (hb2.mono (by have := B1.out.size; first | assumption | (simp <;> omega) | (simp; done))))
  replace N1 := Lib.hid (row_call hb2 (row_alloc (row_alloc N1.out _) _))
  replace U1 := Lib.hid (row_call hb2 (row_alloc (row_alloc U1.out _) _))
  replace Z1 := Lib.hid (row_call hb2 (row_alloc (row_alloc Z1.out _) _))
  have Q1 := Lib.hid (row_call hb2 (row_alloc (heap_alloc_new _ _) _))
  have R1 := Lib.hid (row_at (k' := V1.heap.size + 1) (by simp) (row_call hb2 (heap_alloc_new _ _)))
  clear hb2
  have N1_0 : V2.cell? ⟨w.heap.size, 0, none⟩ = some (.int .u64 nh) := cell_of_row _ _ _ _ _ _ N1.out
  have N1_1 : V2.cell? ⟨w.heap.size, 1, none⟩ = some (.int .u64 nl) := cell_of_row _ _ _ _ _ _ N1.out
  have U1_0 : V2.cell? ⟨w.heap.size + 1, 0, none⟩ = some (.int .u64 uh) := cell_of_row _ _ _ _ _ _ U1.out
  have U1_1 : V2.cell? ⟨w.heap.size + 1, 1, none⟩ = some (.int .u64 ul) := cell_of_row _ _ _ _ _ _ U1.out
  have Z1_0 : V2.cell? ⟨w.heap.size + 1 + 1, 0, none⟩ = some (.int .u64 0) := cell_of_row _ _ _ _ _ _ Z1.out
  have Z1_1 : V2.cell? ⟨w.heap.size + 1 + 1, 1, none⟩ = some (.int .u64 0) := cell_of_row _ _ _ _ _ _ Z1.out
  have Z1_f0 : V2.frozen? ⟨w.heap.size + 1 + 1, 0, none⟩ = false := by simp [World.frozen?, Z1.out]
  have Z1_f1 : V2.frozen? ⟨w.heap.size + 1 + 1, 1, none⟩ = false := by simp [World.frozen?, Z1.out]
  have Q1_0 : V2.cell? ⟨V1.heap.size, 0, none⟩ = some (.int .u64 qh) := cell_of_row _ _ _ _ _ _ Q1.out
  have Q1_1 : V2.cell? ⟨V1.heap.size, 1, none⟩ = some (.int .u64 ql) := cell_of_row _ _ _ _ _ _ Q1.out
  have R1_0 : V2.cell? ⟨V1.heap.size + 1, 0, none⟩ = some (.int .u64 0) := cell_of_row _ _ _ _ _ _ R1.out
  have R1_1 : V2.cell? ⟨V1.heap.size + 1, 1, none⟩ = some (.int .u64 0) := cell_of_row _ _ _ _ _ _ R1.out
  have zN1 := lt_of_heap N1.out
  have zU1 := lt_of_heap U1.out
  have zZ1 := lt_of_heap Z1.out
  have zQ1 := lt_of_heap Q1.out
  have zR1 := lt_of_heap R1.out
  go_simp
  go_wp2_with fail
  refine (H3.out _).mono ?_
  rintro e V3 ⟨rfl, hb3⟩
  clear N1_0 N1_1 zN1 U1_0 U1_1 zU1 Z1_0 Z1_1 Z1_f0 Z1_f1 zZ1 Q1_0 Q1_1 zQ1 R1_0 R1_1 zR1
  have nN1D1 := Lib.hid (lt_of_heap N1.out)
  have nU1D1 := Lib.hid (lt_of_heap U1.out)
  have nZ1D1 := Lib.hid (lt_of_heap Z1.out)
  have nQ1D1 := Lib.hid (lt_of_heap Q1.out)
  have nR1D1 := Lib.hid (lt_of_heap R1.out)
  have B3 := Lib.hid (((B2.out).alloc (B2.out.size) _).trans (hb3.mono (by have := B2.out.size; first | assumption | (simp <;> omega) | (simp; done))))
  replace N1 := Lib.hid (row_call hb3 (row_alloc N1.out _))
  replace U1 := Lib.hid (row_call hb3 (row_alloc U1.out _))
  replace Z1 := Lib.hid (row_call hb3 (row_alloc Z1.out _))
  replace Q1 := Lib.hid (row_call hb3 (row_alloc Q1.out _))
  replace R1 := Lib.hid (row_call hb3 (row_alloc R1.out _))
  have D1 := Lib.hid (row_call hb3 (heap_alloc_new _ _))
  clear hb3
  have N1_0 : V3.cell? ⟨w.heap.size, 0, none⟩ = some (.int .u64 nh) := cell_of_row _ _ _ _ _ _ N1.out
  have N1_1 : V3.cell? ⟨w.heap.size, 1, none⟩ = some (.int .u64 nl) := cell_of_row _ _ _ _ _ _ N1.out
  have U1_0 : V3.cell? ⟨w.heap.size + 1, 0, none⟩ = some (.int .u64 uh) := cell_of_row _ _ _ _ _ _ U1.out
  have U1_1 : V3.cell? ⟨w.heap.size + 1, 1, none⟩ = some (.int .u64 ul) := cell_of_row _ _ _ _ _ _ U1.out
  have Z1_0 : V3.cell? ⟨w.heap.size + 1 + 1, 0, none⟩ = some (.int .u64 0) := cell_of_row _ _ _ _ _ _ Z1.out
  have Z1_1 : V3.cell? ⟨w.heap.size + 1 + 1, 1, none⟩ = some (.int .u64 0) := cell_of_row _ _ _ _ _ _ Z1.out
  have Z1_f0 : V3.frozen? ⟨w.heap.size + 1 + 1, 0, none⟩ = false := by simp [World.frozen?, Z1.out]
  have Z1_f1 : V3.frozen? ⟨w.heap.size + 1 + 1, 1, none⟩ = false := by simp [World.frozen?, Z1.out]
  have Q1_0 : V3.cell? ⟨V1.heap.size, 0, none⟩ = some (.int .u64 qh) := cell_of_row _ _ _ _ _ _ Q1.out
  have Q1_1 : V3.cell? ⟨V1.heap.size, 1, none⟩ = some (.int .u64 ql) := cell_of_row _ _ _ _ _ _ Q1.out
  have R1_0 : V3.cell? ⟨V1.heap.size + 1, 0, none⟩ = some (.int .u64 0) := cell_of_row _ _ _ _ _ _ R1.out
  have R1_1 : V3.cell? ⟨V1.heap.size + 1, 1, none⟩ = some (.int .u64 0) := cell_of_row _ _ _ _ _ _ R1.out
  have D1_0 : V3.cell? ⟨V2.heap.size, 0, none⟩ = some (.int .u64 dh) := cell_of_row _ _ _ _ _ _ D1.out
  have D1_1 : V3.cell? ⟨V2.heap.size, 1, none⟩ = some (.int .u64 dl) := cell_of_row _ _ _ _ _ _ D1.out
  have zN1 := lt_of_heap N1.out
  have zU1 := lt_of_heap U1.out
  have zZ1 := lt_of_heap Z1.out
  have zQ1 := lt_of_heap Q1.out
  have zR1 := lt_of_heap R1.out
  have zD1 := lt_of_heap D1.out
  go_simp
  go_wp2
  refine shut_ret (v := .agg #[.int .u64 dh, .int .u64 dl]) (by simp [results, Try.results22, go_sem, zZ1, Z1_0, Z1_1]) rfl ⟨rfl, ?_⟩
  exact (keep2 B3.out (by omega) _ _).alloc (by have := B3.out.size; simp; try omega) _
set_option maxHeartbeats 3200000 in
set_option maxRecDepth 100000 in
theorem amount_a (nh nl uh ul qh ql rh rl dh dl lh ll fh fl : Nat) (m c : Int) (b b1 b2 b3 o av : Bool) (w : World) (hz : ¬ rh = 0)
    (fo : (((ql : Int) % 2) != 0) = o) (fo2 : (((ql : Int).tmod 2) != 0) = o)
    (H1 : Hid (∀ w, Calls Try.prog 45 #[.agg #[.int .u64 nh, .int .u64 nl], .agg #[.int .u64 uh, .int .u64 ul]] w fun e w' => e = .returned (.tuple #[.agg #[.int .u64 qh, .int .u64 ql], .agg #[.int .u64 rh, .int .u64 rl]]) ∧ Below w.heap.size w w'))
    (H2 : Hid (∀ w, Calls Try.prog 43 #[.agg #[.int .u64 nh, .int .u64 nl], .agg #[.int .u64 rh, .int .u64 rl]] w fun e w' => e = .returned (.tuple #[.agg #[.int .u64 dh, .int .u64 dl], .bool b1]) ∧ Below w.heap.size w w'))
    (H3 : Hid (∀ w, Calls Try.prog 43 #[.agg #[.int .u64 uh, .int .u64 ul], .agg #[.int .u64 rh, .int .u64 rl]] w fun e w' => e = .returned (.tuple #[.agg #[.int .u64 lh, .int .u64 ll], .bool b2]) ∧ Below w.heap.size w w'))
    (H4 : Hid (∀ w, Calls Try.prog 44 #[.agg #[.int .u64 rh, .int .u64 rl], .agg #[.int .u64 lh, .int .u64 ll]] w fun e w' => e = .returned (.int .i64 c) ∧ Below w.heap.size w w'))
    (H5 : Hid (∀ w, Calls Try.prog 46 #[.int .i64 m, .bool b, .bool o, .int .i64 c] w fun e w' => e = .returned (.bool av) ∧ Below w.heap.size w w'))
    (H6 : Hid (∀ w, Calls Try.prog 47 #[.agg #[.int .u64 dh, .int .u64 dl], .agg #[.int .u64 uh, .int .u64 ul]] w fun e w' => e = .returned (.tuple #[.agg #[.int .u64 fh, .int .u64 fl], .bool b3]) ∧ Below w.heap.size w w')) :
    Calls Try.prog 22 #[.agg #[.int .u64 nh, .int .u64 nl], .agg #[.int .u64 uh, .int .u64 ul], .int .i64 m, .bool b] w fun e w' => e = .returned (.agg #[.int .u64 (if av = true then fh else dh : Nat), .int .u64 (if av = true then fl else dl : Nat)]) ∧ Below w.heap.size w w' := by
  cases av
  · rw [if_neg (by decide), if_neg (by decide)]
    go_enter Try.func22, Try.ntmps22
    refine wp_shut ?_
    go_wp2_with fail
    
    refine (H1.out _).mono ?_
    rintro e V1 ⟨rfl, hb1⟩
    have B1 := Lib.hid (((((Below.refl w.heap.size w).alloc (Nat.le_refl _) _).alloc (by simp <;> omega) _).alloc (by simp <;> omega) _).trans (hb1.mono (by first | assumption | (simp <;> omega) | (simp; done))))
    have N1 := Lib.hid (row_call hb1 (row_alloc (row_alloc (heap_alloc_new _ _) _) _))
    have U1 := Lib.hid (row_at (k' := w.heap.size + 1) (by simp) (row_call hb1 (row_alloc (heap_alloc_new _ _) _)))
    have Z1 := Lib.hid (row_at (k' := w.heap.size + 1 + 1) (by simp) (row_call hb1 (heap_alloc_new _ _)))
    clear hb1
    have N1_0 : V1.cell? ⟨w.heap.size, 0, none⟩ = some (.int .u64 nh) := cell_of_row _ _ _ _ _ _ N1.out
    have N1_1 : V1.cell? ⟨w.heap.size, 1, none⟩ = some (.int .u64 nl) := cell_of_row _ _ _ _ _ _ N1.out
    have U1_0 : V1.cell? ⟨w.heap.size + 1, 0, none⟩ = some (.int .u64 uh) := cell_of_row _ _ _ _ _ _ U1.out
    have U1_1 : V1.cell? ⟨w.heap.size + 1, 1, none⟩ = some (.int .u64 ul) := cell_of_row _ _ _ _ _ _ U1.out
    have Z1_0 : V1.cell? ⟨w.heap.size + 1 + 1, 0, none⟩ = some (.int .u64 0) := cell_of_row _ _ _ _ _ _ Z1.out
    have Z1_1 : V1.cell? ⟨w.heap.size + 1 + 1, 1, none⟩ = some (.int .u64 0) := cell_of_row _ _ _ _ _ _ Z1.out
    have Z1_f0 : V1.frozen? ⟨w.heap.size + 1 + 1, 0, none⟩ = false := by simp [World.frozen?, Z1.out]
    have Z1_f1 : V1.frozen? ⟨w.heap.size + 1 + 1, 1, none⟩ = false := by simp [World.frozen?, Z1.out]
    have zN1 := lt_of_heap N1.out
    have zU1 := lt_of_heap U1.out
    have zZ1 := lt_of_heap Z1.out
    go_simp
    go_wp2_with fail
    refine (H2.out _).mono ?_
    rintro e V2 ⟨rfl, hb2⟩
    clear N1_0 N1_1 zN1 U1_0 U1_1 zU1 Z1_0 Z1_1 Z1_f0 Z1_f1 zZ1
    have nN1Q1 := Lib.hid (lt_of_heap N1.out)
    have nU1Q1 := Lib.hid (lt_of_heap U1.out)
    have nZ1Q1 := Lib.hid (lt_of_heap Z1.out)
    have nN1R1 := Lib.hid (lt_of_heap N1.out)
    have nU1R1 := Lib.hid (lt_of_heap U1.out)
    have nZ1R1 := Lib.hid (lt_of_heap Z1.out)
    have B2 := Lib.hid ((((B1.out).alloc (B1.out.size) _).alloc (by have := B1.out.size; simp <;> omega) _).trans (hb2.mono (by have := B1.out.size; first | assumption | (simp <;> omega) | (simp; done))))
    replace N1 := Lib.hid (row_call hb2 (row_alloc (row_alloc N1.out _) _))
    replace U1 := Lib.hid (row_call hb2 (row_alloc (row_alloc U1.out _) _))
    replace Z1 := Lib.hid (row_call hb2 (row_alloc (row_alloc Z1.out _) _))
    have Q1 := Lib.hid (row_call hb2 (row_alloc (heap_alloc_new _ _) _))
    have R1 := Lib.hid (row_at (k' := V1.heap.size + 1) (by simp) (row_call hb2 (heap_alloc_new _ _)))
    clear hb2
    have N1_0 : V2.cell? ⟨w.heap.size, 0, none⟩ = some (.int .u64 nh) := cell_of_row _ _ _ _ _ _ N1.out
    have N1_1 : V2.cell? ⟨w.heap.size, 1, none⟩ = some (.int .u64 nl) := cell_of_row _ _ _ _ _ _ N1.out
    have U1_0 : V2.cell? ⟨w.heap.size + 1, 0, none⟩ = some (.int .u64 uh) := cell_of_row _ _ _ _ _ _ U1.out
    have U1_1 : V2.cell? ⟨w.heap.size + 1, 1, none⟩ = some (.int .u64 ul) := cell_of_row _ _ _ _ _ _ U1.out
    have Z1_0 : V2.cell? ⟨w.heap.size + 1 + 1, 0, none⟩ = some (.int .u64 0) := cell_of_row _ _ _ _ _ _ Z1.out
    have Z1_1 : V2.cell? ⟨w.heap.size + 1 + 1, 1, none⟩ = some (.int .u64 0) := cell_of_row _ _ _ _ _ _ Z1.out
    have Z1_f0 : V2.frozen? ⟨w.heap.size + 1 + 1, 0, none⟩ = false := by simp [World.frozen?, Z1.out]
    have Z1_f1 : V2.frozen? ⟨w.heap.size + 1 + 1, 1, none⟩ = false := by simp [World.frozen?, Z1.out]
    have Q1_0 : V2.cell? ⟨V1.heap.size, 0, none⟩ = some (.int .u64 qh) := cell_of_row _ _ _ _ _ _ Q1.out
    have Q1_1 : V2.cell? ⟨V1.heap.size, 1, none⟩ = some (.int .u64 ql) := cell_of_row _ _ _ _ _ _ Q1.out
    have R1_0 : V2.cell? ⟨V1.heap.size + 1, 0, none⟩ = some (.int .u64 rh) := cell_of_row _ _ _ _ _ _ R1.out
    have R1_1 : V2.cell? ⟨V1.heap.size + 1, 1, none⟩ = some (.int .u64 rl) := cell_of_row _ _ _ _ _ _ R1.out
    have zN1 := lt_of_heap N1.out
    have zU1 := lt_of_heap U1.out
    have zZ1 := lt_of_heap Z1.out
    have zQ1 := lt_of_heap Q1.out
    have zR1 := lt_of_heap R1.out
    go_simp
    go_wp2_with fail
    refine (H3.out _).mono ?_
    rintro e V3 ⟨rfl, hb3⟩
    clear N1_0 N1_1 zN1 U1_0 U1_1 zU1 Z1_0 Z1_1 Z1_f0 Z1_f1 zZ1 Q1_0 Q1_1 zQ1 R1_0 R1_1 zR1
    have nN1D1 := Lib.hid (lt_of_heap N1.out)
    have nU1D1 := Lib.hid (lt_of_heap U1.out)
    have nZ1D1 := Lib.hid (lt_of_heap Z1.out)
    have nQ1D1 := Lib.hid (lt_of_heap Q1.out)
    have nR1D1 := Lib.hid (lt_of_heap R1.out)
    have B3 := Lib.hid (((B2.out).alloc (B2.out.size) _).trans (hb3.mono (by have := B2.out.size; first | assumption | (simp <;> omega) | (simp; done))))
    replace N1 := Lib.hid (row_call hb3 (row_alloc N1.out _))
    replace U1 := Lib.hid (row_call hb3 (row_alloc U1.out _))
    replace Z1 := Lib.hid (row_call hb3 (row_alloc Z1.out _))
    replace Q1 := Lib.hid (row_call hb3 (row_alloc Q1.out _))
    replace R1 := Lib.hid (row_call hb3 (row_alloc R1.out _))
    have D1 := Lib.hid (row_call hb3 (heap_alloc_new _ _))
    clear hb3
    have N1_0 : V3.cell? ⟨w.heap.size, 0, none⟩ = some (.int .u64 nh) := cell_of_row _ _ _ _ _ _ N1.out
    have N1_1 : V3.cell? ⟨w.heap.size, 1, none⟩ = some (.int .u64 nl) := cell_of_row _ _ _ _ _ _ N1.out
    have U1_0 : V3.cell? ⟨w.heap.size + 1, 0, none⟩ = some (.int .u64 uh) := cell_of_row _ _ _ _ _ _ U1.out
    have U1_1 : V3.cell? ⟨w.heap.size + 1, 1, none⟩ = some (.int .u64 ul) := cell_of_row _ _ _ _ _ _ U1.out
    have Z1_0 : V3.cell? ⟨w.heap.size + 1 + 1, 0, none⟩ = some (.int .u64 0) := cell_of_row _ _ _ _ _ _ Z1.out
    have Z1_1 : V3.cell? ⟨w.heap.size + 1 + 1, 1, none⟩ = some (.int .u64 0) := cell_of_row _ _ _ _ _ _ Z1.out
    have Z1_f0 : V3.frozen? ⟨w.heap.size + 1 + 1, 0, none⟩ = false := by simp [World.frozen?, Z1.out]
    have Z1_f1 : V3.frozen? ⟨w.heap.size + 1 + 1, 1, none⟩ = false := by simp [World.frozen?, Z1.out]
    have Q1_0 : V3.cell? ⟨V1.heap.size, 0, none⟩ = some (.int .u64 qh) := cell_of_row _ _ _ _ _ _ Q1.out
    have Q1_1 : V3.cell? ⟨V1.heap.size, 1, none⟩ = some (.int .u64 ql) := cell_of_row _ _ _ _ _ _ Q1.out
    have R1_0 : V3.cell? ⟨V1.heap.size + 1, 0, none⟩ = some (.int .u64 rh) := cell_of_row _ _ _ _ _ _ R1.out
    have R1_1 : V3.cell? ⟨V1.heap.size + 1, 1, none⟩ = some (.int .u64 rl) := cell_of_row _ _ _ _ _ _ R1.out
    have D1_0 : V3.cell? ⟨V2.heap.size, 0, none⟩ = some (.int .u64 dh) := cell_of_row _ _ _ _ _ _ D1.out
    have D1_1 : V3.cell? ⟨V2.heap.size, 1, none⟩ = some (.int .u64 dl) := cell_of_row _ _ _ _ _ _ D1.out
    have zN1 := lt_of_heap N1.out
    have zU1 := lt_of_heap U1.out
    have zZ1 := lt_of_heap Z1.out
    have zQ1 := lt_of_heap Q1.out
    have zR1 := lt_of_heap R1.out
    have zD1 := lt_of_heap D1.out
    go_simp
    go_wp2_with fail
    refine (H4.out _).mono ?_
    rintro e V4 ⟨rfl, hb4⟩
    clear N1_0 N1_1 zN1 U1_0 U1_1 zU1 Z1_0 Z1_1 Z1_f0 Z1_f1 zZ1 Q1_0 Q1_1 zQ1 R1_0 R1_1 zR1 D1_0 D1_1 zD1
    have nN1L1 := Lib.hid (lt_of_heap N1.out)
    have nU1L1 := Lib.hid (lt_of_heap U1.out)
    have nZ1L1 := Lib.hid (lt_of_heap Z1.out)
    have nQ1L1 := Lib.hid (lt_of_heap Q1.out)
    have nR1L1 := Lib.hid (lt_of_heap R1.out)
    have nD1L1 := Lib.hid (lt_of_heap D1.out)
    have B4 := Lib.hid (((B3.out).alloc (B3.out.size) _).trans (hb4.mono (by have := B3.out.size; first | assumption | (simp <;> omega) | (simp; done))))
    replace N1 := Lib.hid (row_call hb4 (row_alloc N1.out _))
    replace U1 := Lib.hid (row_call hb4 (row_alloc U1.out _))
    replace Z1 := Lib.hid (row_call hb4 (row_alloc Z1.out _))
    replace Q1 := Lib.hid (row_call hb4 (row_alloc Q1.out _))
    replace R1 := Lib.hid (row_call hb4 (row_alloc R1.out _))
    replace D1 := Lib.hid (row_call hb4 (row_alloc D1.out _))
    have L1 := Lib.hid (row_call hb4 (heap_alloc_new _ _))
    clear hb4
    have N1_0 : V4.cell? ⟨w.heap.size, 0, none⟩ = some (.int .u64 nh) := cell_of_row _ _ _ _ _ _ N1.out
    have N1_1 : V4.cell? ⟨w.heap.size, 1, none⟩ = some (.int .u64 nl) := cell_of_row _ _ _ _ _ _ N1.out
    have U1_0 : V4.cell? ⟨w.heap.size + 1, 0, none⟩ = some (.int .u64 uh) := cell_of_row _ _ _ _ _ _ U1.out
    have U1_1 : V4.cell? ⟨w.heap.size + 1, 1, none⟩ = some (.int .u64 ul) := cell_of_row _ _ _ _ _ _ U1.out
    have Z1_0 : V4.cell? ⟨w.heap.size + 1 + 1, 0, none⟩ = some (.int .u64 0) := cell_of_row _ _ _ _ _ _ Z1.out
    have Z1_1 : V4.cell? ⟨w.heap.size + 1 + 1, 1, none⟩ = some (.int .u64 0) := cell_of_row _ _ _ _ _ _ Z1.out
    have Z1_f0 : V4.frozen? ⟨w.heap.size + 1 + 1, 0, none⟩ = false := by simp [World.frozen?, Z1.out]
    have Z1_f1 : V4.frozen? ⟨w.heap.size + 1 + 1, 1, none⟩ = false := by simp [World.frozen?, Z1.out]
    have Q1_0 : V4.cell? ⟨V1.heap.size, 0, none⟩ = some (.int .u64 qh) := cell_of_row _ _ _ _ _ _ Q1.out
    have Q1_1 : V4.cell? ⟨V1.heap.size, 1, none⟩ = some (.int .u64 ql) := cell_of_row _ _ _ _ _ _ Q1.out
    have R1_0 : V4.cell? ⟨V1.heap.size + 1, 0, none⟩ = some (.int .u64 rh) := cell_of_row _ _ _ _ _ _ R1.out
    have R1_1 : V4.cell? ⟨V1.heap.size + 1, 1, none⟩ = some (.int .u64 rl) := cell_of_row _ _ _ _ _ _ R1.out
    have D1_0 : V4.cell? ⟨V2.heap.size, 0, none⟩ = some (.int .u64 dh) := cell_of_row _ _ _ _ _ _ D1.out
    have D1_1 : V4.cell? ⟨V2.heap.size, 1, none⟩ = some (.int .u64 dl) := cell_of_row _ _ _ _ _ _ D1.out
    have L1_0 : V4.cell? ⟨V3.heap.size, 0, none⟩ = some (.int .u64 lh) := cell_of_row _ _ _ _ _ _ L1.out
    have L1_1 : V4.cell? ⟨V3.heap.size, 1, none⟩ = some (.int .u64 ll) := cell_of_row _ _ _ _ _ _ L1.out
    have zN1 := lt_of_heap N1.out
    have zU1 := lt_of_heap U1.out
    have zZ1 := lt_of_heap Z1.out
    have zQ1 := lt_of_heap Q1.out
    have zR1 := lt_of_heap R1.out
    have zD1 := lt_of_heap D1.out
    have zL1 := lt_of_heap L1.out
    go_simp
    go_wp2_with fail
    refine (H5.out _).mono ?_
    rintro e V5 ⟨rfl, hb5⟩
    clear N1_0 N1_1 zN1 U1_0 U1_1 zU1 Z1_0 Z1_1 Z1_f0 Z1_f1 zZ1 Q1_0 Q1_1 zQ1 R1_0 R1_1 zR1 D1_0 D1_1 zD1 L1_0 L1_1 zL1
    have B5 : Hid (Below w.heap.size w V5) := by first | exact Lib.hid ((B4.out).trans (hb5.mono (by have := B4.out.size; first | assumption | (simp <;> omega) | (simp; done)))) | exact Lib.hid (((B4.out).alloc (B4.out.size) _).trans (hb5.mono (by have := B4.out.size; first | assumption | (simp <;> omega) | (simp; done)))) | exact Lib.hid ((((B4.out).alloc (B4.out.size) _).alloc (by have := B4.out.size; simp <;> omega) _).trans (hb5.mono (by have := B4.out.size; first | assumption | (simp <;> omega) | (simp; done)))) | exact Lib.hid (((((B4.out).alloc (B4.out.size) _).alloc (by have := B4.out.size; simp <;> omega) _).alloc (by have := B4.out.size; simp <;> omega) _).trans (hb5.mono (by have := B4.out.size; first | assumption | (simp <;> omega) | (simp; done))))
    first | replace N1 := Lib.hid (row_call hb5 N1.out) | replace N1 := Lib.hid (row_call hb5 (row_alloc N1.out _)) | replace N1 := Lib.hid (row_call hb5 (row_alloc (row_alloc N1.out _) _)) | replace N1 := Lib.hid (row_call hb5 (row_alloc (row_alloc (row_alloc N1.out _) _) _))
    first | replace U1 := Lib.hid (row_call hb5 U1.out) | replace U1 := Lib.hid (row_call hb5 (row_alloc U1.out _)) | replace U1 := Lib.hid (row_call hb5 (row_alloc (row_alloc U1.out _) _)) | replace U1 := Lib.hid (row_call hb5 (row_alloc (row_alloc (row_alloc U1.out _) _) _))
    first | replace Z1 := Lib.hid (row_call hb5 Z1.out) | replace Z1 := Lib.hid (row_call hb5 (row_alloc Z1.out _)) | replace Z1 := Lib.hid (row_call hb5 (row_alloc (row_alloc Z1.out _) _)) | replace Z1 := Lib.hid (row_call hb5 (row_alloc (row_alloc (row_alloc Z1.out _) _) _))
    first | replace Q1 := Lib.hid (row_call hb5 Q1.out) | replace Q1 := Lib.hid (row_call hb5 (row_alloc Q1.out _)) | replace Q1 := Lib.hid (row_call hb5 (row_alloc (row_alloc Q1.out _) _)) | replace Q1 := Lib.hid (row_call hb5 (row_alloc (row_alloc (row_alloc Q1.out _) _) _))
    first | replace R1 := Lib.hid (row_call hb5 R1.out) | replace R1 := Lib.hid (row_call hb5 (row_alloc R1.out _)) | replace R1 := Lib.hid (row_call hb5 (row_alloc (row_alloc R1.out _) _)) | replace R1 := Lib.hid (row_call hb5 (row_alloc (row_alloc (row_alloc R1.out _) _) _))
    first | replace D1 := Lib.hid (row_call hb5 D1.out) | replace D1 := Lib.hid (row_call hb5 (row_alloc D1.out _)) | replace D1 := Lib.hid (row_call hb5 (row_alloc (row_alloc D1.out _) _)) | replace D1 := Lib.hid (row_call hb5 (row_alloc (row_alloc (row_alloc D1.out _) _) _))
    first | replace L1 := Lib.hid (row_call hb5 L1.out) | replace L1 := Lib.hid (row_call hb5 (row_alloc L1.out _)) | replace L1 := Lib.hid (row_call hb5 (row_alloc (row_alloc L1.out _) _)) | replace L1 := Lib.hid (row_call hb5 (row_alloc (row_alloc (row_alloc L1.out _) _) _))
    clear hb5
    have N1_0 : V5.cell? ⟨w.heap.size, 0, none⟩ = some (.int .u64 nh) := cell_of_row _ _ _ _ _ _ N1.out
    have N1_1 : V5.cell? ⟨w.heap.size, 1, none⟩ = some (.int .u64 nl) := cell_of_row _ _ _ _ _ _ N1.out
    have U1_0 : V5.cell? ⟨w.heap.size + 1, 0, none⟩ = some (.int .u64 uh) := cell_of_row _ _ _ _ _ _ U1.out
    have U1_1 : V5.cell? ⟨w.heap.size + 1, 1, none⟩ = some (.int .u64 ul) := cell_of_row _ _ _ _ _ _ U1.out
    have Z1_0 : V5.cell? ⟨w.heap.size + 1 + 1, 0, none⟩ = some (.int .u64 0) := cell_of_row _ _ _ _ _ _ Z1.out
    have Z1_1 : V5.cell? ⟨w.heap.size + 1 + 1, 1, none⟩ = some (.int .u64 0) := cell_of_row _ _ _ _ _ _ Z1.out
    have Z1_f0 : V5.frozen? ⟨w.heap.size + 1 + 1, 0, none⟩ = false := by simp [World.frozen?, Z1.out]
    have Z1_f1 : V5.frozen? ⟨w.heap.size + 1 + 1, 1, none⟩ = false := by simp [World.frozen?, Z1.out]
    have Q1_0 : V5.cell? ⟨V1.heap.size, 0, none⟩ = some (.int .u64 qh) := cell_of_row _ _ _ _ _ _ Q1.out
    have Q1_1 : V5.cell? ⟨V1.heap.size, 1, none⟩ = some (.int .u64 ql) := cell_of_row _ _ _ _ _ _ Q1.out
    have R1_0 : V5.cell? ⟨V1.heap.size + 1, 0, none⟩ = some (.int .u64 rh) := cell_of_row _ _ _ _ _ _ R1.out
    have R1_1 : V5.cell? ⟨V1.heap.size + 1, 1, none⟩ = some (.int .u64 rl) := cell_of_row _ _ _ _ _ _ R1.out
    have D1_0 : V5.cell? ⟨V2.heap.size, 0, none⟩ = some (.int .u64 dh) := cell_of_row _ _ _ _ _ _ D1.out
    have D1_1 : V5.cell? ⟨V2.heap.size, 1, none⟩ = some (.int .u64 dl) := cell_of_row _ _ _ _ _ _ D1.out
    have L1_0 : V5.cell? ⟨V3.heap.size, 0, none⟩ = some (.int .u64 lh) := cell_of_row _ _ _ _ _ _ L1.out
    have L1_1 : V5.cell? ⟨V3.heap.size, 1, none⟩ = some (.int .u64 ll) := cell_of_row _ _ _ _ _ _ L1.out
    have zN1 := lt_of_heap N1.out
    have zU1 := lt_of_heap U1.out
    have zZ1 := lt_of_heap Z1.out
    have zQ1 := lt_of_heap Q1.out
    have zR1 := lt_of_heap R1.out
    have zD1 := lt_of_heap D1.out
    have zL1 := lt_of_heap L1.out
    go_simp
    go_wp2
    refine shut_ret (v := .agg #[.int .u64 dh, .int .u64 dl]) (by simp [results, Try.results22, go_sem, zZ1, Z1_0, Z1_1]) rfl ⟨rfl, ?_⟩
    exact keep2 B5.out (by omega) _ _
  · rw [if_pos rfl, if_pos rfl]
    go_enter Try.func22, Try.ntmps22
    refine wp_shut ?_
    go_wp2_with fail
    
    refine (H1.out _).mono ?_
    rintro e V1 ⟨rfl, hb1⟩
    have B1 := Lib.hid (((((Below.refl w.heap.size w).alloc (Nat.le_refl _) _).alloc (by simp <;> omega) _).alloc (by simp <;> omega) _).trans (hb1.mono (by first | assumption | (simp <;> omega) | (simp; done))))
    have N1 := Lib.hid (row_call hb1 (row_alloc (row_alloc (heap_alloc_new _ _) _) _))
    have U1 := Lib.hid (row_at (k' := w.heap.size + 1) (by simp) (row_call hb1 (row_alloc (heap_alloc_new _ _) _)))
    have Z1 := Lib.hid (row_at (k' := w.heap.size + 1 + 1) (by simp) (row_call hb1 (heap_alloc_new _ _)))
    clear hb1
    have N1_0 : V1.cell? ⟨w.heap.size, 0, none⟩ = some (.int .u64 nh) := cell_of_row _ _ _ _ _ _ N1.out
    have N1_1 : V1.cell? ⟨w.heap.size, 1, none⟩ = some (.int .u64 nl) := cell_of_row _ _ _ _ _ _ N1.out
    have U1_0 : V1.cell? ⟨w.heap.size + 1, 0, none⟩ = some (.int .u64 uh) := cell_of_row _ _ _ _ _ _ U1.out
    have U1_1 : V1.cell? ⟨w.heap.size + 1, 1, none⟩ = some (.int .u64 ul) := cell_of_row _ _ _ _ _ _ U1.out
    have Z1_0 : V1.cell? ⟨w.heap.size + 1 + 1, 0, none⟩ = some (.int .u64 0) := cell_of_row _ _ _ _ _ _ Z1.out
    have Z1_1 : V1.cell? ⟨w.heap.size + 1 + 1, 1, none⟩ = some (.int .u64 0) := cell_of_row _ _ _ _ _ _ Z1.out
    have Z1_f0 : V1.frozen? ⟨w.heap.size + 1 + 1, 0, none⟩ = false := by simp [World.frozen?, Z1.out]
    have Z1_f1 : V1.frozen? ⟨w.heap.size + 1 + 1, 1, none⟩ = false := by simp [World.frozen?, Z1.out]
    have zN1 := lt_of_heap N1.out
    have zU1 := lt_of_heap U1.out
    have zZ1 := lt_of_heap Z1.out
    go_simp
    go_wp2_with fail
    refine (H2.out _).mono ?_
    rintro e V2 ⟨rfl, hb2⟩
    clear N1_0 N1_1 zN1 U1_0 U1_1 zU1 Z1_0 Z1_1 Z1_f0 Z1_f1 zZ1
    have nN1Q1 := Lib.hid (lt_of_heap N1.out)
    have nU1Q1 := Lib.hid (lt_of_heap U1.out)
    have nZ1Q1 := Lib.hid (lt_of_heap Z1.out)
    have nN1R1 := Lib.hid (lt_of_heap N1.out)
    have nU1R1 := Lib.hid (lt_of_heap U1.out)
    have nZ1R1 := Lib.hid (lt_of_heap Z1.out)
    have B2 := Lib.hid ((((B1.out).alloc (B1.out.size) _).alloc (by have := B1.out.size; simp <;> omega) _).trans (hb2.mono (by have := B1.out.size; first | assumption | (simp <;> omega) | (simp; done))))
    replace N1 := Lib.hid (row_call hb2 (row_alloc (row_alloc N1.out _) _))
    replace U1 := Lib.hid (row_call hb2 (row_alloc (row_alloc U1.out _) _))
    replace Z1 := Lib.hid (row_call hb2 (row_alloc (row_alloc Z1.out _) _))
    have Q1 := Lib.hid (row_call hb2 (row_alloc (heap_alloc_new _ _) _))
    have R1 := Lib.hid (row_at (k' := V1.heap.size + 1) (by simp) (row_call hb2 (heap_alloc_new _ _)))
    clear hb2
    have N1_0 : V2.cell? ⟨w.heap.size, 0, none⟩ = some (.int .u64 nh) := cell_of_row _ _ _ _ _ _ N1.out
    have N1_1 : V2.cell? ⟨w.heap.size, 1, none⟩ = some (.int .u64 nl) := cell_of_row _ _ _ _ _ _ N1.out
    have U1_0 : V2.cell? ⟨w.heap.size + 1, 0, none⟩ = some (.int .u64 uh) := cell_of_row _ _ _ _ _ _ U1.out
    have U1_1 : V2.cell? ⟨w.heap.size + 1, 1, none⟩ = some (.int .u64 ul) := cell_of_row _ _ _ _ _ _ U1.out
    have Z1_0 : V2.cell? ⟨w.heap.size + 1 + 1, 0, none⟩ = some (.int .u64 0) := cell_of_row _ _ _ _ _ _ Z1.out
    have Z1_1 : V2.cell? ⟨w.heap.size + 1 + 1, 1, none⟩ = some (.int .u64 0) := cell_of_row _ _ _ _ _ _ Z1.out
    have Z1_f0 : V2.frozen? ⟨w.heap.size + 1 + 1, 0, none⟩ = false := by simp [World.frozen?, Z1.out]
    have Z1_f1 : V2.frozen? ⟨w.heap.size + 1 + 1, 1, none⟩ = false := by simp [World.frozen?, Z1.out]
    have Q1_0 : V2.cell? ⟨V1.heap.size, 0, none⟩ = some (.int .u64 qh) := cell_of_row _ _ _ _ _ _ Q1.out
    have Q1_1 : V2.cell? ⟨V1.heap.size, 1, none⟩ = some (.int .u64 ql) := cell_of_row _ _ _ _ _ _ Q1.out
    have R1_0 : V2.cell? ⟨V1.heap.size + 1, 0, none⟩ = some (.int .u64 rh) := cell_of_row _ _ _ _ _ _ R1.out
    have R1_1 : V2.cell? ⟨V1.heap.size + 1, 1, none⟩ = some (.int .u64 rl) := cell_of_row _ _ _ _ _ _ R1.out
    have zN1 := lt_of_heap N1.out
    have zU1 := lt_of_heap U1.out
    have zZ1 := lt_of_heap Z1.out
    have zQ1 := lt_of_heap Q1.out
    have zR1 := lt_of_heap R1.out
    go_simp
    go_wp2_with fail
    refine (H3.out _).mono ?_
    rintro e V3 ⟨rfl, hb3⟩
    clear N1_0 N1_1 zN1 U1_0 U1_1 zU1 Z1_0 Z1_1 Z1_f0 Z1_f1 zZ1 Q1_0 Q1_1 zQ1 R1_0 R1_1 zR1
    have nN1D1 := Lib.hid (lt_of_heap N1.out)
    have nU1D1 := Lib.hid (lt_of_heap U1.out)
    have nZ1D1 := Lib.hid (lt_of_heap Z1.out)
    have nQ1D1 := Lib.hid (lt_of_heap Q1.out)
    have nR1D1 := Lib.hid (lt_of_heap R1.out)
    have B3 := Lib.hid (((B2.out).alloc (B2.out.size) _).trans (hb3.mono (by have := B2.out.size; first | assumption | (simp <;> omega) | (simp; done))))
    replace N1 := Lib.hid (row_call hb3 (row_alloc N1.out _))
    replace U1 := Lib.hid (row_call hb3 (row_alloc U1.out _))
    replace Z1 := Lib.hid (row_call hb3 (row_alloc Z1.out _))
    replace Q1 := Lib.hid (row_call hb3 (row_alloc Q1.out _))
    replace R1 := Lib.hid (row_call hb3 (row_alloc R1.out _))
    have D1 := Lib.hid (row_call hb3 (heap_alloc_new _ _))
    clear hb3
    have N1_0 : V3.cell? ⟨w.heap.size, 0, none⟩ = some (.int .u64 nh) := cell_of_row _ _ _ _ _ _ N1.out
    have N1_1 : V3.cell? ⟨w.heap.size, 1, none⟩ = some (.int .u64 nl) := cell_of_row _ _ _ _ _ _ N1.out
    have U1_0 : V3.cell? ⟨w.heap.size + 1, 0, none⟩ = some (.int .u64 uh) := cell_of_row _ _ _ _ _ _ U1.out
    have U1_1 : V3.cell? ⟨w.heap.size + 1, 1, none⟩ = some (.int .u64 ul) := cell_of_row _ _ _ _ _ _ U1.out
    have Z1_0 : V3.cell? ⟨w.heap.size + 1 + 1, 0, none⟩ = some (.int .u64 0) := cell_of_row _ _ _ _ _ _ Z1.out
    have Z1_1 : V3.cell? ⟨w.heap.size + 1 + 1, 1, none⟩ = some (.int .u64 0) := cell_of_row _ _ _ _ _ _ Z1.out
    have Z1_f0 : V3.frozen? ⟨w.heap.size + 1 + 1, 0, none⟩ = false := by simp [World.frozen?, Z1.out]
    have Z1_f1 : V3.frozen? ⟨w.heap.size + 1 + 1, 1, none⟩ = false := by simp [World.frozen?, Z1.out]
    have Q1_0 : V3.cell? ⟨V1.heap.size, 0, none⟩ = some (.int .u64 qh) := cell_of_row _ _ _ _ _ _ Q1.out
    have Q1_1 : V3.cell? ⟨V1.heap.size, 1, none⟩ = some (.int .u64 ql) := cell_of_row _ _ _ _ _ _ Q1.out
    have R1_0 : V3.cell? ⟨V1.heap.size + 1, 0, none⟩ = some (.int .u64 rh) := cell_of_row _ _ _ _ _ _ R1.out
    have R1_1 : V3.cell? ⟨V1.heap.size + 1, 1, none⟩ = some (.int .u64 rl) := cell_of_row _ _ _ _ _ _ R1.out
    have D1_0 : V3.cell? ⟨V2.heap.size, 0, none⟩ = some (.int .u64 dh) := cell_of_row _ _ _ _ _ _ D1.out
    have D1_1 : V3.cell? ⟨V2.heap.size, 1, none⟩ = some (.int .u64 dl) := cell_of_row _ _ _ _ _ _ D1.out
    have zN1 := lt_of_heap N1.out
    have zU1 := lt_of_heap U1.out
    have zZ1 := lt_of_heap Z1.out
    have zQ1 := lt_of_heap Q1.out
    have zR1 := lt_of_heap R1.out
    have zD1 := lt_of_heap D1.out
    go_simp
    go_wp2_with fail
    refine (H4.out _).mono ?_
    rintro e V4 ⟨rfl, hb4⟩
    clear N1_0 N1_1 zN1 U1_0 U1_1 zU1 Z1_0 Z1_1 Z1_f0 Z1_f1 zZ1 Q1_0 Q1_1 zQ1 R1_0 R1_1 zR1 D1_0 D1_1 zD1
    have nN1L1 := Lib.hid (lt_of_heap N1.out)
    have nU1L1 := Lib.hid (lt_of_heap U1.out)
    have nZ1L1 := Lib.hid (lt_of_heap Z1.out)
    have nQ1L1 := Lib.hid (lt_of_heap Q1.out)
    have nR1L1 := Lib.hid (lt_of_heap R1.out)
    have nD1L1 := Lib.hid (lt_of_heap D1.out)
    have B4 := Lib.hid (((B3.out).alloc (B3.out.size) _).trans (hb4.mono (by have := B3.out.size; first | assumption | (simp <;> omega) | (simp; done))))
    replace N1 := Lib.hid (row_call hb4 (row_alloc N1.out _))
    replace U1 := Lib.hid (row_call hb4 (row_alloc U1.out _))
    replace Z1 := Lib.hid (row_call hb4 (row_alloc Z1.out _))
    replace Q1 := Lib.hid (row_call hb4 (row_alloc Q1.out _))
    replace R1 := Lib.hid (row_call hb4 (row_alloc R1.out _))
    replace D1 := Lib.hid (row_call hb4 (row_alloc D1.out _))
    have L1 := Lib.hid (row_call hb4 (heap_alloc_new _ _))
    clear hb4
    have N1_0 : V4.cell? ⟨w.heap.size, 0, none⟩ = some (.int .u64 nh) := cell_of_row _ _ _ _ _ _ N1.out
    have N1_1 : V4.cell? ⟨w.heap.size, 1, none⟩ = some (.int .u64 nl) := cell_of_row _ _ _ _ _ _ N1.out
    have U1_0 : V4.cell? ⟨w.heap.size + 1, 0, none⟩ = some (.int .u64 uh) := cell_of_row _ _ _ _ _ _ U1.out
    have U1_1 : V4.cell? ⟨w.heap.size + 1, 1, none⟩ = some (.int .u64 ul) := cell_of_row _ _ _ _ _ _ U1.out
    have Z1_0 : V4.cell? ⟨w.heap.size + 1 + 1, 0, none⟩ = some (.int .u64 0) := cell_of_row _ _ _ _ _ _ Z1.out
    have Z1_1 : V4.cell? ⟨w.heap.size + 1 + 1, 1, none⟩ = some (.int .u64 0) := cell_of_row _ _ _ _ _ _ Z1.out
    have Z1_f0 : V4.frozen? ⟨w.heap.size + 1 + 1, 0, none⟩ = false := by simp [World.frozen?, Z1.out]
    have Z1_f1 : V4.frozen? ⟨w.heap.size + 1 + 1, 1, none⟩ = false := by simp [World.frozen?, Z1.out]
    have Q1_0 : V4.cell? ⟨V1.heap.size, 0, none⟩ = some (.int .u64 qh) := cell_of_row _ _ _ _ _ _ Q1.out
    have Q1_1 : V4.cell? ⟨V1.heap.size, 1, none⟩ = some (.int .u64 ql) := cell_of_row _ _ _ _ _ _ Q1.out
    have R1_0 : V4.cell? ⟨V1.heap.size + 1, 0, none⟩ = some (.int .u64 rh) := cell_of_row _ _ _ _ _ _ R1.out
    have R1_1 : V4.cell? ⟨V1.heap.size + 1, 1, none⟩ = some (.int .u64 rl) := cell_of_row _ _ _ _ _ _ R1.out
    have D1_0 : V4.cell? ⟨V2.heap.size, 0, none⟩ = some (.int .u64 dh) := cell_of_row _ _ _ _ _ _ D1.out
    have D1_1 : V4.cell? ⟨V2.heap.size, 1, none⟩ = some (.int .u64 dl) := cell_of_row _ _ _ _ _ _ D1.out
    have L1_0 : V4.cell? ⟨V3.heap.size, 0, none⟩ = some (.int .u64 lh) := cell_of_row _ _ _ _ _ _ L1.out
    have L1_1 : V4.cell? ⟨V3.heap.size, 1, none⟩ = some (.int .u64 ll) := cell_of_row _ _ _ _ _ _ L1.out
    have zN1 := lt_of_heap N1.out
    have zU1 := lt_of_heap U1.out
    have zZ1 := lt_of_heap Z1.out
    have zQ1 := lt_of_heap Q1.out
    have zR1 := lt_of_heap R1.out
    have zD1 := lt_of_heap D1.out
    have zL1 := lt_of_heap L1.out
    go_simp
    go_wp2_with fail
    refine (H5.out _).mono ?_
    rintro e V5 ⟨rfl, hb5⟩
    clear N1_0 N1_1 zN1 U1_0 U1_1 zU1 Z1_0 Z1_1 Z1_f0 Z1_f1 zZ1 Q1_0 Q1_1 zQ1 R1_0 R1_1 zR1 D1_0 D1_1 zD1 L1_0 L1_1 zL1
    have B5 : Hid (Below w.heap.size w V5) := by first | exact Lib.hid ((B4.out).trans (hb5.mono (by have := B4.out.size; first | assumption | (simp <;> omega) | (simp; done)))) | exact Lib.hid (((B4.out).alloc (B4.out.size) _).trans (hb5.mono (by have := B4.out.size; first | assumption | (simp <;> omega) | (simp; done)))) | exact Lib.hid ((((B4.out).alloc (B4.out.size) _).alloc (by have := B4.out.size; simp <;> omega) _).trans (hb5.mono (by have := B4.out.size; first | assumption | (simp <;> omega) | (simp; done)))) | exact Lib.hid (((((B4.out).alloc (B4.out.size) _).alloc (by have := B4.out.size; simp <;> omega) _).alloc (by have := B4.out.size; simp <;> omega) _).trans (hb5.mono (by have := B4.out.size; first | assumption | (simp <;> omega) | (simp; done))))
    first | replace N1 := Lib.hid (row_call hb5 N1.out) | replace N1 := Lib.hid (row_call hb5 (row_alloc N1.out _)) | replace N1 := Lib.hid (row_call hb5 (row_alloc (row_alloc N1.out _) _)) | replace N1 := Lib.hid (row_call hb5 (row_alloc (row_alloc (row_alloc N1.out _) _) _))
    first | replace U1 := Lib.hid (row_call hb5 U1.out) | replace U1 := Lib.hid (row_call hb5 (row_alloc U1.out _)) | replace U1 := Lib.hid (row_call hb5 (row_alloc (row_alloc U1.out _) _)) | replace U1 := Lib.hid (row_call hb5 (row_alloc (row_alloc (row_alloc U1.out _) _) _))
    first | replace Z1 := Lib.hid (row_call hb5 Z1.out) | replace Z1 := Lib.hid (row_call hb5 (row_alloc Z1.out _)) | replace Z1 := Lib.hid (row_call hb5 (row_alloc (row_alloc Z1.out _) _)) | replace Z1 := Lib.hid (row_call hb5 (row_alloc (row_alloc (row_alloc Z1.out _) _) _))
    first | replace Q1 := Lib.hid (row_call hb5 Q1.out) | replace Q1 := Lib.hid (row_call hb5 (row_alloc Q1.out _)) | replace Q1 := Lib.hid (row_call hb5 (row_alloc (row_alloc Q1.out _) _)) | replace Q1 := Lib.hid (row_call hb5 (row_alloc (row_alloc (row_alloc Q1.out _) _) _))
    first | replace R1 := Lib.hid (row_call hb5 R1.out) | replace R1 := Lib.hid (row_call hb5 (row_alloc R1.out _)) | replace R1 := Lib.hid (row_call hb5 (row_alloc (row_alloc R1.out _) _)) | replace R1 := Lib.hid (row_call hb5 (row_alloc (row_alloc (row_alloc R1.out _) _) _))
    first | replace D1 := Lib.hid (row_call hb5 D1.out) | replace D1 := Lib.hid (row_call hb5 (row_alloc D1.out _)) | replace D1 := Lib.hid (row_call hb5 (row_alloc (row_alloc D1.out _) _)) | replace D1 := Lib.hid (row_call hb5 (row_alloc (row_alloc (row_alloc D1.out _) _) _))
    first | replace L1 := Lib.hid (row_call hb5 L1.out) | replace L1 := Lib.hid (row_call hb5 (row_alloc L1.out _)) | replace L1 := Lib.hid (row_call hb5 (row_alloc (row_alloc L1.out _) _)) | replace L1 := Lib.hid (row_call hb5 (row_alloc (row_alloc (row_alloc L1.out _) _) _))
    clear hb5
    have N1_0 : V5.cell? ⟨w.heap.size, 0, none⟩ = some (.int .u64 nh) := cell_of_row _ _ _ _ _ _ N1.out
    have N1_1 : V5.cell? ⟨w.heap.size, 1, none⟩ = some (.int .u64 nl) := cell_of_row _ _ _ _ _ _ N1.out
    have U1_0 : V5.cell? ⟨w.heap.size + 1, 0, none⟩ = some (.int .u64 uh) := cell_of_row _ _ _ _ _ _ U1.out
    have U1_1 : V5.cell? ⟨w.heap.size + 1, 1, none⟩ = some (.int .u64 ul) := cell_of_row _ _ _ _ _ _ U1.out
    have Z1_0 : V5.cell? ⟨w.heap.size + 1 + 1, 0, none⟩ = some (.int .u64 0) := cell_of_row _ _ _ _ _ _ Z1.out
    have Z1_1 : V5.cell? ⟨w.heap.size + 1 + 1, 1, none⟩ = some (.int .u64 0) := cell_of_row _ _ _ _ _ _ Z1.out
    have Z1_f0 : V5.frozen? ⟨w.heap.size + 1 + 1, 0, none⟩ = false := by simp [World.frozen?, Z1.out]
    have Z1_f1 : V5.frozen? ⟨w.heap.size + 1 + 1, 1, none⟩ = false := by simp [World.frozen?, Z1.out]
    have Q1_0 : V5.cell? ⟨V1.heap.size, 0, none⟩ = some (.int .u64 qh) := cell_of_row _ _ _ _ _ _ Q1.out
    have Q1_1 : V5.cell? ⟨V1.heap.size, 1, none⟩ = some (.int .u64 ql) := cell_of_row _ _ _ _ _ _ Q1.out
    have R1_0 : V5.cell? ⟨V1.heap.size + 1, 0, none⟩ = some (.int .u64 rh) := cell_of_row _ _ _ _ _ _ R1.out
    have R1_1 : V5.cell? ⟨V1.heap.size + 1, 1, none⟩ = some (.int .u64 rl) := cell_of_row _ _ _ _ _ _ R1.out
    have D1_0 : V5.cell? ⟨V2.heap.size, 0, none⟩ = some (.int .u64 dh) := cell_of_row _ _ _ _ _ _ D1.out
    have D1_1 : V5.cell? ⟨V2.heap.size, 1, none⟩ = some (.int .u64 dl) := cell_of_row _ _ _ _ _ _ D1.out
    have L1_0 : V5.cell? ⟨V3.heap.size, 0, none⟩ = some (.int .u64 lh) := cell_of_row _ _ _ _ _ _ L1.out
    have L1_1 : V5.cell? ⟨V3.heap.size, 1, none⟩ = some (.int .u64 ll) := cell_of_row _ _ _ _ _ _ L1.out
    have zN1 := lt_of_heap N1.out
    have zU1 := lt_of_heap U1.out
    have zZ1 := lt_of_heap Z1.out
    have zQ1 := lt_of_heap Q1.out
    have zR1 := lt_of_heap R1.out
    have zD1 := lt_of_heap D1.out
    have zL1 := lt_of_heap L1.out
    go_simp
    go_wp2_with fail
    refine (H6.out _).mono ?_
    rintro e V6 ⟨rfl, hb6⟩
    clear N1_0 N1_1 zN1 U1_0 U1_1 zU1 Z1_0 Z1_1 Z1_f0 Z1_f1 zZ1 Q1_0 Q1_1 zQ1 R1_0 R1_1 zR1 D1_0 D1_1 zD1 L1_0 L1_1 zL1
    have B6 : Hid (Below w.heap.size w V6) := by first | exact Lib.hid ((B5.out).trans (hb6.mono (by have := B5.out.size; first | assumption | (simp <;> omega) | (simp; done)))) | exact Lib.hid (((B5.out).alloc (B5.out.size) _).trans (hb6.mono (by have := B5.out.size; first | assumption | (simp <;> omega) | (simp; done)))) | exact Lib.hid ((((B5.out).alloc (B5.out.size) _).alloc (by have := B5.out.size; simp <;> omega) _).trans (hb6.mono (by have := B5.out.size; first | assumption | (simp <;> omega) | (simp; done)))) | exact Lib.hid (((((B5.out).alloc (B5.out.size) _).alloc (by have := B5.out.size; simp <;> omega) _).alloc (by have := B5.out.size; simp <;> omega) _).trans (hb6.mono (by have := B5.out.size; first | assumption | (simp <;> omega) | (simp; done))))
    first | replace N1 := Lib.hid (row_call hb6 N1.out) | replace N1 := Lib.hid (row_call hb6 (row_alloc N1.out _)) | replace N1 := Lib.hid (row_call hb6 (row_alloc (row_alloc N1.out _) _)) | replace N1 := Lib.hid (row_call hb6 (row_alloc (row_alloc (row_alloc N1.out _) _) _))
    first | replace U1 := Lib.hid (row_call hb6 U1.out) | replace U1 := Lib.hid (row_call hb6 (row_alloc U1.out _)) | replace U1 := Lib.hid (row_call hb6 (row_alloc (row_alloc U1.out _) _)) | replace U1 := Lib.hid (row_call hb6 (row_alloc (row_alloc (row_alloc U1.out _) _) _))
    first | replace Z1 := Lib.hid (row_call hb6 Z1.out) | replace Z1 := Lib.hid (row_call hb6 (row_alloc Z1.out _)) | replace Z1 := Lib.hid (row_call hb6 (row_alloc (row_alloc Z1.out _) _)) | replace Z1 := Lib.hid (row_call hb6 (row_alloc (row_alloc (row_alloc Z1.out _) _) _))
    first | replace Q1 := Lib.hid (row_call hb6 Q1.out) | replace Q1 := Lib.hid (row_call hb6 (row_alloc Q1.out _)) | replace Q1 := Lib.hid (row_call hb6 (row_alloc (row_alloc Q1.out _) _)) | replace Q1 := Lib.hid (row_call hb6 (row_alloc (row_alloc (row_alloc Q1.out _) _) _))
    first | replace R1 := Lib.hid (row_call hb6 R1.out) | replace R1 := Lib.hid (row_call hb6 (row_alloc R1.out _)) | replace R1 := Lib.hid (row_call hb6 (row_alloc (row_alloc R1.out _) _)) | replace R1 := Lib.hid (row_call hb6 (row_alloc (row_alloc (row_alloc R1.out _) _) _))
    first | replace D1 := Lib.hid (row_call hb6 D1.out) | replace D1 := Lib.hid (row_call hb6 (row_alloc D1.out _)) | replace D1 := Lib.hid (row_call hb6 (row_alloc (row_alloc D1.out _) _)) | replace D1 := Lib.hid (row_call hb6 (row_alloc (row_alloc (row_alloc D1.out _) _) _))
    first | replace L1 := Lib.hid (row_call hb6 L1.out) | replace L1 := Lib.hid (row_call hb6 (row_alloc L1.out _)) | replace L1 := Lib.hid (row_call hb6 (row_alloc (row_alloc L1.out _) _)) | replace L1 := Lib.hid (row_call hb6 (row_alloc (row_alloc (row_alloc L1.out _) _) _))
    clear hb6
    have N1_0 : V6.cell? ⟨w.heap.size, 0, none⟩ = some (.int .u64 nh) := cell_of_row _ _ _ _ _ _ N1.out
    have N1_1 : V6.cell? ⟨w.heap.size, 1, none⟩ = some (.int .u64 nl) := cell_of_row _ _ _ _ _ _ N1.out
    have U1_0 : V6.cell? ⟨w.heap.size + 1, 0, none⟩ = some (.int .u64 uh) := cell_of_row _ _ _ _ _ _ U1.out
    have U1_1 : V6.cell? ⟨w.heap.size + 1, 1, none⟩ = some (.int .u64 ul) := cell_of_row _ _ _ _ _ _ U1.out
    have Z1_0 : V6.cell? ⟨w.heap.size + 1 + 1, 0, none⟩ = some (.int .u64 0) := cell_of_row _ _ _ _ _ _ Z1.out
    have Z1_1 : V6.cell? ⟨w.heap.size + 1 + 1, 1, none⟩ = some (.int .u64 0) := cell_of_row _ _ _ _ _ _ Z1.out
    have Z1_f0 : V6.frozen? ⟨w.heap.size + 1 + 1, 0, none⟩ = false := by simp [World.frozen?, Z1.out]
    have Z1_f1 : V6.frozen? ⟨w.heap.size + 1 + 1, 1, none⟩ = false := by simp [World.frozen?, Z1.out]
    have Q1_0 : V6.cell? ⟨V1.heap.size, 0, none⟩ = some (.int .u64 qh) := cell_of_row _ _ _ _ _ _ Q1.out
    have Q1_1 : V6.cell? ⟨V1.heap.size, 1, none⟩ = some (.int .u64 ql) := cell_of_row _ _ _ _ _ _ Q1.out
    have R1_0 : V6.cell? ⟨V1.heap.size + 1, 0, none⟩ = some (.int .u64 rh) := cell_of_row _ _ _ _ _ _ R1.out
    have R1_1 : V6.cell? ⟨V1.heap.size + 1, 1, none⟩ = some (.int .u64 rl) := cell_of_row _ _ _ _ _ _ R1.out
    have D1_0 : V6.cell? ⟨V2.heap.size, 0, none⟩ = some (.int .u64 dh) := cell_of_row _ _ _ _ _ _ D1.out
    have D1_1 : V6.cell? ⟨V2.heap.size, 1, none⟩ = some (.int .u64 dl) := cell_of_row _ _ _ _ _ _ D1.out
    have L1_0 : V6.cell? ⟨V3.heap.size, 0, none⟩ = some (.int .u64 lh) := cell_of_row _ _ _ _ _ _ L1.out
    have L1_1 : V6.cell? ⟨V3.heap.size, 1, none⟩ = some (.int .u64 ll) := cell_of_row _ _ _ _ _ _ L1.out
    have zN1 := lt_of_heap N1.out
    have zU1 := lt_of_heap U1.out
    have zZ1 := lt_of_heap Z1.out
    have zQ1 := lt_of_heap Q1.out
    have zR1 := lt_of_heap R1.out
    have zD1 := lt_of_heap D1.out
    have zL1 := lt_of_heap L1.out
    go_simp
    go_wp2
    refine shut_ret (v := .agg #[.int .u64 fh, .int .u64 fl]) (by simp [results, Try.results22, go_sem, zZ1, Z1_0, Z1_1]) rfl ⟨rfl, ?_⟩
    exact (keep2 B6.out (by omega) _ _).alloc (by have := B6.out.size; simp; try omega) _
set_option maxHeartbeats 3200000 in
set_option maxRecDepth 100000 in
theorem amount_b (nh nl uh ul qh ql rh rl dh dl lh ll fh fl : Nat) (m c : Int) (b b1 b2 b3 o av : Bool) (w : World) (hz : ¬ rl = 0)
    (fo : (((ql : Int) % 2) != 0) = o) (fo2 : (((ql : Int).tmod 2) != 0) = o)
    (H1 : Hid (∀ w, Calls Try.prog 45 #[.agg #[.int .u64 nh, .int .u64 nl], .agg #[.int .u64 uh, .int .u64 ul]] w fun e w' => e = .returned (.tuple #[.agg #[.int .u64 qh, .int .u64 ql], .agg #[.int .u64 0, .int .u64 rl]]) ∧ Below w.heap.size w w'))
    (H2 : Hid (∀ w, Calls Try.prog 43 #[.agg #[.int .u64 nh, .int .u64 nl], .agg #[.int .u64 0, .int .u64 rl]] w fun e w' => e = .returned (.tuple #[.agg #[.int .u64 dh, .int .u64 dl], .bool b1]) ∧ Below w.heap.size w w'))
    (H3 : Hid (∀ w, Calls Try.prog 43 #[.agg #[.int .u64 uh, .int .u64 ul], .agg #[.int .u64 0, .int .u64 rl]] w fun e w' => e = .returned (.tuple #[.agg #[.int .u64 lh, .int .u64 ll], .bool b2]) ∧ Below w.heap.size w w'))
    (H4 : Hid (∀ w, Calls Try.prog 44 #[.agg #[.int .u64 0, .int .u64 rl], .agg #[.int .u64 lh, .int .u64 ll]] w fun e w' => e = .returned (.int .i64 c) ∧ Below w.heap.size w w'))
    (H5 : Hid (∀ w, Calls Try.prog 46 #[.int .i64 m, .bool b, .bool o, .int .i64 c] w fun e w' => e = .returned (.bool av) ∧ Below w.heap.size w w'))
    (H6 : Hid (∀ w, Calls Try.prog 47 #[.agg #[.int .u64 dh, .int .u64 dl], .agg #[.int .u64 uh, .int .u64 ul]] w fun e w' => e = .returned (.tuple #[.agg #[.int .u64 fh, .int .u64 fl], .bool b3]) ∧ Below w.heap.size w w')) :
    Calls Try.prog 22 #[.agg #[.int .u64 nh, .int .u64 nl], .agg #[.int .u64 uh, .int .u64 ul], .int .i64 m, .bool b] w fun e w' => e = .returned (.agg #[.int .u64 (if av = true then fh else dh : Nat), .int .u64 (if av = true then fl else dl : Nat)]) ∧ Below w.heap.size w w' := by
  cases av
  · rw [if_neg (by decide), if_neg (by decide)]
    go_enter Try.func22, Try.ntmps22
    refine wp_shut ?_
    go_wp2_with fail
    
    refine (H1.out _).mono ?_
    rintro e V1 ⟨rfl, hb1⟩
    have B1 := Lib.hid (((((Below.refl w.heap.size w).alloc (Nat.le_refl _) _).alloc (by simp <;> omega) _).alloc (by simp <;> omega) _).trans (hb1.mono (by first | assumption | (simp <;> omega) | (simp; done))))
    have N1 := Lib.hid (row_call hb1 (row_alloc (row_alloc (heap_alloc_new _ _) _) _))
    have U1 := Lib.hid (row_at (k' := w.heap.size + 1) (by simp) (row_call hb1 (row_alloc (heap_alloc_new _ _) _)))
    have Z1 := Lib.hid (row_at (k' := w.heap.size + 1 + 1) (by simp) (row_call hb1 (heap_alloc_new _ _)))
    clear hb1
    have N1_0 : V1.cell? ⟨w.heap.size, 0, none⟩ = some (.int .u64 nh) := cell_of_row _ _ _ _ _ _ N1.out
    have N1_1 : V1.cell? ⟨w.heap.size, 1, none⟩ = some (.int .u64 nl) := cell_of_row _ _ _ _ _ _ N1.out
    have U1_0 : V1.cell? ⟨w.heap.size + 1, 0, none⟩ = some (.int .u64 uh) := cell_of_row _ _ _ _ _ _ U1.out
    have U1_1 : V1.cell? ⟨w.heap.size + 1, 1, none⟩ = some (.int .u64 ul) := cell_of_row _ _ _ _ _ _ U1.out
    have Z1_0 : V1.cell? ⟨w.heap.size + 1 + 1, 0, none⟩ = some (.int .u64 0) := cell_of_row _ _ _ _ _ _ Z1.out
    have Z1_1 : V1.cell? ⟨w.heap.size + 1 + 1, 1, none⟩ = some (.int .u64 0) := cell_of_row _ _ _ _ _ _ Z1.out
    have Z1_f0 : V1.frozen? ⟨w.heap.size + 1 + 1, 0, none⟩ = false := by simp [World.frozen?, Z1.out]
    have Z1_f1 : V1.frozen? ⟨w.heap.size + 1 + 1, 1, none⟩ = false := by simp [World.frozen?, Z1.out]
    have zN1 := lt_of_heap N1.out
    have zU1 := lt_of_heap U1.out
    have zZ1 := lt_of_heap Z1.out
    go_simp
    go_wp2_with fail
    refine (H2.out _).mono ?_
    rintro e V2 ⟨rfl, hb2⟩
    clear N1_0 N1_1 zN1 U1_0 U1_1 zU1 Z1_0 Z1_1 Z1_f0 Z1_f1 zZ1
    have nN1Q1 := Lib.hid (lt_of_heap N1.out)
    have nU1Q1 := Lib.hid (lt_of_heap U1.out)
    have nZ1Q1 := Lib.hid (lt_of_heap Z1.out)
    have nN1R1 := Lib.hid (lt_of_heap N1.out)
    have nU1R1 := Lib.hid (lt_of_heap U1.out)
    have nZ1R1 := Lib.hid (lt_of_heap Z1.out)
    have B2 := Lib.hid ((((B1.out).alloc (B1.out.size) _).alloc (by have := B1.out.size; simp <;> omega) _).trans (hb2.mono (by have := B1.out.size; first | assumption | (simp <;> omega) | (simp; done))))
    replace N1 := Lib.hid (row_call hb2 (row_alloc (row_alloc N1.out _) _))
    replace U1 := Lib.hid (row_call hb2 (row_alloc (row_alloc U1.out _) _))
    replace Z1 := Lib.hid (row_call hb2 (row_alloc (row_alloc Z1.out _) _))
    have Q1 := Lib.hid (row_call hb2 (row_alloc (heap_alloc_new _ _) _))
    have R1 := Lib.hid (row_at (k' := V1.heap.size + 1) (by simp) (row_call hb2 (heap_alloc_new _ _)))
    clear hb2
    have N1_0 : V2.cell? ⟨w.heap.size, 0, none⟩ = some (.int .u64 nh) := cell_of_row _ _ _ _ _ _ N1.out
    have N1_1 : V2.cell? ⟨w.heap.size, 1, none⟩ = some (.int .u64 nl) := cell_of_row _ _ _ _ _ _ N1.out
    have U1_0 : V2.cell? ⟨w.heap.size + 1, 0, none⟩ = some (.int .u64 uh) := cell_of_row _ _ _ _ _ _ U1.out
    have U1_1 : V2.cell? ⟨w.heap.size + 1, 1, none⟩ = some (.int .u64 ul) := cell_of_row _ _ _ _ _ _ U1.out
    have Z1_0 : V2.cell? ⟨w.heap.size + 1 + 1, 0, none⟩ = some (.int .u64 0) := cell_of_row _ _ _ _ _ _ Z1.out
    have Z1_1 : V2.cell? ⟨w.heap.size + 1 + 1, 1, none⟩ = some (.int .u64 0) := cell_of_row _ _ _ _ _ _ Z1.out
    have Z1_f0 : V2.frozen? ⟨w.heap.size + 1 + 1, 0, none⟩ = false := by simp [World.frozen?, Z1.out]
    have Z1_f1 : V2.frozen? ⟨w.heap.size + 1 + 1, 1, none⟩ = false := by simp [World.frozen?, Z1.out]
    have Q1_0 : V2.cell? ⟨V1.heap.size, 0, none⟩ = some (.int .u64 qh) := cell_of_row _ _ _ _ _ _ Q1.out
    have Q1_1 : V2.cell? ⟨V1.heap.size, 1, none⟩ = some (.int .u64 ql) := cell_of_row _ _ _ _ _ _ Q1.out
    have R1_0 : V2.cell? ⟨V1.heap.size + 1, 0, none⟩ = some (.int .u64 0) := cell_of_row _ _ _ _ _ _ R1.out
    have R1_1 : V2.cell? ⟨V1.heap.size + 1, 1, none⟩ = some (.int .u64 rl) := cell_of_row _ _ _ _ _ _ R1.out
    have zN1 := lt_of_heap N1.out
    have zU1 := lt_of_heap U1.out
    have zZ1 := lt_of_heap Z1.out
    have zQ1 := lt_of_heap Q1.out
    have zR1 := lt_of_heap R1.out
    go_simp
    go_wp2_with fail
    refine (H3.out _).mono ?_
    rintro e V3 ⟨rfl, hb3⟩
    clear N1_0 N1_1 zN1 U1_0 U1_1 zU1 Z1_0 Z1_1 Z1_f0 Z1_f1 zZ1 Q1_0 Q1_1 zQ1 R1_0 R1_1 zR1
    have nN1D1 := Lib.hid (lt_of_heap N1.out)
    have nU1D1 := Lib.hid (lt_of_heap U1.out)
    have nZ1D1 := Lib.hid (lt_of_heap Z1.out)
    have nQ1D1 := Lib.hid (lt_of_heap Q1.out)
    have nR1D1 := Lib.hid (lt_of_heap R1.out)
    have B3 := Lib.hid (((B2.out).alloc (B2.out.size) _).trans (hb3.mono (by have := B2.out.size; first | assumption | (simp <;> omega) | (simp; done))))
    replace N1 := Lib.hid (row_call hb3 (row_alloc N1.out _))
    replace U1 := Lib.hid (row_call hb3 (row_alloc U1.out _))
    replace Z1 := Lib.hid (row_call hb3 (row_alloc Z1.out _))
    replace Q1 := Lib.hid (row_call hb3 (row_alloc Q1.out _))
    replace R1 := Lib.hid (row_call hb3 (row_alloc R1.out _))
    have D1 := Lib.hid (row_call hb3 (heap_alloc_new _ _))
    clear hb3
    have N1_0 : V3.cell? ⟨w.heap.size, 0, none⟩ = some (.int .u64 nh) := cell_of_row _ _ _ _ _ _ N1.out
    have N1_1 : V3.cell? ⟨w.heap.size, 1, none⟩ = some (.int .u64 nl) := cell_of_row _ _ _ _ _ _ N1.out
    have U1_0 : V3.cell? ⟨w.heap.size + 1, 0, none⟩ = some (.int .u64 uh) := cell_of_row _ _ _ _ _ _ U1.out
    have U1_1 : V3.cell? ⟨w.heap.size + 1, 1, none⟩ = some (.int .u64 ul) := cell_of_row _ _ _ _ _ _ U1.out
    have Z1_0 : V3.cell? ⟨w.heap.size + 1 + 1, 0, none⟩ = some (.int .u64 0) := cell_of_row _ _ _ _ _ _ Z1.out
    have Z1_1 : V3.cell? ⟨w.heap.size + 1 + 1, 1, none⟩ = some (.int .u64 0) := cell_of_row _ _ _ _ _ _ Z1.out
    have Z1_f0 : V3.frozen? ⟨w.heap.size + 1 + 1, 0, none⟩ = false := by simp [World.frozen?, Z1.out]
    have Z1_f1 : V3.frozen? ⟨w.heap.size + 1 + 1, 1, none⟩ = false := by simp [World.frozen?, Z1.out]
    have Q1_0 : V3.cell? ⟨V1.heap.size, 0, none⟩ = some (.int .u64 qh) := cell_of_row _ _ _ _ _ _ Q1.out
    have Q1_1 : V3.cell? ⟨V1.heap.size, 1, none⟩ = some (.int .u64 ql) := cell_of_row _ _ _ _ _ _ Q1.out
    have R1_0 : V3.cell? ⟨V1.heap.size + 1, 0, none⟩ = some (.int .u64 0) := cell_of_row _ _ _ _ _ _ R1.out
    have R1_1 : V3.cell? ⟨V1.heap.size + 1, 1, none⟩ = some (.int .u64 rl) := cell_of_row _ _ _ _ _ _ R1.out
    have D1_0 : V3.cell? ⟨V2.heap.size, 0, none⟩ = some (.int .u64 dh) := cell_of_row _ _ _ _ _ _ D1.out
    have D1_1 : V3.cell? ⟨V2.heap.size, 1, none⟩ = some (.int .u64 dl) := cell_of_row _ _ _ _ _ _ D1.out
    have zN1 := lt_of_heap N1.out
    have zU1 := lt_of_heap U1.out
    have zZ1 := lt_of_heap Z1.out
    have zQ1 := lt_of_heap Q1.out
    have zR1 := lt_of_heap R1.out
    have zD1 := lt_of_heap D1.out
    go_simp
    go_wp2_with fail
    refine (H4.out _).mono ?_
    rintro e V4 ⟨rfl, hb4⟩
    clear N1_0 N1_1 zN1 U1_0 U1_1 zU1 Z1_0 Z1_1 Z1_f0 Z1_f1 zZ1 Q1_0 Q1_1 zQ1 R1_0 R1_1 zR1 D1_0 D1_1 zD1
    have nN1L1 := Lib.hid (lt_of_heap N1.out)
    have nU1L1 := Lib.hid (lt_of_heap U1.out)
    have nZ1L1 := Lib.hid (lt_of_heap Z1.out)
    have nQ1L1 := Lib.hid (lt_of_heap Q1.out)
    have nR1L1 := Lib.hid (lt_of_heap R1.out)
    have nD1L1 := Lib.hid (lt_of_heap D1.out)
    have B4 := Lib.hid (((B3.out).alloc (B3.out.size) _).trans (hb4.mono (by have := B3.out.size; first | assumption | (simp <;> omega) | (simp; done))))
    replace N1 := Lib.hid (row_call hb4 (row_alloc N1.out _))
    replace U1 := Lib.hid (row_call hb4 (row_alloc U1.out _))
    replace Z1 := Lib.hid (row_call hb4 (row_alloc Z1.out _))
    replace Q1 := Lib.hid (row_call hb4 (row_alloc Q1.out _))
    replace R1 := Lib.hid (row_call hb4 (row_alloc R1.out _))
    replace D1 := Lib.hid (row_call hb4 (row_alloc D1.out _))
    have L1 := Lib.hid (row_call hb4 (heap_alloc_new _ _))
    clear hb4
    have N1_0 : V4.cell? ⟨w.heap.size, 0, none⟩ = some (.int .u64 nh) := cell_of_row _ _ _ _ _ _ N1.out
    have N1_1 : V4.cell? ⟨w.heap.size, 1, none⟩ = some (.int .u64 nl) := cell_of_row _ _ _ _ _ _ N1.out
    have U1_0 : V4.cell? ⟨w.heap.size + 1, 0, none⟩ = some (.int .u64 uh) := cell_of_row _ _ _ _ _ _ U1.out
    have U1_1 : V4.cell? ⟨w.heap.size + 1, 1, none⟩ = some (.int .u64 ul) := cell_of_row _ _ _ _ _ _ U1.out
    have Z1_0 : V4.cell? ⟨w.heap.size + 1 + 1, 0, none⟩ = some (.int .u64 0) := cell_of_row _ _ _ _ _ _ Z1.out
    have Z1_1 : V4.cell? ⟨w.heap.size + 1 + 1, 1, none⟩ = some (.int .u64 0) := cell_of_row _ _ _ _ _ _ Z1.out
    have Z1_f0 : V4.frozen? ⟨w.heap.size + 1 + 1, 0, none⟩ = false := by simp [World.frozen?, Z1.out]
    have Z1_f1 : V4.frozen? ⟨w.heap.size + 1 + 1, 1, none⟩ = false := by simp [World.frozen?, Z1.out]
    have Q1_0 : V4.cell? ⟨V1.heap.size, 0, none⟩ = some (.int .u64 qh) := cell_of_row _ _ _ _ _ _ Q1.out
    have Q1_1 : V4.cell? ⟨V1.heap.size, 1, none⟩ = some (.int .u64 ql) := cell_of_row _ _ _ _ _ _ Q1.out
    have R1_0 : V4.cell? ⟨V1.heap.size + 1, 0, none⟩ = some (.int .u64 0) := cell_of_row _ _ _ _ _ _ R1.out
    have R1_1 : V4.cell? ⟨V1.heap.size + 1, 1, none⟩ = some (.int .u64 rl) := cell_of_row _ _ _ _ _ _ R1.out
    have D1_0 : V4.cell? ⟨V2.heap.size, 0, none⟩ = some (.int .u64 dh) := cell_of_row _ _ _ _ _ _ D1.out
    have D1_1 : V4.cell? ⟨V2.heap.size, 1, none⟩ = some (.int .u64 dl) := cell_of_row _ _ _ _ _ _ D1.out
    have L1_0 : V4.cell? ⟨V3.heap.size, 0, none⟩ = some (.int .u64 lh) := cell_of_row _ _ _ _ _ _ L1.out
    have L1_1 : V4.cell? ⟨V3.heap.size, 1, none⟩ = some (.int .u64 ll) := cell_of_row _ _ _ _ _ _ L1.out
    have zN1 := lt_of_heap N1.out
    have zU1 := lt_of_heap U1.out
    have zZ1 := lt_of_heap Z1.out
    have zQ1 := lt_of_heap Q1.out
    have zR1 := lt_of_heap R1.out
    have zD1 := lt_of_heap D1.out
    have zL1 := lt_of_heap L1.out
    go_simp
    go_wp2_with fail
    refine (H5.out _).mono ?_
    rintro e V5 ⟨rfl, hb5⟩
    clear N1_0 N1_1 zN1 U1_0 U1_1 zU1 Z1_0 Z1_1 Z1_f0 Z1_f1 zZ1 Q1_0 Q1_1 zQ1 R1_0 R1_1 zR1 D1_0 D1_1 zD1 L1_0 L1_1 zL1
    have B5 : Hid (Below w.heap.size w V5) := by first | exact Lib.hid ((B4.out).trans (hb5.mono (by have := B4.out.size; first | assumption | (simp <;> omega) | (simp; done)))) | exact Lib.hid (((B4.out).alloc (B4.out.size) _).trans (hb5.mono (by have := B4.out.size; first | assumption | (simp <;> omega) | (simp; done)))) | exact Lib.hid ((((B4.out).alloc (B4.out.size) _).alloc (by have := B4.out.size; simp <;> omega) _).trans (hb5.mono (by have := B4.out.size; first | assumption | (simp <;> omega) | (simp; done)))) | exact Lib.hid (((((B4.out).alloc (B4.out.size) _).alloc (by have := B4.out.size; simp <;> omega) _).alloc (by have := B4.out.size; simp <;> omega) _).trans (hb5.mono (by have := B4.out.size; first | assumption | (simp <;> omega) | (simp; done))))
    first | replace N1 := Lib.hid (row_call hb5 N1.out) | replace N1 := Lib.hid (row_call hb5 (row_alloc N1.out _)) | replace N1 := Lib.hid (row_call hb5 (row_alloc (row_alloc N1.out _) _)) | replace N1 := Lib.hid (row_call hb5 (row_alloc (row_alloc (row_alloc N1.out _) _) _))
    first | replace U1 := Lib.hid (row_call hb5 U1.out) | replace U1 := Lib.hid (row_call hb5 (row_alloc U1.out _)) | replace U1 := Lib.hid (row_call hb5 (row_alloc (row_alloc U1.out _) _)) | replace U1 := Lib.hid (row_call hb5 (row_alloc (row_alloc (row_alloc U1.out _) _) _))
    first | replace Z1 := Lib.hid (row_call hb5 Z1.out) | replace Z1 := Lib.hid (row_call hb5 (row_alloc Z1.out _)) | replace Z1 := Lib.hid (row_call hb5 (row_alloc (row_alloc Z1.out _) _)) | replace Z1 := Lib.hid (row_call hb5 (row_alloc (row_alloc (row_alloc Z1.out _) _) _))
    first | replace Q1 := Lib.hid (row_call hb5 Q1.out) | replace Q1 := Lib.hid (row_call hb5 (row_alloc Q1.out _)) | replace Q1 := Lib.hid (row_call hb5 (row_alloc (row_alloc Q1.out _) _)) | replace Q1 := Lib.hid (row_call hb5 (row_alloc (row_alloc (row_alloc Q1.out _) _) _))
    first | replace R1 := Lib.hid (row_call hb5 R1.out) | replace R1 := Lib.hid (row_call hb5 (row_alloc R1.out _)) | replace R1 := Lib.hid (row_call hb5 (row_alloc (row_alloc R1.out _) _)) | replace R1 := Lib.hid (row_call hb5 (row_alloc (row_alloc (row_alloc R1.out _) _) _))
    first | replace D1 := Lib.hid (row_call hb5 D1.out) | replace D1 := Lib.hid (row_call hb5 (row_alloc D1.out _)) | replace D1 := Lib.hid (row_call hb5 (row_alloc (row_alloc D1.out _) _)) | replace D1 := Lib.hid (row_call hb5 (row_alloc (row_alloc (row_alloc D1.out _) _) _))
    first | replace L1 := Lib.hid (row_call hb5 L1.out) | replace L1 := Lib.hid (row_call hb5 (row_alloc L1.out _)) | replace L1 := Lib.hid (row_call hb5 (row_alloc (row_alloc L1.out _) _)) | replace L1 := Lib.hid (row_call hb5 (row_alloc (row_alloc (row_alloc L1.out _) _) _))
    clear hb5
    have N1_0 : V5.cell? ⟨w.heap.size, 0, none⟩ = some (.int .u64 nh) := cell_of_row _ _ _ _ _ _ N1.out
    have N1_1 : V5.cell? ⟨w.heap.size, 1, none⟩ = some (.int .u64 nl) := cell_of_row _ _ _ _ _ _ N1.out
    have U1_0 : V5.cell? ⟨w.heap.size + 1, 0, none⟩ = some (.int .u64 uh) := cell_of_row _ _ _ _ _ _ U1.out
    have U1_1 : V5.cell? ⟨w.heap.size + 1, 1, none⟩ = some (.int .u64 ul) := cell_of_row _ _ _ _ _ _ U1.out
    have Z1_0 : V5.cell? ⟨w.heap.size + 1 + 1, 0, none⟩ = some (.int .u64 0) := cell_of_row _ _ _ _ _ _ Z1.out
    have Z1_1 : V5.cell? ⟨w.heap.size + 1 + 1, 1, none⟩ = some (.int .u64 0) := cell_of_row _ _ _ _ _ _ Z1.out
    have Z1_f0 : V5.frozen? ⟨w.heap.size + 1 + 1, 0, none⟩ = false := by simp [World.frozen?, Z1.out]
    have Z1_f1 : V5.frozen? ⟨w.heap.size + 1 + 1, 1, none⟩ = false := by simp [World.frozen?, Z1.out]
    have Q1_0 : V5.cell? ⟨V1.heap.size, 0, none⟩ = some (.int .u64 qh) := cell_of_row _ _ _ _ _ _ Q1.out
    have Q1_1 : V5.cell? ⟨V1.heap.size, 1, none⟩ = some (.int .u64 ql) := cell_of_row _ _ _ _ _ _ Q1.out
    have R1_0 : V5.cell? ⟨V1.heap.size + 1, 0, none⟩ = some (.int .u64 0) := cell_of_row _ _ _ _ _ _ R1.out
    have R1_1 : V5.cell? ⟨V1.heap.size + 1, 1, none⟩ = some (.int .u64 rl) := cell_of_row _ _ _ _ _ _ R1.out
    have D1_0 : V5.cell? ⟨V2.heap.size, 0, none⟩ = some (.int .u64 dh) := cell_of_row _ _ _ _ _ _ D1.out
    have D1_1 : V5.cell? ⟨V2.heap.size, 1, none⟩ = some (.int .u64 dl) := cell_of_row _ _ _ _ _ _ D1.out
    have L1_0 : V5.cell? ⟨V3.heap.size, 0, none⟩ = some (.int .u64 lh) := cell_of_row _ _ _ _ _ _ L1.out
    have L1_1 : V5.cell? ⟨V3.heap.size, 1, none⟩ = some (.int .u64 ll) := cell_of_row _ _ _ _ _ _ L1.out
    have zN1 := lt_of_heap N1.out
    have zU1 := lt_of_heap U1.out
    have zZ1 := lt_of_heap Z1.out
    have zQ1 := lt_of_heap Q1.out
    have zR1 := lt_of_heap R1.out
    have zD1 := lt_of_heap D1.out
    have zL1 := lt_of_heap L1.out
    go_simp
    go_wp2
    refine shut_ret (v := .agg #[.int .u64 dh, .int .u64 dl]) (by simp [results, Try.results22, go_sem, zZ1, Z1_0, Z1_1]) rfl ⟨rfl, ?_⟩
    exact keep2 B5.out (by omega) _ _
  · rw [if_pos rfl, if_pos rfl]
    go_enter Try.func22, Try.ntmps22
    refine wp_shut ?_
    go_wp2_with fail
    
    refine (H1.out _).mono ?_
    rintro e V1 ⟨rfl, hb1⟩
    have B1 := Lib.hid (((((Below.refl w.heap.size w).alloc (Nat.le_refl _) _).alloc (by simp <;> omega) _).alloc (by simp <;> omega) _).trans (hb1.mono (by first | assumption | (simp <;> omega) | (simp; done))))
    have N1 := Lib.hid (row_call hb1 (row_alloc (row_alloc (heap_alloc_new _ _) _) _))
    have U1 := Lib.hid (row_at (k' := w.heap.size + 1) (by simp) (row_call hb1 (row_alloc (heap_alloc_new _ _) _)))
    have Z1 := Lib.hid (row_at (k' := w.heap.size + 1 + 1) (by simp) (row_call hb1 (heap_alloc_new _ _)))
    clear hb1
    have N1_0 : V1.cell? ⟨w.heap.size, 0, none⟩ = some (.int .u64 nh) := cell_of_row _ _ _ _ _ _ N1.out
    have N1_1 : V1.cell? ⟨w.heap.size, 1, none⟩ = some (.int .u64 nl) := cell_of_row _ _ _ _ _ _ N1.out
    have U1_0 : V1.cell? ⟨w.heap.size + 1, 0, none⟩ = some (.int .u64 uh) := cell_of_row _ _ _ _ _ _ U1.out
    have U1_1 : V1.cell? ⟨w.heap.size + 1, 1, none⟩ = some (.int .u64 ul) := cell_of_row _ _ _ _ _ _ U1.out
    have Z1_0 : V1.cell? ⟨w.heap.size + 1 + 1, 0, none⟩ = some (.int .u64 0) := cell_of_row _ _ _ _ _ _ Z1.out
    have Z1_1 : V1.cell? ⟨w.heap.size + 1 + 1, 1, none⟩ = some (.int .u64 0) := cell_of_row _ _ _ _ _ _ Z1.out
    have Z1_f0 : V1.frozen? ⟨w.heap.size + 1 + 1, 0, none⟩ = false := by simp [World.frozen?, Z1.out]
    have Z1_f1 : V1.frozen? ⟨w.heap.size + 1 + 1, 1, none⟩ = false := by simp [World.frozen?, Z1.out]
    have zN1 := lt_of_heap N1.out
    have zU1 := lt_of_heap U1.out
    have zZ1 := lt_of_heap Z1.out
    go_simp
    go_wp2_with fail
    refine (H2.out _).mono ?_
    rintro e V2 ⟨rfl, hb2⟩
    clear N1_0 N1_1 zN1 U1_0 U1_1 zU1 Z1_0 Z1_1 Z1_f0 Z1_f1 zZ1
    have nN1Q1 := Lib.hid (lt_of_heap N1.out)
    have nU1Q1 := Lib.hid (lt_of_heap U1.out)
    have nZ1Q1 := Lib.hid (lt_of_heap Z1.out)
    have nN1R1 := Lib.hid (lt_of_heap N1.out)
    have nU1R1 := Lib.hid (lt_of_heap U1.out)
    have nZ1R1 := Lib.hid (lt_of_heap Z1.out)
    have B2 := Lib.hid ((((B1.out).alloc (B1.out.size) _).alloc (by have := B1.out.size; simp <;> omega) _).trans (hb2.mono (by have := B1.out.size; first | assumption | (simp <;> omega) | (simp; done))))
    replace N1 := Lib.hid (row_call hb2 (row_alloc (row_alloc N1.out _) _))
    replace U1 := Lib.hid (row_call hb2 (row_alloc (row_alloc U1.out _) _))
    replace Z1 := Lib.hid (row_call hb2 (row_alloc (row_alloc Z1.out _) _))
    have Q1 := Lib.hid (row_call hb2 (row_alloc (heap_alloc_new _ _) _))
    have R1 := Lib.hid (row_at (k' := V1.heap.size + 1) (by simp) (row_call hb2 (heap_alloc_new _ _)))
    clear hb2
    have N1_0 : V2.cell? ⟨w.heap.size, 0, none⟩ = some (.int .u64 nh) := cell_of_row _ _ _ _ _ _ N1.out
    have N1_1 : V2.cell? ⟨w.heap.size, 1, none⟩ = some (.int .u64 nl) := cell_of_row _ _ _ _ _ _ N1.out
    have U1_0 : V2.cell? ⟨w.heap.size + 1, 0, none⟩ = some (.int .u64 uh) := cell_of_row _ _ _ _ _ _ U1.out
    have U1_1 : V2.cell? ⟨w.heap.size + 1, 1, none⟩ = some (.int .u64 ul) := cell_of_row _ _ _ _ _ _ U1.out
    have Z1_0 : V2.cell? ⟨w.heap.size + 1 + 1, 0, none⟩ = some (.int .u64 0) := cell_of_row _ _ _ _ _ _ Z1.out
    have Z1_1 : V2.cell? ⟨w.heap.size + 1 + 1, 1, none⟩ = some (.int .u64 0) := cell_of_row _ _ _ _ _ _ Z1.out
    have Z1_f0 : V2.frozen? ⟨w.heap.size + 1 + 1, 0, none⟩ = false := by simp [World.frozen?, Z1.out]
    have Z1_f1 : V2.frozen? ⟨w.heap.size + 1 + 1, 1, none⟩ = false := by simp [World.frozen?, Z1.out]
    have Q1_0 : V2.cell? ⟨V1.heap.size, 0, none⟩ = some (.int .u64 qh) := cell_of_row _ _ _ _ _ _ Q1.out
    have Q1_1 : V2.cell? ⟨V1.heap.size, 1, none⟩ = some (.int .u64 ql) := cell_of_row _ _ _ _ _ _ Q1.out
    have R1_0 : V2.cell? ⟨V1.heap.size + 1, 0, none⟩ = some (.int .u64 0) := cell_of_row _ _ _ _ _ _ R1.out
    have R1_1 : V2.cell? ⟨V1.heap.size + 1, 1, none⟩ = some (.int .u64 rl) := cell_of_row _ _ _ _ _ _ R1.out
    have zN1 := lt_of_heap N1.out
    have zU1 := lt_of_heap U1.out
    have zZ1 := lt_of_heap Z1.out
    have zQ1 := lt_of_heap Q1.out
    have zR1 := lt_of_heap R1.out
    go_simp
    go_wp2_with fail
    refine (H3.out _).mono ?_
    rintro e V3 ⟨rfl, hb3⟩
    clear N1_0 N1_1 zN1 U1_0 U1_1 zU1 Z1_0 Z1_1 Z1_f0 Z1_f1 zZ1 Q1_0 Q1_1 zQ1 R1_0 R1_1 zR1
    have nN1D1 := Lib.hid (lt_of_heap N1.out)
    have nU1D1 := Lib.hid (lt_of_heap U1.out)
    have nZ1D1 := Lib.hid (lt_of_heap Z1.out)
    have nQ1D1 := Lib.hid (lt_of_heap Q1.out)
    have nR1D1 := Lib.hid (lt_of_heap R1.out)
    have B3 := Lib.hid (((B2.out).alloc (B2.out.size) _).trans (hb3.mono (by have := B2.out.size; first | assumption | (simp <;> omega) | (simp; done))))
    replace N1 := Lib.hid (row_call hb3 (row_alloc N1.out _))
    replace U1 := Lib.hid (row_call hb3 (row_alloc U1.out _))
    replace Z1 := Lib.hid (row_call hb3 (row_alloc Z1.out _))
    replace Q1 := Lib.hid (row_call hb3 (row_alloc Q1.out _))
    replace R1 := Lib.hid (row_call hb3 (row_alloc R1.out _))
    have D1 := Lib.hid (row_call hb3 (heap_alloc_new _ _))
    clear hb3
    have N1_0 : V3.cell? ⟨w.heap.size, 0, none⟩ = some (.int .u64 nh) := cell_of_row _ _ _ _ _ _ N1.out
    have N1_1 : V3.cell? ⟨w.heap.size, 1, none⟩ = some (.int .u64 nl) := cell_of_row _ _ _ _ _ _ N1.out
    have U1_0 : V3.cell? ⟨w.heap.size + 1, 0, none⟩ = some (.int .u64 uh) := cell_of_row _ _ _ _ _ _ U1.out
    have U1_1 : V3.cell? ⟨w.heap.size + 1, 1, none⟩ = some (.int .u64 ul) := cell_of_row _ _ _ _ _ _ U1.out
    have Z1_0 : V3.cell? ⟨w.heap.size + 1 + 1, 0, none⟩ = some (.int .u64 0) := cell_of_row _ _ _ _ _ _ Z1.out
    have Z1_1 : V3.cell? ⟨w.heap.size + 1 + 1, 1, none⟩ = some (.int .u64 0) := cell_of_row _ _ _ _ _ _ Z1.out
    have Z1_f0 : V3.frozen? ⟨w.heap.size + 1 + 1, 0, none⟩ = false := by simp [World.frozen?, Z1.out]
    have Z1_f1 : V3.frozen? ⟨w.heap.size + 1 + 1, 1, none⟩ = false := by simp [World.frozen?, Z1.out]
    have Q1_0 : V3.cell? ⟨V1.heap.size, 0, none⟩ = some (.int .u64 qh) := cell_of_row _ _ _ _ _ _ Q1.out
    have Q1_1 : V3.cell? ⟨V1.heap.size, 1, none⟩ = some (.int .u64 ql) := cell_of_row _ _ _ _ _ _ Q1.out
    have R1_0 : V3.cell? ⟨V1.heap.size + 1, 0, none⟩ = some (.int .u64 0) := cell_of_row _ _ _ _ _ _ R1.out
    have R1_1 : V3.cell? ⟨V1.heap.size + 1, 1, none⟩ = some (.int .u64 rl) := cell_of_row _ _ _ _ _ _ R1.out
    have D1_0 : V3.cell? ⟨V2.heap.size, 0, none⟩ = some (.int .u64 dh) := cell_of_row _ _ _ _ _ _ D1.out
    have D1_1 : V3.cell? ⟨V2.heap.size, 1, none⟩ = some (.int .u64 dl) := cell_of_row _ _ _ _ _ _ D1.out
    have zN1 := lt_of_heap N1.out
    have zU1 := lt_of_heap U1.out
    have zZ1 := lt_of_heap Z1.out
    have zQ1 := lt_of_heap Q1.out
    have zR1 := lt_of_heap R1.out
    have zD1 := lt_of_heap D1.out
    go_simp
    go_wp2_with fail
    refine (H4.out _).mono ?_
    rintro e V4 ⟨rfl, hb4⟩
    clear N1_0 N1_1 zN1 U1_0 U1_1 zU1 Z1_0 Z1_1 Z1_f0 Z1_f1 zZ1 Q1_0 Q1_1 zQ1 R1_0 R1_1 zR1 D1_0 D1_1 zD1
    have nN1L1 := Lib.hid (lt_of_heap N1.out)
    have nU1L1 := Lib.hid (lt_of_heap U1.out)
    have nZ1L1 := Lib.hid (lt_of_heap Z1.out)
    have nQ1L1 := Lib.hid (lt_of_heap Q1.out)
    have nR1L1 := Lib.hid (lt_of_heap R1.out)
    have nD1L1 := Lib.hid (lt_of_heap D1.out)
    have B4 := Lib.hid (((B3.out).alloc (B3.out.size) _).trans (hb4.mono (by have := B3.out.size; first | assumption | (simp <;> omega) | (simp; done))))
    replace N1 := Lib.hid (row_call hb4 (row_alloc N1.out _))
    replace U1 := Lib.hid (row_call hb4 (row_alloc U1.out _))
    replace Z1 := Lib.hid (row_call hb4 (row_alloc Z1.out _))
    replace Q1 := Lib.hid (row_call hb4 (row_alloc Q1.out _))
    replace R1 := Lib.hid (row_call hb4 (row_alloc R1.out _))
    replace D1 := Lib.hid (row_call hb4 (row_alloc D1.out _))
    have L1 := Lib.hid (row_call hb4 (heap_alloc_new _ _))
    clear hb4
    have N1_0 : V4.cell? ⟨w.heap.size, 0, none⟩ = some (.int .u64 nh) := cell_of_row _ _ _ _ _ _ N1.out
    have N1_1 : V4.cell? ⟨w.heap.size, 1, none⟩ = some (.int .u64 nl) := cell_of_row _ _ _ _ _ _ N1.out
    have U1_0 : V4.cell? ⟨w.heap.size + 1, 0, none⟩ = some (.int .u64 uh) := cell_of_row _ _ _ _ _ _ U1.out
    have U1_1 : V4.cell? ⟨w.heap.size + 1, 1, none⟩ = some (.int .u64 ul) := cell_of_row _ _ _ _ _ _ U1.out
    have Z1_0 : V4.cell? ⟨w.heap.size + 1 + 1, 0, none⟩ = some (.int .u64 0) := cell_of_row _ _ _ _ _ _ Z1.out
    have Z1_1 : V4.cell? ⟨w.heap.size + 1 + 1, 1, none⟩ = some (.int .u64 0) := cell_of_row _ _ _ _ _ _ Z1.out
    have Z1_f0 : V4.frozen? ⟨w.heap.size + 1 + 1, 0, none⟩ = false := by simp [World.frozen?, Z1.out]
    have Z1_f1 : V4.frozen? ⟨w.heap.size + 1 + 1, 1, none⟩ = false := by simp [World.frozen?, Z1.out]
    have Q1_0 : V4.cell? ⟨V1.heap.size, 0, none⟩ = some (.int .u64 qh) := cell_of_row _ _ _ _ _ _ Q1.out
    have Q1_1 : V4.cell? ⟨V1.heap.size, 1, none⟩ = some (.int .u64 ql) := cell_of_row _ _ _ _ _ _ Q1.out
    have R1_0 : V4.cell? ⟨V1.heap.size + 1, 0, none⟩ = some (.int .u64 0) := cell_of_row _ _ _ _ _ _ R1.out
    have R1_1 : V4.cell? ⟨V1.heap.size + 1, 1, none⟩ = some (.int .u64 rl) := cell_of_row _ _ _ _ _ _ R1.out
    have D1_0 : V4.cell? ⟨V2.heap.size, 0, none⟩ = some (.int .u64 dh) := cell_of_row _ _ _ _ _ _ D1.out
    have D1_1 : V4.cell? ⟨V2.heap.size, 1, none⟩ = some (.int .u64 dl) := cell_of_row _ _ _ _ _ _ D1.out
    have L1_0 : V4.cell? ⟨V3.heap.size, 0, none⟩ = some (.int .u64 lh) := cell_of_row _ _ _ _ _ _ L1.out
    have L1_1 : V4.cell? ⟨V3.heap.size, 1, none⟩ = some (.int .u64 ll) := cell_of_row _ _ _ _ _ _ L1.out
    have zN1 := lt_of_heap N1.out
    have zU1 := lt_of_heap U1.out
    have zZ1 := lt_of_heap Z1.out
    have zQ1 := lt_of_heap Q1.out
    have zR1 := lt_of_heap R1.out
    have zD1 := lt_of_heap D1.out
    have zL1 := lt_of_heap L1.out
    go_simp
    go_wp2_with fail
    refine (H5.out _).mono ?_
    rintro e V5 ⟨rfl, hb5⟩
    clear N1_0 N1_1 zN1 U1_0 U1_1 zU1 Z1_0 Z1_1 Z1_f0 Z1_f1 zZ1 Q1_0 Q1_1 zQ1 R1_0 R1_1 zR1 D1_0 D1_1 zD1 L1_0 L1_1 zL1
    have B5 : Hid (Below w.heap.size w V5) := by first | exact Lib.hid ((B4.out).trans (hb5.mono (by have := B4.out.size; first | assumption | (simp <;> omega) | (simp; done)))) | exact Lib.hid (((B4.out).alloc (B4.out.size) _).trans (hb5.mono (by have := B4.out.size; first | assumption | (simp <;> omega) | (simp; done)))) | exact Lib.hid ((((B4.out).alloc (B4.out.size) _).alloc (by have := B4.out.size; simp <;> omega) _).trans (hb5.mono (by have := B4.out.size; first | assumption | (simp <;> omega) | (simp; done)))) | exact Lib.hid (((((B4.out).alloc (B4.out.size) _).alloc (by have := B4.out.size; simp <;> omega) _).alloc (by have := B4.out.size; simp <;> omega) _).trans (hb5.mono (by have := B4.out.size; first | assumption | (simp <;> omega) | (simp; done))))
    first | replace N1 := Lib.hid (row_call hb5 N1.out) | replace N1 := Lib.hid (row_call hb5 (row_alloc N1.out _)) | replace N1 := Lib.hid (row_call hb5 (row_alloc (row_alloc N1.out _) _)) | replace N1 := Lib.hid (row_call hb5 (row_alloc (row_alloc (row_alloc N1.out _) _) _))
    first | replace U1 := Lib.hid (row_call hb5 U1.out) | replace U1 := Lib.hid (row_call hb5 (row_alloc U1.out _)) | replace U1 := Lib.hid (row_call hb5 (row_alloc (row_alloc U1.out _) _)) | replace U1 := Lib.hid (row_call hb5 (row_alloc (row_alloc (row_alloc U1.out _) _) _))
    first | replace Z1 := Lib.hid (row_call hb5 Z1.out) | replace Z1 := Lib.hid (row_call hb5 (row_alloc Z1.out _)) | replace Z1 := Lib.hid (row_call hb5 (row_alloc (row_alloc Z1.out _) _)) | replace Z1 := Lib.hid (row_call hb5 (row_alloc (row_alloc (row_alloc Z1.out _) _) _))
    first | replace Q1 := Lib.hid (row_call hb5 Q1.out) | replace Q1 := Lib.hid (row_call hb5 (row_alloc Q1.out _)) | replace Q1 := Lib.hid (row_call hb5 (row_alloc (row_alloc Q1.out _) _)) | replace Q1 := Lib.hid (row_call hb5 (row_alloc (row_alloc (row_alloc Q1.out _) _) _))
    first | replace R1 := Lib.hid (row_call hb5 R1.out) | replace R1 := Lib.hid (row_call hb5 (row_alloc R1.out _)) | replace R1 := Lib.hid (row_call hb5 (row_alloc (row_alloc R1.out _) _)) | replace R1 := Lib.hid (row_call hb5 (row_alloc (row_alloc (row_alloc R1.out _) _) _))
    first | replace D1 := Lib.hid (row_call hb5 D1.out) | replace D1 := Lib.hid (row_call hb5 (row_alloc D1.out _)) | replace D1 := Lib.hid (row_call hb5 (row_alloc (row_alloc D1.out _) _)) | replace D1 := Lib.hid (row_call hb5 (row_alloc (row_alloc (row_alloc D1.out _) _) _))
    first | replace L1 := Lib.hid (row_call hb5 L1.out) | replace L1 := Lib.hid (row_call hb5 (row_alloc L1.out _)) | replace L1 := Lib.hid (row_call hb5 (row_alloc (row_alloc L1.out _) _)) | replace L1 := Lib.hid (row_call hb5 (row_alloc (row_alloc (row_alloc L1.out _) _) _))
    clear hb5
    have N1_0 : V5.cell? ⟨w.heap.size, 0, none⟩ = some (.int .u64 nh) := cell_of_row _ _ _ _ _ _ N1.out
    have N1_1 : V5.cell? ⟨w.heap.size, 1, none⟩ = some (.int .u64 nl) := cell_of_row _ _ _ _ _ _ N1.out
    have U1_0 : V5.cell? ⟨w.heap.size + 1, 0, none⟩ = some (.int .u64 uh) := cell_of_row _ _ _ _ _ _ U1.out
    have U1_1 : V5.cell? ⟨w.heap.size + 1, 1, none⟩ = some (.int .u64 ul) := cell_of_row _ _ _ _ _ _ U1.out
    have Z1_0 : V5.cell? ⟨w.heap.size + 1 + 1, 0, none⟩ = some (.int .u64 0) := cell_of_row _ _ _ _ _ _ Z1.out
    have Z1_1 : V5.cell? ⟨w.heap.size + 1 + 1, 1, none⟩ = some (.int .u64 0) := cell_of_row _ _ _ _ _ _ Z1.out
    have Z1_f0 : V5.frozen? ⟨w.heap.size + 1 + 1, 0, none⟩ = false := by simp [World.frozen?, Z1.out]
    have Z1_f1 : V5.frozen? ⟨w.heap.size + 1 + 1, 1, none⟩ = false := by simp [World.frozen?, Z1.out]
    have Q1_0 : V5.cell? ⟨V1.heap.size, 0, none⟩ = some (.int .u64 qh) := cell_of_row _ _ _ _ _ _ Q1.out
    have Q1_1 : V5.cell? ⟨V1.heap.size, 1, none⟩ = some (.int .u64 ql) := cell_of_row _ _ _ _ _ _ Q1.out
    have R1_0 : V5.cell? ⟨V1.heap.size + 1, 0, none⟩ = some (.int .u64 0) := cell_of_row _ _ _ _ _ _ R1.out
    have R1_1 : V5.cell? ⟨V1.heap.size + 1, 1, none⟩ = some (.int .u64 rl) := cell_of_row _ _ _ _ _ _ R1.out
    have D1_0 : V5.cell? ⟨V2.heap.size, 0, none⟩ = some (.int .u64 dh) := cell_of_row _ _ _ _ _ _ D1.out
    have D1_1 : V5.cell? ⟨V2.heap.size, 1, none⟩ = some (.int .u64 dl) := cell_of_row _ _ _ _ _ _ D1.out
    have L1_0 : V5.cell? ⟨V3.heap.size, 0, none⟩ = some (.int .u64 lh) := cell_of_row _ _ _ _ _ _ L1.out
    have L1_1 : V5.cell? ⟨V3.heap.size, 1, none⟩ = some (.int .u64 ll) := cell_of_row _ _ _ _ _ _ L1.out
    have zN1 := lt_of_heap N1.out
    have zU1 := lt_of_heap U1.out
    have zZ1 := lt_of_heap Z1.out
    have zQ1 := lt_of_heap Q1.out
    have zR1 := lt_of_heap R1.out
    have zD1 := lt_of_heap D1.out
    have zL1 := lt_of_heap L1.out
    go_simp
    go_wp2_with fail
    refine (H6.out _).mono ?_
    rintro e V6 ⟨rfl, hb6⟩
    clear N1_0 N1_1 zN1 U1_0 U1_1 zU1 Z1_0 Z1_1 Z1_f0 Z1_f1 zZ1 Q1_0 Q1_1 zQ1 R1_0 R1_1 zR1 D1_0 D1_1 zD1 L1_0 L1_1 zL1
    have B6 : Hid (Below w.heap.size w V6) := by first | exact Lib.hid ((B5.out).trans (hb6.mono (by have := B5.out.size; first | assumption | (simp <;> omega) | (simp; done)))) | exact Lib.hid (((B5.out).alloc (B5.out.size) _).trans (hb6.mono (by have := B5.out.size; first | assumption | (simp <;> omega) | (simp; done)))) | exact Lib.hid ((((B5.out).alloc (B5.out.size) _).alloc (by have := B5.out.size; simp <;> omega) _).trans (hb6.mono (by have := B5.out.size; first | assumption | (simp <;> omega) | (simp; done)))) | exact Lib.hid (((((B5.out).alloc (B5.out.size) _).alloc (by have := B5.out.size; simp <;> omega) _).alloc (by have := B5.out.size; simp <;> omega) _).trans (hb6.mono (by have := B5.out.size; first | assumption | (simp <;> omega) | (simp; done))))
    first | replace N1 := Lib.hid (row_call hb6 N1.out) | replace N1 := Lib.hid (row_call hb6 (row_alloc N1.out _)) | replace N1 := Lib.hid (row_call hb6 (row_alloc (row_alloc N1.out _) _)) | replace N1 := Lib.hid (row_call hb6 (row_alloc (row_alloc (row_alloc N1.out _) _) _))
    first | replace U1 := Lib.hid (row_call hb6 U1.out) | replace U1 := Lib.hid (row_call hb6 (row_alloc U1.out _)) | replace U1 := Lib.hid (row_call hb6 (row_alloc (row_alloc U1.out _) _)) | replace U1 := Lib.hid (row_call hb6 (row_alloc (row_alloc (row_alloc U1.out _) _) _))
    first | replace Z1 := Lib.hid (row_call hb6 Z1.out) | replace Z1 := Lib.hid (row_call hb6 (row_alloc Z1.out _)) | replace Z1 := Lib.hid (row_call hb6 (row_alloc (row_alloc Z1.out _) _)) | replace Z1 := Lib.hid (row_call hb6 (row_alloc (row_alloc (row_alloc Z1.out _) _) _))
    first | replace Q1 := Lib.hid (row_call hb6 Q1.out) | replace Q1 := Lib.hid (row_call hb6 (row_alloc Q1.out _)) | replace Q1 := Lib.hid (row_call hb6 (row_alloc (row_alloc Q1.out _) _)) | replace Q1 := Lib.hid (row_call hb6 (row_alloc (row_alloc (row_alloc Q1.out _) _) _))
    first | replace R1 := Lib.hid (row_call hb6 R1.out) | replace R1 := Lib.hid (row_call hb6 (row_alloc R1.out _)) | replace R1 := Lib.hid (row_call hb6 (row_alloc (row_alloc R1.out _) _)) | replace R1 := Lib.hid (row_call hb6 (row_alloc (row_alloc (row_alloc R1.out _) _) _))
    first | replace D1 := Lib.hid (row_call hb6 D1.out) | replace D1 := Lib.hid (row_call hb6 (row_alloc D1.out _)) | replace D1 := Lib.hid (row_call hb6 (row_alloc (row_alloc D1.out _) _)) | replace D1 := Lib.hid (row_call hb6 (row_alloc (row_alloc (row_alloc D1.out _) _) _))
    first | replace L1 := Lib.hid (row_call hb6 L1.out) | replace L1 := Lib.hid (row_call hb6 (row_alloc L1.out _)) | replace L1 := Lib.hid (row_call hb6 (row_alloc (row_alloc L1.out _) _)) | replace L1 := Lib.hid (row_call hb6 (row_alloc (row_alloc (row_alloc L1.out _) _) _))
    clear hb6
    have N1_0 : V6.cell? ⟨w.heap.size, 0, none⟩ = some (.int .u64 nh) := cell_of_row _ _ _ _ _ _ N1.out
    have N1_1 : V6.cell? ⟨w.heap.size, 1, none⟩ = some (.int .u64 nl) := cell_of_row _ _ _ _ _ _ N1.out
    have U1_0 : V6.cell? ⟨w.heap.size + 1, 0, none⟩ = some (.int .u64 uh) := cell_of_row _ _ _ _ _ _ U1.out
    have U1_1 : V6.cell? ⟨w.heap.size + 1, 1, none⟩ = some (.int .u64 ul) := cell_of_row _ _ _ _ _ _ U1.out
    have Z1_0 : V6.cell? ⟨w.heap.size + 1 + 1, 0, none⟩ = some (.int .u64 0) := cell_of_row _ _ _ _ _ _ Z1.out
    have Z1_1 : V6.cell? ⟨w.heap.size + 1 + 1, 1, none⟩ = some (.int .u64 0) := cell_of_row _ _ _ _ _ _ Z1.out
    have Z1_f0 : V6.frozen? ⟨w.heap.size + 1 + 1, 0, none⟩ = false := by simp [World.frozen?, Z1.out]
    have Z1_f1 : V6.frozen? ⟨w.heap.size + 1 + 1, 1, none⟩ = false := by simp [World.frozen?, Z1.out]
    have Q1_0 : V6.cell? ⟨V1.heap.size, 0, none⟩ = some (.int .u64 qh) := cell_of_row _ _ _ _ _ _ Q1.out
    have Q1_1 : V6.cell? ⟨V1.heap.size, 1, none⟩ = some (.int .u64 ql) := cell_of_row _ _ _ _ _ _ Q1.out
    have R1_0 : V6.cell? ⟨V1.heap.size + 1, 0, none⟩ = some (.int .u64 0) := cell_of_row _ _ _ _ _ _ R1.out
    have R1_1 : V6.cell? ⟨V1.heap.size + 1, 1, none⟩ = some (.int .u64 rl) := cell_of_row _ _ _ _ _ _ R1.out
    have D1_0 : V6.cell? ⟨V2.heap.size, 0, none⟩ = some (.int .u64 dh) := cell_of_row _ _ _ _ _ _ D1.out
    have D1_1 : V6.cell? ⟨V2.heap.size, 1, none⟩ = some (.int .u64 dl) := cell_of_row _ _ _ _ _ _ D1.out
    have L1_0 : V6.cell? ⟨V3.heap.size, 0, none⟩ = some (.int .u64 lh) := cell_of_row _ _ _ _ _ _ L1.out
    have L1_1 : V6.cell? ⟨V3.heap.size, 1, none⟩ = some (.int .u64 ll) := cell_of_row _ _ _ _ _ _ L1.out
    have zN1 := lt_of_heap N1.out
    have zU1 := lt_of_heap U1.out
    have zZ1 := lt_of_heap Z1.out
    have zQ1 := lt_of_heap Q1.out
    have zR1 := lt_of_heap R1.out
    have zD1 := lt_of_heap D1.out
    have zL1 := lt_of_heap L1.out
    go_simp
    go_wp2
    refine shut_ret (v := .agg #[.int .u64 fh, .int .u64 fl]) (by simp [results, Try.results22, go_sem, zZ1, Z1_0, Z1_1]) rfl ⟨rfl, ?_⟩
    exact (keep2 B6.out (by omega) _ _).alloc (by have := B6.out.size; simp; try omega) _
theorem sub_nat {a b : Nat} (h : b ≤ a) : (a : Int) - (b : Int) = ((a - b : Nat) : Int) := by omega
theorem odd_low {q : Nat} (h : q < 340282366920938463463374607431768211456) : zl (q : Int) % 2 = q % 2 := by
  obtain ⟨a1, a2, a3⟩ := zw_hl (q : Int)
  rw [zw_nat q h] at a1
  omega
theorem rndAmt_any (A u : Nat) (m : Int) (b : Bool) (hA : A ≤ 1267650600228229401496703205376) (h0 : 0 < u) (hu : u ≤ 1208925819614629174706176) (m0 : 0 ≤ m) (m8 : m ≤ 8) (w : World) :
    Calls Try.prog 22 #[.agg #[.int .u64 (zh (A : Int)), .int .u64 (zl (A : Int))], .agg #[.int .u64 (zh (u : Int)), .int .u64 (zl (u : Int))], .int .i64 m, .bool b] w fun e w' => e = .returned (.agg #[.int .u64 (zh (amtN A u m b : Int)), .int .u64 (zl (amtN A u m b : Int))]) ∧ Below w.heap.size w w' := by
  have X1 := divide_any A u hA h0 hu
  have hm := Nat.div_add_mod A u
  have hl := Nat.mod_lt A h0
  have hle := Nat.mod_le A u
  have hq : A / u ≤ A := Nat.div_le_self A u
  rw [Nat.mul_comm] at hm
  have X2 := zSub_any (A : Int) ((A % u : Nat) : Int)
  rw [sub_nat hle, show A - A % u = A / u * u by omega] at X2
  have X3 := zSub_any (u : Int) ((A % u : Nat) : Int)
  rw [sub_nat (by omega : A % u ≤ u)] at X3
  have hodd := odd_low (q := A / u) (by omega)
  have fo : ((zl ((A / u : Nat) : Int) : Int) % 2 != 0) = !evB A u 0 := by
    rw [evB_zero, Bool.eq_iff_iff, bne_iff_ne, Bool.not_eq_true', beq_eq_false_iff_ne]; omega
  have fo2 : ((zl ((A / u : Nat) : Int) : Int).tmod 2 != 0) = !evB A u 0 := by
    rw [Int.tmod_eq_emod_of_nonneg (by omega)]; exact fo
  by_cases hr : A % u = 0
  · rw [amt_none hr]
    rw [hr, show ((0 : Nat) : Int) = 0 from rfl, zh_zero, zl_zero] at X1 X2 X3
    exact amount_none _ _ _ _ _ _ _ _ _ _ m b _ _ _ w fo fo2 (Lib.hid X1) (Lib.hid X2) (Lib.hid X3)
  · have X4 := cmp_any (zh ((A % u : Nat) : Int)) (zl ((A % u : Nat) : Int)) (zh ((u - A % u : Nat) : Int)) (zl ((u - A % u : Nat) : Int)) (zh_U _) (zl_U _) (zh_U _) (zl_U _)
    rw [num_z, num_z, zw_nat _ (by omega), zw_nat _ (by omega)] at X4
    have X5 := away_any m b (!evB A u 0) (A % u) (u - A % u) m0 m8
    have X6 := zAdd_any ((A / u * u : Nat) : Int) (u : Int)
    rw [← Int.natCast_add] at X6
    have hz : ¬ (zh ((A % u : Nat) : Int) = 0 ∧ zl ((A % u : Nat) : Int) = 0) := fun ⟨h1, h2⟩ => by
      have h3 := (zw_hl ((A % u : Nat) : Int)).1
      rw [h1, h2, zw_nat _ (by omega)] at h3
      omega
    have E : (amtN A u m b : Int) = ((if awB m b (!evB A u 0) (cmpI (A % u) (u - A % u)) = true then A / u * u + u else A / u * u : Nat) : Int) := by
      cases h2 : awB m b (!evB A u 0) (cmpI (A % u) (u - A % u))
      · rw [amt_near hr h2, if_neg (by decide)]
      · rw [amt_far hr h2, if_pos rfl]
    have E1 : zh (amtN A u m b : Int) = if awB m b (!evB A u 0) (cmpI (A % u) (u - A % u)) = true then zh ((A / u * u + u : Nat) : Int) else zh ((A / u * u : Nat) : Int) := by rw [E]; split <;> rfl
    have E2 : zl (amtN A u m b : Int) = if awB m b (!evB A u 0) (cmpI (A % u) (u - A % u)) = true then zl ((A / u * u + u : Nat) : Int) else zl ((A / u * u : Nat) : Int) := by rw [E]; split <;> rfl
    rw [E1, E2]
    by_cases hz1 : zh ((A % u : Nat) : Int) = 0
    · have hz2 : ¬ zl ((A % u : Nat) : Int) = 0 := fun h => hz ⟨hz1, h⟩
      rw [hz1] at X1 X2 X3 X4
      exact amount_b _ _ _ _ _ _ 0 _ _ _ _ _ _ _ m _ b _ _ _ _ _ w hz2 fo fo2 (Lib.hid X1) (Lib.hid X2) (Lib.hid X3) (Lib.hid X4) (Lib.hid X5) (Lib.hid X6)
    · exact amount_a _ _ _ _ _ _ _ _ _ _ _ _ _ _ m _ b _ _ _ _ _ w hz1 fo fo2 (Lib.hid X1) (Lib.hid X2) (Lib.hid X3) (Lib.hid X4) (Lib.hid X5) (Lib.hid X6)
end Go.Proofs.Ytlfbiidnfheelaa
