/- The plain answer of layer 5: a number, rounded. -/
import Derived.Test.YtlfbiidnfheelaaRndE
namespace Go.Proofs.Ytlfbiidnfheelaa
set_option linter.unusedVariables false
set_option linter.unusedSimpArgs false
open Go.ChangeShapes Go.WideShapes Go.ChangeAt Go.RowKit

/-- up? by the mode, the sign, the nearer one, the lower one's evenness. -/
@[irreducible] def upB (m : Int) (ng : Bool) (c : Int) (ev : Bool) : Bool :=
  if m = 1 then true else if m = 2 then ng else if m = 3 then !ng else
  if m = 4 then decide (0 < c) || (decide (c = 0) && !ev) else if m = 5 then decide (0 < c) || (decide (c = 0) && !ng) else
  if m = 6 then decide (0 < c) || (decide (c = 0) && ng) else if m = 7 then decide (0 < c) else if m = 8 then decide (0 ≤ c) else false
/-- what may not be rounded. -/
@[irreducible] def badW (x y m : Int) : Bool := !(decide (1 ≤ y) && decide (y ≤ 1208925819614629174706176) && decide (x.natAbs ≤ 1267650600228229401496703205376) && decide (0 ≤ m) && decide (m ≤ 8))
theorem badW_ok {x y m : Int} (h : badW x y m = false) : 1 ≤ y ∧ y ≤ 1208925819614629174706176 ∧ x.natAbs ≤ 1267650600228229401496703205376 ∧ 0 ≤ m ∧ m ≤ 8 := by
  unfold badW at h
  rw [Bool.not_eq_false', Bool.and_eq_true, Bool.and_eq_true, Bool.and_eq_true, Bool.and_eq_true, decide_eq_true_eq, decide_eq_true_eq, decide_eq_true_eq, decide_eq_true_eq, decide_eq_true_eq] at h
  exact ⟨h.1.1.1.1, h.1.1.1.2, h.1.1.2, h.1.2, h.2⟩
theorem badW_no {x y m : Int} (h : badW x y m = true) : ¬ (1 ≤ y ∧ y ≤ 1208925819614629174706176 ∧ x.natAbs ≤ 1267650600228229401496703205376 ∧ 0 ≤ m ∧ m ≤ 8) := by
  intro ⟨h1, h2, h3, h4, h5⟩
  unfold badW at h
  rw [decide_eq_true h1, decide_eq_true h2, decide_eq_true h3, decide_eq_true h4, decide_eq_true h5] at h
  cases h
/-- the nearer one of a number's two neighbours. -/
def nrC (x y : Int) : Int := cmpI (x % y).toNat (y - x % y).toNat
def rnd (x y m : Int) : Int := if x % y = 0 then x else if upB m (decide (x < 0)) (nrC x y) (evQ x y) = true then x / y * y + y else x / y * y
@[irreducible] def rwV (x y m : Int) : Int := if badW x y m = true then 0 else rnd x y m
@[irreducible] def rwE (x y m : Int) : Int := if badW x y m = true then 5 else 0
theorem rw_bad {x y m : Int} (h : badW x y m = true) : rwV x y m = 0 ∧ rwE x y m = 5 := by unfold rwV rwE; exact ⟨if_pos h, if_pos h⟩
theorem rw_ok {x y m : Int} (h : badW x y m = false) : rwV x y m = rnd x y m ∧ rwE x y m = 0 := by
  unfold rwV rwE; exact ⟨if_neg (by rw [h]; decide), if_neg (by rw [h]; decide)⟩
theorem cmpI_three (a b : Nat) : cmpI a b = -1 ∨ cmpI a b = 0 ∨ cmpI a b = 1 := by unfold cmpI; split <;> (try split) <;> simp
set_option maxHeartbeats 6400000 in
set_option maxRecDepth 100000 in
theorem rwide_a (xh xl yh yl lh ll hh hl : Nat) (m R lo hg c : Int) (c1 c2 : Int) (ng ev : Bool) (w : World)
    (H1 : Hid (∀ w, Calls Try.prog 15 #[.agg #[.int .u64 yh, .int .u64 yl], .agg #[.int .u64 0, .int .u64 1]] w fun e w' => e = .returned (.int .i64 c1) ∧ Below w.heap.size w w'))
    (H2 : Hid (∀ w, Calls Try.prog 23 #[.agg #[.int .u64 yh, .int .u64 yl], .agg #[.int .u64 65536, .int .u64 0]] w fun e w' => e = .returned (.int .i64 c2) ∧ Below w.heap.size w w'))
    (H3 : Hid (∀ w, Calls Try.prog 24 #[.agg #[.int .u64 xh, .int .u64 xl]] w fun e w' => e = .returned (.bool false) ∧ Below w.heap.size w w'))
    (H4 : Hid (∀ w, Calls Try.prog 25 #[.agg #[.int .u64 xh, .int .u64 xl], .agg #[.int .u64 yh, .int .u64 yl]] w fun e w' => e = .returned (.tuple #[.agg #[.int .u64 xh, .int .u64 ll], .bool ev]) ∧ Below w.heap.size w w'))
    (H5 : Hid (∀ w, Calls Try.prog 26 #[.agg #[.int .u64 xh, .int .u64 ll], .agg #[.int .u64 yh, .int .u64 yl]] w fun e w' => e = .returned (.agg #[.int .u64 hh, .int .u64 hl]) ∧ Below w.heap.size w w'))
    (H6 : Hid (∀ w, Calls Try.prog 27 #[.agg #[.int .u64 xh, .int .u64 xl]] w fun e w' => e = .returned (.bool ng) ∧ Below w.heap.size w w'))
    (H7 : Hid (∀ w, Calls Try.prog 28 #[.agg #[.int .u64 xh, .int .u64 xl], .agg #[.int .u64 xh, .int .u64 ll], .agg #[.int .u64 hh, .int .u64 hl]] w fun e w' => e = .returned (.int .i64 c) ∧ Below w.heap.size w w'))
    (h1 : ¬ c1 < 0) (h2 : ¬ 0 < c2) (hm0 : 0 ≤ m) (hm8 : m ≤ 8) (hz : ¬ ll = xl) (hc : c = -1 ∨ c = 0 ∨ c = 1)
    (HL : zh lo = xh ∧ zl lo = ll) (HG : zh hg = hh ∧ zl hg = hl) (HV : R = if upB m ng c ev = true then hg else lo) :
    Calls Try.prog 9 #[.agg #[.int .u64 xh, .int .u64 xl], .agg #[.int .u64 yh, .int .u64 yl], .int .i64 m] w fun e w' => e = .returned (.tuple #[.agg #[.int .u64 (zh R), .int .u64 (zl R)], .int .i64 0]) ∧ Below w.heap.size w w' := by
  have KV := Lib.hid HV
  have KL := Lib.hid HL
  have KG := Lib.hid HG
  have KC := Lib.hid hc
  have hm := show m = 0 ∨ m = 1 ∨ m = 2 ∨ m = 3 ∨ m = 4 ∨ m = 5 ∨ m = 6 ∨ m = 7 ∨ m = 8 by omega
  have KM := Lib.hid hm
  have g1 : ¬ m < 0 := by omega
  have g2 : ¬ (8 : Int) < m := by omega
  clear HV HL HG hc hm
  go_enter Try.func9, Try.ntmps9
  refine wp_shut ?_
  go_wp2_with fail
  
  refine (H1.out _).mono ?_
  rintro e V1 ⟨rfl, hb1⟩
  have B1 := Lib.hid (((((Below.refl w.heap.size w).alloc (Nat.le_refl _) _).alloc (by simp <;> omega) _).alloc (by simp <;> omega) _).trans (hb1.mono (by first | assumption | (simp <;> omega) | (simp; done))))
  have N1 := Lib.hid (row_call hb1 (row_alloc (row_alloc (heap_alloc_new _ _) _) _))
  have U1 := Lib.hid (row_at (k' := w.heap.size + 1) (by simp) (row_call hb1 (row_alloc (heap_alloc_new _ _) _)))
  have Z1 := Lib.hid (row_at (k' := w.heap.size + 1 + 1) (by simp) (row_call hb1 (heap_alloc_new _ _)))
  clear hb1
  have N1_0 : V1.cell? ⟨w.heap.size, 0, none⟩ = some (.int .u64 xh) := cell_of_row _ _ _ _ _ _ N1.out
  have N1_1 : V1.cell? ⟨w.heap.size, 1, none⟩ = some (.int .u64 xl) := cell_of_row _ _ _ _ _ _ N1.out
  have U1_0 : V1.cell? ⟨w.heap.size + 1, 0, none⟩ = some (.int .u64 yh) := cell_of_row _ _ _ _ _ _ U1.out
  have U1_1 : V1.cell? ⟨w.heap.size + 1, 1, none⟩ = some (.int .u64 yl) := cell_of_row _ _ _ _ _ _ U1.out
  have Z1_0 : V1.cell? ⟨w.heap.size + 1 + 1, 0, none⟩ = some (.int .u64 0) := cell_of_row _ _ _ _ _ _ Z1.out
  have Z1_1 : V1.cell? ⟨w.heap.size + 1 + 1, 1, none⟩ = some (.int .u64 0) := cell_of_row _ _ _ _ _ _ Z1.out
  have Z1_f0 : V1.frozen? ⟨w.heap.size + 1 + 1, 0, none⟩ = false := by simp [World.frozen?, Z1.out]
  have Z1_f1 : V1.frozen? ⟨w.heap.size + 1 + 1, 1, none⟩ = false := by simp [World.frozen?, Z1.out]
  have zN1 := lt_of_heap N1.out
  have zU1 := lt_of_heap U1.out
  have zZ1 := lt_of_heap Z1.out
  go_simp
  go_wp2_with fail
  refine (H2.out _).mono ?_
  rintro e V2 ⟨rfl, hb2⟩
  clear N1_0 N1_1 zN1 U1_0 U1_1 zU1 Z1_0 Z1_1 Z1_f0 Z1_f1 zZ1
  have B2 : Hid (Below w.heap.size w V2) := by first | exact Lib.hid ((B1.out).trans (hb2.mono (by have := B1.out.size; first | assumption | (simp <;> omega) | (simp; done)))) | exact Lib.hid (((B1.out).alloc (B1.out.size) _).trans (hb2.mono (by have := B1.out.size; first | assumption | (simp <;> omega) | (simp; done)))) | exact Lib.hid ((((B1.out).alloc (B1.out.size) _).alloc (by have := B1.out.size; simp <;> omega) _).trans (hb2.mono (by have := B1.out.size; first | assumption | (simp <;> omega) | (simp; done)))) | exact Lib.hid (((((B1.out).alloc (B1.out.size) _).alloc (by have := B1.out.size; simp <;> omega) _).alloc (by have := B1.out.size; simp <;> omega) _).trans (hb2.mono (by have := B1.out.size; first | assumption | (simp <;> omega) | (simp; done))))
  first | replace N1 := Lib.hid (row_call hb2 N1.out) | replace N1 := Lib.hid (row_call hb2 (row_alloc N1.out _)) | replace N1 := Lib.hid (row_call hb2 (row_alloc (row_alloc N1.out _) _)) | replace N1 := Lib.hid (row_call hb2 (row_alloc (row_alloc (row_alloc N1.out _) _) _))
  first | replace U1 := Lib.hid (row_call hb2 U1.out) | replace U1 := Lib.hid (row_call hb2 (row_alloc U1.out _)) | replace U1 := Lib.hid (row_call hb2 (row_alloc (row_alloc U1.out _) _)) | replace U1 := Lib.hid (row_call hb2 (row_alloc (row_alloc (row_alloc U1.out _) _) _))
  first | replace Z1 := Lib.hid (row_call hb2 Z1.out) | replace Z1 := Lib.hid (row_call hb2 (row_alloc Z1.out _)) | replace Z1 := Lib.hid (row_call hb2 (row_alloc (row_alloc Z1.out _) _)) | replace Z1 := Lib.hid (row_call hb2 (row_alloc (row_alloc (row_alloc Z1.out _) _) _))
  clear hb2
  have N1_0 : V2.cell? ⟨w.heap.size, 0, none⟩ = some (.int .u64 xh) := cell_of_row _ _ _ _ _ _ N1.out
  have N1_1 : V2.cell? ⟨w.heap.size, 1, none⟩ = some (.int .u64 xl) := cell_of_row _ _ _ _ _ _ N1.out
  have U1_0 : V2.cell? ⟨w.heap.size + 1, 0, none⟩ = some (.int .u64 yh) := cell_of_row _ _ _ _ _ _ U1.out
  have U1_1 : V2.cell? ⟨w.heap.size + 1, 1, none⟩ = some (.int .u64 yl) := cell_of_row _ _ _ _ _ _ U1.out
  have Z1_0 : V2.cell? ⟨w.heap.size + 1 + 1, 0, none⟩ = some (.int .u64 0) := cell_of_row _ _ _ _ _ _ Z1.out
  have Z1_1 : V2.cell? ⟨w.heap.size + 1 + 1, 1, none⟩ = some (.int .u64 0) := cell_of_row _ _ _ _ _ _ Z1.out
  have Z1_f0 : V2.frozen? ⟨w.heap.size + 1 + 1, 0, none⟩ = false := by simp [World.frozen?, Z1.out]
  have Z1_f1 : V2.frozen? ⟨w.heap.size + 1 + 1, 1, none⟩ = false := by simp [World.frozen?, Z1.out]
  have zN1 := lt_of_heap N1.out
  have zU1 := lt_of_heap U1.out
  have zZ1 := lt_of_heap Z1.out
  go_simp
  go_wp2_with fail
  refine (H3.out _).mono ?_
  rintro e V3 ⟨rfl, hb3⟩
  clear N1_0 N1_1 zN1 U1_0 U1_1 zU1 Z1_0 Z1_1 Z1_f0 Z1_f1 zZ1
  have B3 : Hid (Below w.heap.size w V3) := by first | exact Lib.hid ((B2.out).trans (hb3.mono (by have := B2.out.size; first | assumption | (simp <;> omega) | (simp; done)))) | exact Lib.hid (((B2.out).alloc (B2.out.size) _).trans (hb3.mono (by have := B2.out.size; first | assumption | (simp <;> omega) | (simp; done)))) | exact Lib.hid ((((B2.out).alloc (B2.out.size) _).alloc (by have := B2.out.size; simp <;> omega) _).trans (hb3.mono (by have := B2.out.size; first | assumption | (simp <;> omega) | (simp; done)))) | exact Lib.hid (((((B2.out).alloc (B2.out.size) _).alloc (by have := B2.out.size; simp <;> omega) _).alloc (by have := B2.out.size; simp <;> omega) _).trans (hb3.mono (by have := B2.out.size; first | assumption | (simp <;> omega) | (simp; done))))
  first | replace N1 := Lib.hid (row_call hb3 N1.out) | replace N1 := Lib.hid (row_call hb3 (row_alloc N1.out _)) | replace N1 := Lib.hid (row_call hb3 (row_alloc (row_alloc N1.out _) _)) | replace N1 := Lib.hid (row_call hb3 (row_alloc (row_alloc (row_alloc N1.out _) _) _))
  first | replace U1 := Lib.hid (row_call hb3 U1.out) | replace U1 := Lib.hid (row_call hb3 (row_alloc U1.out _)) | replace U1 := Lib.hid (row_call hb3 (row_alloc (row_alloc U1.out _) _)) | replace U1 := Lib.hid (row_call hb3 (row_alloc (row_alloc (row_alloc U1.out _) _) _))
  first | replace Z1 := Lib.hid (row_call hb3 Z1.out) | replace Z1 := Lib.hid (row_call hb3 (row_alloc Z1.out _)) | replace Z1 := Lib.hid (row_call hb3 (row_alloc (row_alloc Z1.out _) _)) | replace Z1 := Lib.hid (row_call hb3 (row_alloc (row_alloc (row_alloc Z1.out _) _) _))
  clear hb3
  have N1_0 : V3.cell? ⟨w.heap.size, 0, none⟩ = some (.int .u64 xh) := cell_of_row _ _ _ _ _ _ N1.out
  have N1_1 : V3.cell? ⟨w.heap.size, 1, none⟩ = some (.int .u64 xl) := cell_of_row _ _ _ _ _ _ N1.out
  have U1_0 : V3.cell? ⟨w.heap.size + 1, 0, none⟩ = some (.int .u64 yh) := cell_of_row _ _ _ _ _ _ U1.out
  have U1_1 : V3.cell? ⟨w.heap.size + 1, 1, none⟩ = some (.int .u64 yl) := cell_of_row _ _ _ _ _ _ U1.out
  have Z1_0 : V3.cell? ⟨w.heap.size + 1 + 1, 0, none⟩ = some (.int .u64 0) := cell_of_row _ _ _ _ _ _ Z1.out
  have Z1_1 : V3.cell? ⟨w.heap.size + 1 + 1, 1, none⟩ = some (.int .u64 0) := cell_of_row _ _ _ _ _ _ Z1.out
  have Z1_f0 : V3.frozen? ⟨w.heap.size + 1 + 1, 0, none⟩ = false := by simp [World.frozen?, Z1.out]
  have Z1_f1 : V3.frozen? ⟨w.heap.size + 1 + 1, 1, none⟩ = false := by simp [World.frozen?, Z1.out]
  have zN1 := lt_of_heap N1.out
  have zU1 := lt_of_heap U1.out
  have zZ1 := lt_of_heap Z1.out
  go_simp
  go_wp2_with fail
  refine (H4.out _).mono ?_
  rintro e V4 ⟨rfl, hb4⟩
  clear N1_0 N1_1 zN1 U1_0 U1_1 zU1 Z1_0 Z1_1 Z1_f0 Z1_f1 zZ1
  have B4 : Hid (Below w.heap.size w V4) := by first | exact Lib.hid ((B3.out).trans (hb4.mono (by have := B3.out.size; first | assumption | (simp <;> omega) | (simp; done)))) | exact Lib.hid (((B3.out).alloc (B3.out.size) _).trans (hb4.mono (by have := B3.out.size; first | assumption | (simp <;> omega) | (simp; done)))) | exact Lib.hid ((((B3.out).alloc (B3.out.size) _).alloc (by have := B3.out.size; simp <;> omega) _).trans (hb4.mono (by have := B3.out.size; first | assumption | (simp <;> omega) | (simp; done)))) | exact Lib.hid (((((B3.out).alloc (B3.out.size) _).alloc (by have := B3.out.size; simp <;> omega) _).alloc (by have := B3.out.size; simp <;> omega) _).trans (hb4.mono (by have := B3.out.size; first | assumption | (simp <;> omega) | (simp; done))))
  first | replace N1 := Lib.hid (row_call hb4 N1.out) | replace N1 := Lib.hid (row_call hb4 (row_alloc N1.out _)) | replace N1 := Lib.hid (row_call hb4 (row_alloc (row_alloc N1.out _) _)) | replace N1 := Lib.hid (row_call hb4 (row_alloc (row_alloc (row_alloc N1.out _) _) _))
  first | replace U1 := Lib.hid (row_call hb4 U1.out) | replace U1 := Lib.hid (row_call hb4 (row_alloc U1.out _)) | replace U1 := Lib.hid (row_call hb4 (row_alloc (row_alloc U1.out _) _)) | replace U1 := Lib.hid (row_call hb4 (row_alloc (row_alloc (row_alloc U1.out _) _) _))
  first | replace Z1 := Lib.hid (row_call hb4 Z1.out) | replace Z1 := Lib.hid (row_call hb4 (row_alloc Z1.out _)) | replace Z1 := Lib.hid (row_call hb4 (row_alloc (row_alloc Z1.out _) _)) | replace Z1 := Lib.hid (row_call hb4 (row_alloc (row_alloc (row_alloc Z1.out _) _) _))
  clear hb4
  have N1_0 : V4.cell? ⟨w.heap.size, 0, none⟩ = some (.int .u64 xh) := cell_of_row _ _ _ _ _ _ N1.out
  have N1_1 : V4.cell? ⟨w.heap.size, 1, none⟩ = some (.int .u64 xl) := cell_of_row _ _ _ _ _ _ N1.out
  have U1_0 : V4.cell? ⟨w.heap.size + 1, 0, none⟩ = some (.int .u64 yh) := cell_of_row _ _ _ _ _ _ U1.out
  have U1_1 : V4.cell? ⟨w.heap.size + 1, 1, none⟩ = some (.int .u64 yl) := cell_of_row _ _ _ _ _ _ U1.out
  have Z1_0 : V4.cell? ⟨w.heap.size + 1 + 1, 0, none⟩ = some (.int .u64 0) := cell_of_row _ _ _ _ _ _ Z1.out
  have Z1_1 : V4.cell? ⟨w.heap.size + 1 + 1, 1, none⟩ = some (.int .u64 0) := cell_of_row _ _ _ _ _ _ Z1.out
  have Z1_f0 : V4.frozen? ⟨w.heap.size + 1 + 1, 0, none⟩ = false := by simp [World.frozen?, Z1.out]
  have Z1_f1 : V4.frozen? ⟨w.heap.size + 1 + 1, 1, none⟩ = false := by simp [World.frozen?, Z1.out]
  have zN1 := lt_of_heap N1.out
  have zU1 := lt_of_heap U1.out
  have zZ1 := lt_of_heap Z1.out
  go_simp
  go_wp2_with fail
  refine (H5.out _).mono ?_
  rintro e V5 ⟨rfl, hb5⟩
  clear N1_0 N1_1 zN1 U1_0 U1_1 zU1 Z1_0 Z1_1 Z1_f0 Z1_f1 zZ1
  have nN1L1 := Lib.hid (lt_of_heap N1.out)
  have nU1L1 := Lib.hid (lt_of_heap U1.out)
  have nZ1L1 := Lib.hid (lt_of_heap Z1.out)
  have B5 := Lib.hid (((B4.out).alloc (B4.out.size) _).trans (hb5.mono (by have := B4.out.size; first | assumption | (simp <;> omega) | (simp; done))))
  replace N1 := Lib.hid (row_call hb5 (row_alloc N1.out _))
  replace U1 := Lib.hid (row_call hb5 (row_alloc U1.out _))
  replace Z1 := Lib.hid (row_call hb5 (row_alloc Z1.out _))
  have L1 := Lib.hid (row_call hb5 (heap_alloc_new _ _))
  clear hb5
  have N1_0 : V5.cell? ⟨w.heap.size, 0, none⟩ = some (.int .u64 xh) := cell_of_row _ _ _ _ _ _ N1.out
  have N1_1 : V5.cell? ⟨w.heap.size, 1, none⟩ = some (.int .u64 xl) := cell_of_row _ _ _ _ _ _ N1.out
  have U1_0 : V5.cell? ⟨w.heap.size + 1, 0, none⟩ = some (.int .u64 yh) := cell_of_row _ _ _ _ _ _ U1.out
  have U1_1 : V5.cell? ⟨w.heap.size + 1, 1, none⟩ = some (.int .u64 yl) := cell_of_row _ _ _ _ _ _ U1.out
  have Z1_0 : V5.cell? ⟨w.heap.size + 1 + 1, 0, none⟩ = some (.int .u64 0) := cell_of_row _ _ _ _ _ _ Z1.out
  have Z1_1 : V5.cell? ⟨w.heap.size + 1 + 1, 1, none⟩ = some (.int .u64 0) := cell_of_row _ _ _ _ _ _ Z1.out
  have Z1_f0 : V5.frozen? ⟨w.heap.size + 1 + 1, 0, none⟩ = false := by simp [World.frozen?, Z1.out]
  have Z1_f1 : V5.frozen? ⟨w.heap.size + 1 + 1, 1, none⟩ = false := by simp [World.frozen?, Z1.out]
  have L1_0 : V5.cell? ⟨V4.heap.size, 0, none⟩ = some (.int .u64 xh) := cell_of_row _ _ _ _ _ _ L1.out
  have L1_1 : V5.cell? ⟨V4.heap.size, 1, none⟩ = some (.int .u64 ll) := cell_of_row _ _ _ _ _ _ L1.out
  have zN1 := lt_of_heap N1.out
  have zU1 := lt_of_heap U1.out
  have zZ1 := lt_of_heap Z1.out
  have zL1 := lt_of_heap L1.out
  go_simp
  go_wp2_with fail
  refine (H6.out _).mono ?_
  rintro e V6 ⟨rfl, hb6⟩
  clear N1_0 N1_1 zN1 U1_0 U1_1 zU1 Z1_0 Z1_1 Z1_f0 Z1_f1 zZ1 L1_0 L1_1 zL1
  have nN1G1 := Lib.hid (lt_of_heap N1.out)
  have nU1G1 := Lib.hid (lt_of_heap U1.out)
  have nZ1G1 := Lib.hid (lt_of_heap Z1.out)
  have nL1G1 := Lib.hid (lt_of_heap L1.out)
  have B6 := Lib.hid (((B5.out).alloc (B5.out.size) _).trans (hb6.mono (by have := B5.out.size; first | assumption | (simp <;> omega) | (simp; done))))
  replace N1 := Lib.hid (row_call hb6 (row_alloc N1.out _))
  replace U1 := Lib.hid (row_call hb6 (row_alloc U1.out _))
  replace Z1 := Lib.hid (row_call hb6 (row_alloc Z1.out _))
  replace L1 := Lib.hid (row_call hb6 (row_alloc L1.out _))
  have G1 := Lib.hid (row_call hb6 (heap_alloc_new _ _))
  clear hb6
  have N1_0 : V6.cell? ⟨w.heap.size, 0, none⟩ = some (.int .u64 xh) := cell_of_row _ _ _ _ _ _ N1.out
  have N1_1 : V6.cell? ⟨w.heap.size, 1, none⟩ = some (.int .u64 xl) := cell_of_row _ _ _ _ _ _ N1.out
  have U1_0 : V6.cell? ⟨w.heap.size + 1, 0, none⟩ = some (.int .u64 yh) := cell_of_row _ _ _ _ _ _ U1.out
  have U1_1 : V6.cell? ⟨w.heap.size + 1, 1, none⟩ = some (.int .u64 yl) := cell_of_row _ _ _ _ _ _ U1.out
  have Z1_0 : V6.cell? ⟨w.heap.size + 1 + 1, 0, none⟩ = some (.int .u64 0) := cell_of_row _ _ _ _ _ _ Z1.out
  have Z1_1 : V6.cell? ⟨w.heap.size + 1 + 1, 1, none⟩ = some (.int .u64 0) := cell_of_row _ _ _ _ _ _ Z1.out
  have Z1_f0 : V6.frozen? ⟨w.heap.size + 1 + 1, 0, none⟩ = false := by simp [World.frozen?, Z1.out]
  have Z1_f1 : V6.frozen? ⟨w.heap.size + 1 + 1, 1, none⟩ = false := by simp [World.frozen?, Z1.out]
  have L1_0 : V6.cell? ⟨V4.heap.size, 0, none⟩ = some (.int .u64 xh) := cell_of_row _ _ _ _ _ _ L1.out
  have L1_1 : V6.cell? ⟨V4.heap.size, 1, none⟩ = some (.int .u64 ll) := cell_of_row _ _ _ _ _ _ L1.out
  have G1_0 : V6.cell? ⟨V5.heap.size, 0, none⟩ = some (.int .u64 hh) := cell_of_row _ _ _ _ _ _ G1.out
  have G1_1 : V6.cell? ⟨V5.heap.size, 1, none⟩ = some (.int .u64 hl) := cell_of_row _ _ _ _ _ _ G1.out
  have zN1 := lt_of_heap N1.out
  have zU1 := lt_of_heap U1.out
  have zZ1 := lt_of_heap Z1.out
  have zL1 := lt_of_heap L1.out
  have zG1 := lt_of_heap G1.out
  go_simp
  go_wp2_with fail
  refine (H7.out _).mono ?_
  rintro e V7 ⟨rfl, hb7⟩
  clear N1_0 N1_1 zN1 U1_0 U1_1 zU1 Z1_0 Z1_1 Z1_f0 Z1_f1 zZ1 L1_0 L1_1 zL1 G1_0 G1_1 zG1
  have B7 : Hid (Below w.heap.size w V7) := by first | exact Lib.hid ((B6.out).trans (hb7.mono (by have := B6.out.size; first | assumption | (simp <;> omega) | (simp; done)))) | exact Lib.hid (((B6.out).alloc (B6.out.size) _).trans (hb7.mono (by have := B6.out.size; first | assumption | (simp <;> omega) | (simp; done)))) | exact Lib.hid ((((B6.out).alloc (B6.out.size) _).alloc (by have := B6.out.size; simp <;> omega) _).trans (hb7.mono (by have := B6.out.size; first | assumption | (simp <;> omega) | (simp; done)))) | exact Lib.hid (((((B6.out).alloc (B6.out.size) _).alloc (by have := B6.out.size; simp <;> omega) _).alloc (by have := B6.out.size; simp <;> omega) _).trans (hb7.mono (by have := B6.out.size; first | assumption | (simp <;> omega) | (simp; done))))
  first | replace N1 := Lib.hid (row_call hb7 N1.out) | replace N1 := Lib.hid (row_call hb7 (row_alloc N1.out _)) | replace N1 := Lib.hid (row_call hb7 (row_alloc (row_alloc N1.out _) _)) | replace N1 := Lib.hid (row_call hb7 (row_alloc (row_alloc (row_alloc N1.out _) _) _))
  first | replace U1 := Lib.hid (row_call hb7 U1.out) | replace U1 := Lib.hid (row_call hb7 (row_alloc U1.out _)) | replace U1 := Lib.hid (row_call hb7 (row_alloc (row_alloc U1.out _) _)) | replace U1 := Lib.hid (row_call hb7 (row_alloc (row_alloc (row_alloc U1.out _) _) _))
  first | replace Z1 := Lib.hid (row_call hb7 Z1.out) | replace Z1 := Lib.hid (row_call hb7 (row_alloc Z1.out _)) | replace Z1 := Lib.hid (row_call hb7 (row_alloc (row_alloc Z1.out _) _)) | replace Z1 := Lib.hid (row_call hb7 (row_alloc (row_alloc (row_alloc Z1.out _) _) _))
  first | replace L1 := Lib.hid (row_call hb7 L1.out) | replace L1 := Lib.hid (row_call hb7 (row_alloc L1.out _)) | replace L1 := Lib.hid (row_call hb7 (row_alloc (row_alloc L1.out _) _)) | replace L1 := Lib.hid (row_call hb7 (row_alloc (row_alloc (row_alloc L1.out _) _) _))
  first | replace G1 := Lib.hid (row_call hb7 G1.out) | replace G1 := Lib.hid (row_call hb7 (row_alloc G1.out _)) | replace G1 := Lib.hid (row_call hb7 (row_alloc (row_alloc G1.out _) _)) | replace G1 := Lib.hid (row_call hb7 (row_alloc (row_alloc (row_alloc G1.out _) _) _))
  clear hb7
  have N1_0 : V7.cell? ⟨w.heap.size, 0, none⟩ = some (.int .u64 xh) := cell_of_row _ _ _ _ _ _ N1.out
  have N1_1 : V7.cell? ⟨w.heap.size, 1, none⟩ = some (.int .u64 xl) := cell_of_row _ _ _ _ _ _ N1.out
  have U1_0 : V7.cell? ⟨w.heap.size + 1, 0, none⟩ = some (.int .u64 yh) := cell_of_row _ _ _ _ _ _ U1.out
  have U1_1 : V7.cell? ⟨w.heap.size + 1, 1, none⟩ = some (.int .u64 yl) := cell_of_row _ _ _ _ _ _ U1.out
  have Z1_0 : V7.cell? ⟨w.heap.size + 1 + 1, 0, none⟩ = some (.int .u64 0) := cell_of_row _ _ _ _ _ _ Z1.out
  have Z1_1 : V7.cell? ⟨w.heap.size + 1 + 1, 1, none⟩ = some (.int .u64 0) := cell_of_row _ _ _ _ _ _ Z1.out
  have Z1_f0 : V7.frozen? ⟨w.heap.size + 1 + 1, 0, none⟩ = false := by simp [World.frozen?, Z1.out]
  have Z1_f1 : V7.frozen? ⟨w.heap.size + 1 + 1, 1, none⟩ = false := by simp [World.frozen?, Z1.out]
  have L1_0 : V7.cell? ⟨V4.heap.size, 0, none⟩ = some (.int .u64 xh) := cell_of_row _ _ _ _ _ _ L1.out
  have L1_1 : V7.cell? ⟨V4.heap.size, 1, none⟩ = some (.int .u64 ll) := cell_of_row _ _ _ _ _ _ L1.out
  have G1_0 : V7.cell? ⟨V5.heap.size, 0, none⟩ = some (.int .u64 hh) := cell_of_row _ _ _ _ _ _ G1.out
  have G1_1 : V7.cell? ⟨V5.heap.size, 1, none⟩ = some (.int .u64 hl) := cell_of_row _ _ _ _ _ _ G1.out
  have zN1 := lt_of_heap N1.out
  have zU1 := lt_of_heap U1.out
  have zZ1 := lt_of_heap Z1.out
  have zL1 := lt_of_heap L1.out
  have zG1 := lt_of_heap G1.out
  go_simp
  go_upto_region 10 with fail
  clear H1 H2 H3 H4 H5 H6 H7 h1 h2 hm0 hm8 g1 g2 hz
  have hm := KM.out
  clear KM
  rcases hm with rfl | rfl | rfl | rfl | rfl | rfl | rfl | rfl | rfl
  case' inr.inr.inl => cases ng
  case' inr.inr.inr.inl => cases ng
  case' inr.inr.inr.inr.inl => (rcases KC.out with rfl | rfl | rfl <;> cases ev)
  case' inr.inr.inr.inr.inr.inl => (rcases KC.out with rfl | rfl | rfl <;> cases ng)
  case' inr.inr.inr.inr.inr.inr.inl => (rcases KC.out with rfl | rfl | rfl <;> cases ng)
  case' inr.inr.inr.inr.inr.inr.inr.inl => rcases KC.out with rfl | rfl | rfl
  case' inr.inr.inr.inr.inr.inr.inr.inr => rcases KC.out with rfl | rfl | rfl
  all_goals
    go_wp2
    first
    | (refine shut_ret (v := .tuple #[.agg #[.int .u64 hh, .int .u64 hl], .int .i64 0]) ?_ rfl ⟨?_, ?_⟩
       · simp [results, Try.results9, go_sem, zZ1, Z1_0, Z1_1]; done
       · (rw [KV.out, if_pos, KG.out.1, KG.out.2]; unfold upB; first | rfl | decide | (simp; done))
       · exact keep2 B7.out (by omega) _ _)
    | (refine shut_ret (v := .tuple #[.agg #[.int .u64 xh, .int .u64 ll], .int .i64 0]) ?_ rfl ⟨?_, ?_⟩
       · simp [results, Try.results9, go_sem, zZ1, Z1_0, Z1_1]; done
       · (rw [KV.out, if_neg, KL.out.1, KL.out.2]; unfold upB; first | decide | (simp; done))
       · exact keep2 B7.out (by omega) _ _)
    | trace_state
set_option maxHeartbeats 6400000 in
set_option maxRecDepth 100000 in
theorem rwide_b (xh xl yh yl lh ll hh hl : Nat) (m R lo hg c : Int) (c1 c2 : Int) (ng ev : Bool) (w : World)
    (H1 : Hid (∀ w, Calls Try.prog 15 #[.agg #[.int .u64 yh, .int .u64 yl], .agg #[.int .u64 0, .int .u64 1]] w fun e w' => e = .returned (.int .i64 c1) ∧ Below w.heap.size w w'))
    (H2 : Hid (∀ w, Calls Try.prog 23 #[.agg #[.int .u64 yh, .int .u64 yl], .agg #[.int .u64 65536, .int .u64 0]] w fun e w' => e = .returned (.int .i64 c2) ∧ Below w.heap.size w w'))
    (H3 : Hid (∀ w, Calls Try.prog 24 #[.agg #[.int .u64 xh, .int .u64 xl]] w fun e w' => e = .returned (.bool false) ∧ Below w.heap.size w w'))
    (H4 : Hid (∀ w, Calls Try.prog 25 #[.agg #[.int .u64 xh, .int .u64 xl], .agg #[.int .u64 yh, .int .u64 yl]] w fun e w' => e = .returned (.tuple #[.agg #[.int .u64 lh, .int .u64 ll], .bool ev]) ∧ Below w.heap.size w w'))
    (H5 : Hid (∀ w, Calls Try.prog 26 #[.agg #[.int .u64 lh, .int .u64 ll], .agg #[.int .u64 yh, .int .u64 yl]] w fun e w' => e = .returned (.agg #[.int .u64 hh, .int .u64 hl]) ∧ Below w.heap.size w w'))
    (H6 : Hid (∀ w, Calls Try.prog 27 #[.agg #[.int .u64 xh, .int .u64 xl]] w fun e w' => e = .returned (.bool ng) ∧ Below w.heap.size w w'))
    (H7 : Hid (∀ w, Calls Try.prog 28 #[.agg #[.int .u64 xh, .int .u64 xl], .agg #[.int .u64 lh, .int .u64 ll], .agg #[.int .u64 hh, .int .u64 hl]] w fun e w' => e = .returned (.int .i64 c) ∧ Below w.heap.size w w'))
    (h1 : ¬ c1 < 0) (h2 : ¬ 0 < c2) (hm0 : 0 ≤ m) (hm8 : m ≤ 8) (hz : ¬ lh = xh) (hc : c = -1 ∨ c = 0 ∨ c = 1)
    (HL : zh lo = lh ∧ zl lo = ll) (HG : zh hg = hh ∧ zl hg = hl) (HV : R = if upB m ng c ev = true then hg else lo) :
    Calls Try.prog 9 #[.agg #[.int .u64 xh, .int .u64 xl], .agg #[.int .u64 yh, .int .u64 yl], .int .i64 m] w fun e w' => e = .returned (.tuple #[.agg #[.int .u64 (zh R), .int .u64 (zl R)], .int .i64 0]) ∧ Below w.heap.size w w' := by
  have KV := Lib.hid HV
  have KL := Lib.hid HL
  have KG := Lib.hid HG
  have KC := Lib.hid hc
  have hm := show m = 0 ∨ m = 1 ∨ m = 2 ∨ m = 3 ∨ m = 4 ∨ m = 5 ∨ m = 6 ∨ m = 7 ∨ m = 8 by omega
  have KM := Lib.hid hm
  have g1 : ¬ m < 0 := by omega
  have g2 : ¬ (8 : Int) < m := by omega
  clear HV HL HG hc hm
  go_enter Try.func9, Try.ntmps9
  refine wp_shut ?_
  go_wp2_with fail
  
  refine (H1.out _).mono ?_
  rintro e V1 ⟨rfl, hb1⟩
  have B1 := Lib.hid (((((Below.refl w.heap.size w).alloc (Nat.le_refl _) _).alloc (by simp <;> omega) _).alloc (by simp <;> omega) _).trans (hb1.mono (by first | assumption | (simp <;> omega) | (simp; done))))
  have N1 := Lib.hid (row_call hb1 (row_alloc (row_alloc (heap_alloc_new _ _) _) _))
  have U1 := Lib.hid (row_at (k' := w.heap.size + 1) (by simp) (row_call hb1 (row_alloc (heap_alloc_new _ _) _)))
  have Z1 := Lib.hid (row_at (k' := w.heap.size + 1 + 1) (by simp) (row_call hb1 (heap_alloc_new _ _)))
  clear hb1
  have N1_0 : V1.cell? ⟨w.heap.size, 0, none⟩ = some (.int .u64 xh) := cell_of_row _ _ _ _ _ _ N1.out
  have N1_1 : V1.cell? ⟨w.heap.size, 1, none⟩ = some (.int .u64 xl) := cell_of_row _ _ _ _ _ _ N1.out
  have U1_0 : V1.cell? ⟨w.heap.size + 1, 0, none⟩ = some (.int .u64 yh) := cell_of_row _ _ _ _ _ _ U1.out
  have U1_1 : V1.cell? ⟨w.heap.size + 1, 1, none⟩ = some (.int .u64 yl) := cell_of_row _ _ _ _ _ _ U1.out
  have Z1_0 : V1.cell? ⟨w.heap.size + 1 + 1, 0, none⟩ = some (.int .u64 0) := cell_of_row _ _ _ _ _ _ Z1.out
  have Z1_1 : V1.cell? ⟨w.heap.size + 1 + 1, 1, none⟩ = some (.int .u64 0) := cell_of_row _ _ _ _ _ _ Z1.out
  have Z1_f0 : V1.frozen? ⟨w.heap.size + 1 + 1, 0, none⟩ = false := by simp [World.frozen?, Z1.out]
  have Z1_f1 : V1.frozen? ⟨w.heap.size + 1 + 1, 1, none⟩ = false := by simp [World.frozen?, Z1.out]
  have zN1 := lt_of_heap N1.out
  have zU1 := lt_of_heap U1.out
  have zZ1 := lt_of_heap Z1.out
  go_simp
  go_wp2_with fail
  refine (H2.out _).mono ?_
  rintro e V2 ⟨rfl, hb2⟩
  clear N1_0 N1_1 zN1 U1_0 U1_1 zU1 Z1_0 Z1_1 Z1_f0 Z1_f1 zZ1
  have B2 : Hid (Below w.heap.size w V2) := by first | exact Lib.hid ((B1.out).trans (hb2.mono (by have := B1.out.size; first | assumption | (simp <;> omega) | (simp; done)))) | exact Lib.hid (((B1.out).alloc (B1.out.size) _).trans (hb2.mono (by have := B1.out.size; first | assumption | (simp <;> omega) | (simp; done)))) | exact Lib.hid ((((B1.out).alloc (B1.out.size) _).alloc (by have := B1.out.size; simp <;> omega) _).trans (hb2.mono (by have := B1.out.size; first | assumption | (simp <;> omega) | (simp; done)))) | exact Lib.hid (((((B1.out).alloc (B1.out.size) _).alloc (by have := B1.out.size; simp <;> omega) _).alloc (by have := B1.out.size; simp <;> omega) _).trans (hb2.mono (by have := B1.out.size; first | assumption | (simp <;> omega) | (simp; done))))
  first | replace N1 := Lib.hid (row_call hb2 N1.out) | replace N1 := Lib.hid (row_call hb2 (row_alloc N1.out _)) | replace N1 := Lib.hid (row_call hb2 (row_alloc (row_alloc N1.out _) _)) | replace N1 := Lib.hid (row_call hb2 (row_alloc (row_alloc (row_alloc N1.out _) _) _))
  first | replace U1 := Lib.hid (row_call hb2 U1.out) | replace U1 := Lib.hid (row_call hb2 (row_alloc U1.out _)) | replace U1 := Lib.hid (row_call hb2 (row_alloc (row_alloc U1.out _) _)) | replace U1 := Lib.hid (row_call hb2 (row_alloc (row_alloc (row_alloc U1.out _) _) _))
  first | replace Z1 := Lib.hid (row_call hb2 Z1.out) | replace Z1 := Lib.hid (row_call hb2 (row_alloc Z1.out _)) | replace Z1 := Lib.hid (row_call hb2 (row_alloc (row_alloc Z1.out _) _)) | replace Z1 := Lib.hid (row_call hb2 (row_alloc (row_alloc (row_alloc Z1.out _) _) _))
  clear hb2
  have N1_0 : V2.cell? ⟨w.heap.size, 0, none⟩ = some (.int .u64 xh) := cell_of_row _ _ _ _ _ _ N1.out
  have N1_1 : V2.cell? ⟨w.heap.size, 1, none⟩ = some (.int .u64 xl) := cell_of_row _ _ _ _ _ _ N1.out
  have U1_0 : V2.cell? ⟨w.heap.size + 1, 0, none⟩ = some (.int .u64 yh) := cell_of_row _ _ _ _ _ _ U1.out
  have U1_1 : V2.cell? ⟨w.heap.size + 1, 1, none⟩ = some (.int .u64 yl) := cell_of_row _ _ _ _ _ _ U1.out
  have Z1_0 : V2.cell? ⟨w.heap.size + 1 + 1, 0, none⟩ = some (.int .u64 0) := cell_of_row _ _ _ _ _ _ Z1.out
  have Z1_1 : V2.cell? ⟨w.heap.size + 1 + 1, 1, none⟩ = some (.int .u64 0) := cell_of_row _ _ _ _ _ _ Z1.out
  have Z1_f0 : V2.frozen? ⟨w.heap.size + 1 + 1, 0, none⟩ = false := by simp [World.frozen?, Z1.out]
  have Z1_f1 : V2.frozen? ⟨w.heap.size + 1 + 1, 1, none⟩ = false := by simp [World.frozen?, Z1.out]
  have zN1 := lt_of_heap N1.out
  have zU1 := lt_of_heap U1.out
  have zZ1 := lt_of_heap Z1.out
  go_simp
  go_wp2_with fail
  refine (H3.out _).mono ?_
  rintro e V3 ⟨rfl, hb3⟩
  clear N1_0 N1_1 zN1 U1_0 U1_1 zU1 Z1_0 Z1_1 Z1_f0 Z1_f1 zZ1
  have B3 : Hid (Below w.heap.size w V3) := by first | exact Lib.hid ((B2.out).trans (hb3.mono (by have := B2.out.size; first | assumption | (simp <;> omega) | (simp; done)))) | exact Lib.hid (((B2.out).alloc (B2.out.size) _).trans (hb3.mono (by have := B2.out.size; first | assumption | (simp <;> omega) | (simp; done)))) | exact Lib.hid ((((B2.out).alloc (B2.out.size) _).alloc (by have := B2.out.size; simp <;> omega) _).trans (hb3.mono (by have := B2.out.size; first | assumption | (simp <;> omega) | (simp; done)))) | exact Lib.hid (((((B2.out).alloc (B2.out.size) _).alloc (by have := B2.out.size; simp <;> omega) _).alloc (by have := B2.out.size; simp <;> omega) _).trans (hb3.mono (by have := B2.out.size; first | assumption | (simp <;> omega) | (simp; done))))
  first | replace N1 := Lib.hid (row_call hb3 N1.out) | replace N1 := Lib.hid (row_call hb3 (row_alloc N1.out _)) | replace N1 := Lib.hid (row_call hb3 (row_alloc (row_alloc N1.out _) _)) | replace N1 := Lib.hid (row_call hb3 (row_alloc (row_alloc (row_alloc N1.out _) _) _))
  first | replace U1 := Lib.hid (row_call hb3 U1.out) | replace U1 := Lib.hid (row_call hb3 (row_alloc U1.out _)) | replace U1 := Lib.hid (row_call hb3 (row_alloc (row_alloc U1.out _) _)) | replace U1 := Lib.hid (row_call hb3 (row_alloc (row_alloc (row_alloc U1.out _) _) _))
  first | replace Z1 := Lib.hid (row_call hb3 Z1.out) | replace Z1 := Lib.hid (row_call hb3 (row_alloc Z1.out _)) | replace Z1 := Lib.hid (row_call hb3 (row_alloc (row_alloc Z1.out _) _)) | replace Z1 := Lib.hid (row_call hb3 (row_alloc (row_alloc (row_alloc Z1.out _) _) _))
  clear hb3
  have N1_0 : V3.cell? ⟨w.heap.size, 0, none⟩ = some (.int .u64 xh) := cell_of_row _ _ _ _ _ _ N1.out
  have N1_1 : V3.cell? ⟨w.heap.size, 1, none⟩ = some (.int .u64 xl) := cell_of_row _ _ _ _ _ _ N1.out
  have U1_0 : V3.cell? ⟨w.heap.size + 1, 0, none⟩ = some (.int .u64 yh) := cell_of_row _ _ _ _ _ _ U1.out
  have U1_1 : V3.cell? ⟨w.heap.size + 1, 1, none⟩ = some (.int .u64 yl) := cell_of_row _ _ _ _ _ _ U1.out
  have Z1_0 : V3.cell? ⟨w.heap.size + 1 + 1, 0, none⟩ = some (.int .u64 0) := cell_of_row _ _ _ _ _ _ Z1.out
  have Z1_1 : V3.cell? ⟨w.heap.size + 1 + 1, 1, none⟩ = some (.int .u64 0) := cell_of_row _ _ _ _ _ _ Z1.out
  have Z1_f0 : V3.frozen? ⟨w.heap.size + 1 + 1, 0, none⟩ = false := by simp [World.frozen?, Z1.out]
  have Z1_f1 : V3.frozen? ⟨w.heap.size + 1 + 1, 1, none⟩ = false := by simp [World.frozen?, Z1.out]
  have zN1 := lt_of_heap N1.out
  have zU1 := lt_of_heap U1.out
  have zZ1 := lt_of_heap Z1.out
  go_simp
  go_wp2_with fail
  refine (H4.out _).mono ?_
  rintro e V4 ⟨rfl, hb4⟩
  clear N1_0 N1_1 zN1 U1_0 U1_1 zU1 Z1_0 Z1_1 Z1_f0 Z1_f1 zZ1
  have B4 : Hid (Below w.heap.size w V4) := by first | exact Lib.hid ((B3.out).trans (hb4.mono (by have := B3.out.size; first | assumption | (simp <;> omega) | (simp; done)))) | exact Lib.hid (((B3.out).alloc (B3.out.size) _).trans (hb4.mono (by have := B3.out.size; first | assumption | (simp <;> omega) | (simp; done)))) | exact Lib.hid ((((B3.out).alloc (B3.out.size) _).alloc (by have := B3.out.size; simp <;> omega) _).trans (hb4.mono (by have := B3.out.size; first | assumption | (simp <;> omega) | (simp; done)))) | exact Lib.hid (((((B3.out).alloc (B3.out.size) _).alloc (by have := B3.out.size; simp <;> omega) _).alloc (by have := B3.out.size; simp <;> omega) _).trans (hb4.mono (by have := B3.out.size; first | assumption | (simp <;> omega) | (simp; done))))
  first | replace N1 := Lib.hid (row_call hb4 N1.out) | replace N1 := Lib.hid (row_call hb4 (row_alloc N1.out _)) | replace N1 := Lib.hid (row_call hb4 (row_alloc (row_alloc N1.out _) _)) | replace N1 := Lib.hid (row_call hb4 (row_alloc (row_alloc (row_alloc N1.out _) _) _))
  first | replace U1 := Lib.hid (row_call hb4 U1.out) | replace U1 := Lib.hid (row_call hb4 (row_alloc U1.out _)) | replace U1 := Lib.hid (row_call hb4 (row_alloc (row_alloc U1.out _) _)) | replace U1 := Lib.hid (row_call hb4 (row_alloc (row_alloc (row_alloc U1.out _) _) _))
  first | replace Z1 := Lib.hid (row_call hb4 Z1.out) | replace Z1 := Lib.hid (row_call hb4 (row_alloc Z1.out _)) | replace Z1 := Lib.hid (row_call hb4 (row_alloc (row_alloc Z1.out _) _)) | replace Z1 := Lib.hid (row_call hb4 (row_alloc (row_alloc (row_alloc Z1.out _) _) _))
  clear hb4
  have N1_0 : V4.cell? ⟨w.heap.size, 0, none⟩ = some (.int .u64 xh) := cell_of_row _ _ _ _ _ _ N1.out
  have N1_1 : V4.cell? ⟨w.heap.size, 1, none⟩ = some (.int .u64 xl) := cell_of_row _ _ _ _ _ _ N1.out
  have U1_0 : V4.cell? ⟨w.heap.size + 1, 0, none⟩ = some (.int .u64 yh) := cell_of_row _ _ _ _ _ _ U1.out
  have U1_1 : V4.cell? ⟨w.heap.size + 1, 1, none⟩ = some (.int .u64 yl) := cell_of_row _ _ _ _ _ _ U1.out
  have Z1_0 : V4.cell? ⟨w.heap.size + 1 + 1, 0, none⟩ = some (.int .u64 0) := cell_of_row _ _ _ _ _ _ Z1.out
  have Z1_1 : V4.cell? ⟨w.heap.size + 1 + 1, 1, none⟩ = some (.int .u64 0) := cell_of_row _ _ _ _ _ _ Z1.out
  have Z1_f0 : V4.frozen? ⟨w.heap.size + 1 + 1, 0, none⟩ = false := by simp [World.frozen?, Z1.out]
  have Z1_f1 : V4.frozen? ⟨w.heap.size + 1 + 1, 1, none⟩ = false := by simp [World.frozen?, Z1.out]
  have zN1 := lt_of_heap N1.out
  have zU1 := lt_of_heap U1.out
  have zZ1 := lt_of_heap Z1.out
  go_simp
  go_wp2_with fail
  refine (H5.out _).mono ?_
  rintro e V5 ⟨rfl, hb5⟩
  clear N1_0 N1_1 zN1 U1_0 U1_1 zU1 Z1_0 Z1_1 Z1_f0 Z1_f1 zZ1
  have nN1L1 := Lib.hid (lt_of_heap N1.out)
  have nU1L1 := Lib.hid (lt_of_heap U1.out)
  have nZ1L1 := Lib.hid (lt_of_heap Z1.out)
  have B5 := Lib.hid (((B4.out).alloc (B4.out.size) _).trans (hb5.mono (by have := B4.out.size; first | assumption | (simp <;> omega) | (simp; done))))
  replace N1 := Lib.hid (row_call hb5 (row_alloc N1.out _))
  replace U1 := Lib.hid (row_call hb5 (row_alloc U1.out _))
  replace Z1 := Lib.hid (row_call hb5 (row_alloc Z1.out _))
  have L1 := Lib.hid (row_call hb5 (heap_alloc_new _ _))
  clear hb5
  have N1_0 : V5.cell? ⟨w.heap.size, 0, none⟩ = some (.int .u64 xh) := cell_of_row _ _ _ _ _ _ N1.out
  have N1_1 : V5.cell? ⟨w.heap.size, 1, none⟩ = some (.int .u64 xl) := cell_of_row _ _ _ _ _ _ N1.out
  have U1_0 : V5.cell? ⟨w.heap.size + 1, 0, none⟩ = some (.int .u64 yh) := cell_of_row _ _ _ _ _ _ U1.out
  have U1_1 : V5.cell? ⟨w.heap.size + 1, 1, none⟩ = some (.int .u64 yl) := cell_of_row _ _ _ _ _ _ U1.out
  have Z1_0 : V5.cell? ⟨w.heap.size + 1 + 1, 0, none⟩ = some (.int .u64 0) := cell_of_row _ _ _ _ _ _ Z1.out
  have Z1_1 : V5.cell? ⟨w.heap.size + 1 + 1, 1, none⟩ = some (.int .u64 0) := cell_of_row _ _ _ _ _ _ Z1.out
  have Z1_f0 : V5.frozen? ⟨w.heap.size + 1 + 1, 0, none⟩ = false := by simp [World.frozen?, Z1.out]
  have Z1_f1 : V5.frozen? ⟨w.heap.size + 1 + 1, 1, none⟩ = false := by simp [World.frozen?, Z1.out]
  have L1_0 : V5.cell? ⟨V4.heap.size, 0, none⟩ = some (.int .u64 lh) := cell_of_row _ _ _ _ _ _ L1.out
  have L1_1 : V5.cell? ⟨V4.heap.size, 1, none⟩ = some (.int .u64 ll) := cell_of_row _ _ _ _ _ _ L1.out
  have zN1 := lt_of_heap N1.out
  have zU1 := lt_of_heap U1.out
  have zZ1 := lt_of_heap Z1.out
  have zL1 := lt_of_heap L1.out
  go_simp
  go_wp2_with fail
  refine (H6.out _).mono ?_
  rintro e V6 ⟨rfl, hb6⟩
  clear N1_0 N1_1 zN1 U1_0 U1_1 zU1 Z1_0 Z1_1 Z1_f0 Z1_f1 zZ1 L1_0 L1_1 zL1
  have nN1G1 := Lib.hid (lt_of_heap N1.out)
  have nU1G1 := Lib.hid (lt_of_heap U1.out)
  have nZ1G1 := Lib.hid (lt_of_heap Z1.out)
  have nL1G1 := Lib.hid (lt_of_heap L1.out)
  have B6 := Lib.hid (((B5.out).alloc (B5.out.size) _).trans (hb6.mono (by have := B5.out.size; first | assumption | (simp <;> omega) | (simp; done))))
  replace N1 := Lib.hid (row_call hb6 (row_alloc N1.out _))
  replace U1 := Lib.hid (row_call hb6 (row_alloc U1.out _))
  replace Z1 := Lib.hid (row_call hb6 (row_alloc Z1.out _))
  replace L1 := Lib.hid (row_call hb6 (row_alloc L1.out _))
  have G1 := Lib.hid (row_call hb6 (heap_alloc_new _ _))
  clear hb6
  have N1_0 : V6.cell? ⟨w.heap.size, 0, none⟩ = some (.int .u64 xh) := cell_of_row _ _ _ _ _ _ N1.out
  have N1_1 : V6.cell? ⟨w.heap.size, 1, none⟩ = some (.int .u64 xl) := cell_of_row _ _ _ _ _ _ N1.out
  have U1_0 : V6.cell? ⟨w.heap.size + 1, 0, none⟩ = some (.int .u64 yh) := cell_of_row _ _ _ _ _ _ U1.out
  have U1_1 : V6.cell? ⟨w.heap.size + 1, 1, none⟩ = some (.int .u64 yl) := cell_of_row _ _ _ _ _ _ U1.out
  have Z1_0 : V6.cell? ⟨w.heap.size + 1 + 1, 0, none⟩ = some (.int .u64 0) := cell_of_row _ _ _ _ _ _ Z1.out
  have Z1_1 : V6.cell? ⟨w.heap.size + 1 + 1, 1, none⟩ = some (.int .u64 0) := cell_of_row _ _ _ _ _ _ Z1.out
  have Z1_f0 : V6.frozen? ⟨w.heap.size + 1 + 1, 0, none⟩ = false := by simp [World.frozen?, Z1.out]
  have Z1_f1 : V6.frozen? ⟨w.heap.size + 1 + 1, 1, none⟩ = false := by simp [World.frozen?, Z1.out]
  have L1_0 : V6.cell? ⟨V4.heap.size, 0, none⟩ = some (.int .u64 lh) := cell_of_row _ _ _ _ _ _ L1.out
  have L1_1 : V6.cell? ⟨V4.heap.size, 1, none⟩ = some (.int .u64 ll) := cell_of_row _ _ _ _ _ _ L1.out
  have G1_0 : V6.cell? ⟨V5.heap.size, 0, none⟩ = some (.int .u64 hh) := cell_of_row _ _ _ _ _ _ G1.out
  have G1_1 : V6.cell? ⟨V5.heap.size, 1, none⟩ = some (.int .u64 hl) := cell_of_row _ _ _ _ _ _ G1.out
  have zN1 := lt_of_heap N1.out
  have zU1 := lt_of_heap U1.out
  have zZ1 := lt_of_heap Z1.out
  have zL1 := lt_of_heap L1.out
  have zG1 := lt_of_heap G1.out
  go_simp
  go_wp2_with fail
  refine (H7.out _).mono ?_
  rintro e V7 ⟨rfl, hb7⟩
  clear N1_0 N1_1 zN1 U1_0 U1_1 zU1 Z1_0 Z1_1 Z1_f0 Z1_f1 zZ1 L1_0 L1_1 zL1 G1_0 G1_1 zG1
  have B7 : Hid (Below w.heap.size w V7) := by first | exact Lib.hid ((B6.out).trans (hb7.mono (by have := B6.out.size; first | assumption | (simp <;> omega) | (simp; done)))) | exact Lib.hid (((B6.out).alloc (B6.out.size) _).trans (hb7.mono (by have := B6.out.size; first | assumption | (simp <;> omega) | (simp; done)))) | exact Lib.hid ((((B6.out).alloc (B6.out.size) _).alloc (by have := B6.out.size; simp <;> omega) _).trans (hb7.mono (by have := B6.out.size; first | assumption | (simp <;> omega) | (simp; done)))) | exact Lib.hid (((((B6.out).alloc (B6.out.size) _).alloc (by have := B6.out.size; simp <;> omega) _).alloc (by have := B6.out.size; simp <;> omega) _).trans (hb7.mono (by have := B6.out.size; first | assumption | (simp <;> omega) | (simp; done))))
  first | replace N1 := Lib.hid (row_call hb7 N1.out) | replace N1 := Lib.hid (row_call hb7 (row_alloc N1.out _)) | replace N1 := Lib.hid (row_call hb7 (row_alloc (row_alloc N1.out _) _)) | replace N1 := Lib.hid (row_call hb7 (row_alloc (row_alloc (row_alloc N1.out _) _) _))
  first | replace U1 := Lib.hid (row_call hb7 U1.out) | replace U1 := Lib.hid (row_call hb7 (row_alloc U1.out _)) | replace U1 := Lib.hid (row_call hb7 (row_alloc (row_alloc U1.out _) _)) | replace U1 := Lib.hid (row_call hb7 (row_alloc (row_alloc (row_alloc U1.out _) _) _))
  first | replace Z1 := Lib.hid (row_call hb7 Z1.out) | replace Z1 := Lib.hid (row_call hb7 (row_alloc Z1.out _)) | replace Z1 := Lib.hid (row_call hb7 (row_alloc (row_alloc Z1.out _) _)) | replace Z1 := Lib.hid (row_call hb7 (row_alloc (row_alloc (row_alloc Z1.out _) _) _))
  first | replace L1 := Lib.hid (row_call hb7 L1.out) | replace L1 := Lib.hid (row_call hb7 (row_alloc L1.out _)) | replace L1 := Lib.hid (row_call hb7 (row_alloc (row_alloc L1.out _) _)) | replace L1 := Lib.hid (row_call hb7 (row_alloc (row_alloc (row_alloc L1.out _) _) _))
  first | replace G1 := Lib.hid (row_call hb7 G1.out) | replace G1 := Lib.hid (row_call hb7 (row_alloc G1.out _)) | replace G1 := Lib.hid (row_call hb7 (row_alloc (row_alloc G1.out _) _)) | replace G1 := Lib.hid (row_call hb7 (row_alloc (row_alloc (row_alloc G1.out _) _) _))
  clear hb7
  have N1_0 : V7.cell? ⟨w.heap.size, 0, none⟩ = some (.int .u64 xh) := cell_of_row _ _ _ _ _ _ N1.out
  have N1_1 : V7.cell? ⟨w.heap.size, 1, none⟩ = some (.int .u64 xl) := cell_of_row _ _ _ _ _ _ N1.out
  have U1_0 : V7.cell? ⟨w.heap.size + 1, 0, none⟩ = some (.int .u64 yh) := cell_of_row _ _ _ _ _ _ U1.out
  have U1_1 : V7.cell? ⟨w.heap.size + 1, 1, none⟩ = some (.int .u64 yl) := cell_of_row _ _ _ _ _ _ U1.out
  have Z1_0 : V7.cell? ⟨w.heap.size + 1 + 1, 0, none⟩ = some (.int .u64 0) := cell_of_row _ _ _ _ _ _ Z1.out
  have Z1_1 : V7.cell? ⟨w.heap.size + 1 + 1, 1, none⟩ = some (.int .u64 0) := cell_of_row _ _ _ _ _ _ Z1.out
  have Z1_f0 : V7.frozen? ⟨w.heap.size + 1 + 1, 0, none⟩ = false := by simp [World.frozen?, Z1.out]
  have Z1_f1 : V7.frozen? ⟨w.heap.size + 1 + 1, 1, none⟩ = false := by simp [World.frozen?, Z1.out]
  have L1_0 : V7.cell? ⟨V4.heap.size, 0, none⟩ = some (.int .u64 lh) := cell_of_row _ _ _ _ _ _ L1.out
  have L1_1 : V7.cell? ⟨V4.heap.size, 1, none⟩ = some (.int .u64 ll) := cell_of_row _ _ _ _ _ _ L1.out
  have G1_0 : V7.cell? ⟨V5.heap.size, 0, none⟩ = some (.int .u64 hh) := cell_of_row _ _ _ _ _ _ G1.out
  have G1_1 : V7.cell? ⟨V5.heap.size, 1, none⟩ = some (.int .u64 hl) := cell_of_row _ _ _ _ _ _ G1.out
  have zN1 := lt_of_heap N1.out
  have zU1 := lt_of_heap U1.out
  have zZ1 := lt_of_heap Z1.out
  have zL1 := lt_of_heap L1.out
  have zG1 := lt_of_heap G1.out
  go_simp
  go_upto_region 10 with fail
  clear H1 H2 H3 H4 H5 H6 H7 h1 h2 hm0 hm8 g1 g2 hz
  have hm := KM.out
  clear KM
  rcases hm with rfl | rfl | rfl | rfl | rfl | rfl | rfl | rfl | rfl
  case' inr.inr.inl => cases ng
  case' inr.inr.inr.inl => cases ng
  case' inr.inr.inr.inr.inl => (rcases KC.out with rfl | rfl | rfl <;> cases ev)
  case' inr.inr.inr.inr.inr.inl => (rcases KC.out with rfl | rfl | rfl <;> cases ng)
  case' inr.inr.inr.inr.inr.inr.inl => (rcases KC.out with rfl | rfl | rfl <;> cases ng)
  case' inr.inr.inr.inr.inr.inr.inr.inl => rcases KC.out with rfl | rfl | rfl
  case' inr.inr.inr.inr.inr.inr.inr.inr => rcases KC.out with rfl | rfl | rfl
  all_goals
    go_wp2
    first
    | (refine shut_ret (v := .tuple #[.agg #[.int .u64 hh, .int .u64 hl], .int .i64 0]) ?_ rfl ⟨?_, ?_⟩
       · simp [results, Try.results9, go_sem, zZ1, Z1_0, Z1_1]; done
       · (rw [KV.out, if_pos, KG.out.1, KG.out.2]; unfold upB; first | rfl | decide | (simp; done))
       · exact keep2 B7.out (by omega) _ _)
    | (refine shut_ret (v := .tuple #[.agg #[.int .u64 lh, .int .u64 ll], .int .i64 0]) ?_ rfl ⟨?_, ?_⟩
       · simp [results, Try.results9, go_sem, zZ1, Z1_0, Z1_1]; done
       · (rw [KV.out, if_neg, KL.out.1, KL.out.2]; unfold upB; first | decide | (simp; done))
       · exact keep2 B7.out (by omega) _ _)
    | trace_state
end Go.Proofs.Ytlfbiidnfheelaa
