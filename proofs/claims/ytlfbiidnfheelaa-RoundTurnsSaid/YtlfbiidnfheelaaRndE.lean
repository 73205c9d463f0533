/- The plain answers of layer 5: the multiple that is not above, what is too great, the nearer one. -/
import Derived.Test.YtlfbiidnfheelaaRndD
namespace Go.Proofs.Ytlfbiidnfheelaa
set_option linter.unusedVariables false
set_option linter.unusedSimpArgs false
open Go.ChangeShapes Go.WideShapes Go.ChangeAt Go.RowKit

/-- the quotient, rounded down, is even. -/
@[irreducible] def evQ (x u : Int) : Bool := x / u % 2 == 0
theorem evB_zero (A u : Nat) : evB A u 0 = ((A / u) % 2 == 0) := by unfold evB; rw [if_pos rfl]
theorem evQ_nat (A u : Nat) : evQ (A : Int) (u : Int) = evB A u 0 := by
  rw [evB_zero]; unfold evQ
  rw [← Int.natCast_ediv]
  generalize A / u = q
  rw [Bool.eq_iff_iff, beq_iff_eq, beq_iff_eq]; omega
theorem neg_div (A u : Nat) (hu : 0 < u) : (A % u = 0 → -(A : Int) / (u : Int) = -((A / u : Nat) : Int)) ∧ (A % u ≠ 0 → -(A : Int) / (u : Int) = -((A / u : Nat) : Int) - 1) := by
  have h := Nat.div_add_mod A u
  have hl := Nat.mod_lt A hu
  generalize hq : A / u = q at *
  generalize hr : A % u = r at *
  have e : (A : Int) = (u : Int) * q + r := by rw [← h]; push_cast; rfl
  have hb : (0 : Int) < (u : Int) := by omega
  constructor
  · intro h0
    have e2 : -(A : Int) = (-(q : Int)) * u + 0 := by rw [e, h0, Int.neg_mul, Int.mul_comm]; simp
    rw [e2, Int.add_zero, Int.mul_ediv_cancel _ (by omega)]
  · intro h0
    have e2 : -(A : Int) = ((u : Int) - r) + (-(q : Int) - 1) * u := by rw [e, Int.sub_mul, Int.neg_mul, Int.mul_comm (q : Int)]; omega
    rw [e2, Int.add_mul_ediv_right _ _ (by omega), Int.ediv_eq_zero_of_lt (by omega) (by omega)]; omega
theorem fl_neg (A u : Nat) (hu : 0 < u) : (lft A u 0 = 0 → -(A : Int) / (u : Int) * u = -(gt A u 0 : Int) ∧ evQ (-(A : Int)) u = evB A u 0) ∧ (lft A u 0 ≠ 0 → -(A : Int) / (u : Int) * u = -((gt A u 0 : Int) + u) ∧ evQ (-(A : Int)) u = !evB A u 0) := by
  obtain ⟨e1, e2⟩ := lft_end A u
  obtain ⟨h1, h2⟩ := neg_div A u hu
  rw [e1, e2, evB_zero]
  unfold evQ
  generalize A / u = q at *
  constructor
  · intro h0
    rw [h1 h0]
    refine ⟨by rw [Int.neg_mul]; push_cast; rfl, ?_⟩
    rw [Bool.eq_iff_iff, beq_iff_eq, beq_iff_eq]; omega
  · intro h0
    rw [h2 h0]
    refine ⟨by rw [Int.sub_mul, Int.neg_mul]; push_cast; omega, ?_⟩
    rw [Bool.eq_iff_iff, beq_iff_eq, Bool.not_eq_true', beq_eq_false_iff_ne]; omega
theorem rFl_any (x : Int) (u : Nat) (b : -170141183460469231731687303715884105728 < x ∧ x < 170141183460469231731687303715884105728) (hu : 0 < u) (hu2 : u ≤ 1208925819614629174706176) (w : World) :
    Calls Try.prog 25 #[.agg #[.int .u64 (zh x), .int .u64 (zl x)], .agg #[.int .u64 (zh (u : Int)), .int .u64 (zl (u : Int))]] w fun e w' => e = .returned (.tuple #[.agg #[.int .u64 (zh (x / u * u)), .int .u64 (zl (x / u * u))], .bool (evQ x u)]) ∧ Below w.heap.size w w' := by
  have X1 := rBelow_any x (by unfold in128; omega)
  by_cases h : x < 0
  · rw [decide_eq_true h] at X1
    have X2 := rNeg_any x
    obtain ⟨A, rfl⟩ : ∃ A : Nat, x = -(A : Int) := ⟨x.natAbs, by omega⟩
    rw [show - -(A : Int) = (A : Int) by omega] at X2
    obtain ⟨r1, r2⟩ := fl_neg A u hu
    exact rFl_neg _ _ A u (by omega) hu hu2 _ _ w (Lib.hid X1) (Lib.hid X2) r1 r2
  · rw [decide_eq_false h] at X1
    obtain ⟨A, rfl⟩ : ∃ A : Nat, x = (A : Int) := ⟨x.toNat, by omega⟩
    have X := rFl_pos A u (by omega) hu hu2 w (Lib.hid X1)
    rw [(lft_end A u).2] at X
    rw [evQ_nat, ← Int.natCast_ediv, ← Int.natCast_mul]
    exact X
theorem big100 : zh (1267650600228229401496703205376 : Int) = 68719476736 ∧ zl (1267650600228229401496703205376 : Int) = 0 := by decide +kernel
theorem big80 : zh (1208925819614629174706176 : Int) = 65536 ∧ zl (1208925819614629174706176 : Int) = 0 := by decide +kernel
set_option maxHeartbeats 1600000 in
set_option maxRecDepth 100000 in
theorem out_any (x : Int) (b : in128 x) (w : World) : Calls Try.prog 24 #[.agg #[.int .u64 (zh x), .int .u64 (zl x)]] w fun e w' => e = .returned (.bool (decide (1267650600228229401496703205376 < x.natAbs))) ∧ Below w.heap.size w w' := by
  have X1 := rBelow_any x b
  have X3 := rcmp_any x.natAbs 1267650600228229401496703205376 (by unfold in128 at b; omega) (by omega)
  rw [show ((1267650600228229401496703205376 : Nat) : Int) = 1267650600228229401496703205376 from rfl, big100.1, big100.2] at X3
  have E : Hid (decide ((0 : Int) < cmpI x.natAbs 1267650600228229401496703205376) = decide (1267650600228229401496703205376 < x.natAbs)) := Lib.hid (decide_eq_decide.mpr cmpL_gt)
  by_cases h : x < 0
  · rw [decide_eq_true h] at X1
    have X2 := rNeg_any x
    rw [show -x = (x.natAbs : Int) by omega] at X2
    have H1 := Lib.hid X1
    have H2 := Lib.hid X2
    have H3 := Lib.hid X3
    clear X1 X2 X3 b h
    generalize decide (1267650600228229401496703205376 < x.natAbs) = O at *
    generalize cmpI x.natAbs 1267650600228229401496703205376 = c at *
    generalize x.natAbs = m at *
    go_enter Try.func24, Try.ntmps24
    go_wp2_with fail
    
    refine (H1.out _).mono ?_
    rintro e V1 ⟨rfl, hb1⟩
    have B1 := Lib.hid (((Below.refl w.heap.size w).alloc (Nat.le_refl _) _).trans (hb1.mono (by first | assumption | (simp <;> omega) | (simp; done))))
    have N1 := Lib.hid (row_call hb1 (heap_alloc_new _ _))
    clear hb1
    have N1_0 : V1.cell? ⟨w.heap.size, 0, none⟩ = some (.int .u64 (zh x)) := cell_of_row _ _ _ _ _ _ N1.out
    have N1_1 : V1.cell? ⟨w.heap.size, 1, none⟩ = some (.int .u64 (zl x)) := cell_of_row _ _ _ _ _ _ N1.out
    have N1_f0 : V1.frozen? ⟨w.heap.size, 0, none⟩ = false := by simp [World.frozen?, N1.out]
    have N1_f1 : V1.frozen? ⟨w.heap.size, 1, none⟩ = false := by simp [World.frozen?, N1.out]
    have zN1 := lt_of_heap N1.out
    go_simp
    go_wp2_with fail
    refine (H2.out _).mono ?_
    rintro e V2 ⟨rfl, hb2⟩
    clear N1_0 N1_1 N1_f0 N1_f1 zN1
    have B2 : Hid (Below w.heap.size w V2) := by first | exact Lib.hid ((B1.out).trans (hb2.mono (by have := B1.out.size; first | assumption | (simp <;> omega) | (simp; done)))) | exact Lib.hid (((B1.out).alloc (B1.out.size) _).trans (hb2.mono (by have := B1.out.size; first | assumption | (simp <;> omega) | (simp; done)))) | exact Lib.hid ((((B1.out).alloc (B1.out.size) _).alloc (by have := B1.out.size; simp <;> omega) _).trans (hb2.mono (by have := B1.out.size; first | assumption | (simp <;> omega) | (simp; done)))) | exact Lib.hid (((((B1.out).alloc (B1.out.size) _).alloc (by have := B1.out.size; simp <;> omega) _).alloc (by have := B1.out.size; simp <;> omega) _).trans (hb2.mono (by have := B1.out.size; first | assumption | (simp <;> omega) | (simp; done))))
    first | replace N1 := Lib.hid (row_call hb2 N1.out) | replace N1 := Lib.hid (row_call hb2 (row_alloc N1.out _)) | replace N1 := Lib.hid (row_call hb2 (row_alloc (row_alloc N1.out _) _)) | replace N1 := Lib.hid (row_call hb2 (row_alloc (row_alloc (row_alloc N1.out _) _) _))
    clear hb2
    have N1_0 : V2.cell? ⟨w.heap.size, 0, none⟩ = some (.int .u64 (zh x)) := cell_of_row _ _ _ _ _ _ N1.out
    have N1_1 : V2.cell? ⟨w.heap.size, 1, none⟩ = some (.int .u64 (zl x)) := cell_of_row _ _ _ _ _ _ N1.out
    have N1_f0 : V2.frozen? ⟨w.heap.size, 0, none⟩ = false := by simp [World.frozen?, N1.out]
    have N1_f1 : V2.frozen? ⟨w.heap.size, 1, none⟩ = false := by simp [World.frozen?, N1.out]
    have zN1 := lt_of_heap N1.out
    go_simp
    go_wp2_with fail
    refine (H3.out _).mono ?_
    rintro e V3 ⟨rfl, hb3⟩
    clear N1_0 N1_1 N1_f0 N1_f1 zN1
    have B3 : Hid (Below w.heap.size w V3) := by first | exact Lib.hid ((keep2 (B2.out) (Nat.le_refl _) _ _).trans (hb3.mono (by have := B2.out.size; first | assumption | (simp <;> omega) | (simp; done)))) | exact Lib.hid (((keep2 (B2.out) (Nat.le_refl _) _ _).alloc (B2.out.size) _).trans (hb3.mono (by have := B2.out.size; first | assumption | (simp <;> omega) | (simp; done)))) | exact Lib.hid ((((keep2 (B2.out) (Nat.le_refl _) _ _).alloc (B2.out.size) _).alloc (by have := B2.out.size; simp <;> omega) _).trans (hb3.mono (by have := B2.out.size; first | assumption | (simp <;> omega) | (simp; done)))) | exact Lib.hid (((((keep2 (B2.out) (Nat.le_refl _) _ _).alloc (B2.out.size) _).alloc (by have := B2.out.size; simp <;> omega) _).alloc (by have := B2.out.size; simp <;> omega) _).trans (hb3.mono (by have := B2.out.size; first | assumption | (simp <;> omega) | (simp; done))))
    first | replace N1 := Lib.hid (row_call hb3 (row_set N1.out _ _)) | replace N1 := Lib.hid (row_call hb3 (row_alloc (row_set N1.out _ _) _)) | replace N1 := Lib.hid (row_call hb3 (row_alloc (row_alloc (row_set N1.out _ _) _) _)) | replace N1 := Lib.hid (row_call hb3 (row_alloc (row_alloc (row_alloc (row_set N1.out _ _) _) _) _))
    clear hb3
    have N1_0 : V3.cell? ⟨w.heap.size, 0, none⟩ = some (.int .u64 (zh (m : Int))) := cell_of_row _ _ _ _ _ _ N1.out
    have N1_1 : V3.cell? ⟨w.heap.size, 1, none⟩ = some (.int .u64 (zl (m : Int))) := cell_of_row _ _ _ _ _ _ N1.out
    have N1_f0 : V3.frozen? ⟨w.heap.size, 0, none⟩ = false := by simp [World.frozen?, N1.out]
    have N1_f1 : V3.frozen? ⟨w.heap.size, 1, none⟩ = false := by simp [World.frozen?, N1.out]
    have zN1 := lt_of_heap N1.out
    go_simp
    go_wp2
    go_ret
    exact ⟨by rw [← E.out]; try rfl, B3.out⟩
  · rw [decide_eq_false h] at X1
    rw [show (x.natAbs : Int) = x by omega] at X3
    have H1 := Lib.hid X1
    have H3 := Lib.hid X3
    clear X1 X3 b h
    generalize decide (1267650600228229401496703205376 < x.natAbs) = O at *
    generalize cmpI x.natAbs 1267650600228229401496703205376 = c at *
    go_enter Try.func24, Try.ntmps24
    go_wp2_with fail
    
    refine (H1.out _).mono ?_
    rintro e V1 ⟨rfl, hb1⟩
    have B1 := Lib.hid (((Below.refl w.heap.size w).alloc (Nat.le_refl _) _).trans (hb1.mono (by first | assumption | (simp <;> omega) | (simp; done))))
    have N1 := Lib.hid (row_call hb1 (heap_alloc_new _ _))
    clear hb1
    have N1_0 : V1.cell? ⟨w.heap.size, 0, none⟩ = some (.int .u64 (zh x)) := cell_of_row _ _ _ _ _ _ N1.out
    have N1_1 : V1.cell? ⟨w.heap.size, 1, none⟩ = some (.int .u64 (zl x)) := cell_of_row _ _ _ _ _ _ N1.out
    have N1_f0 : V1.frozen? ⟨w.heap.size, 0, none⟩ = false := by simp [World.frozen?, N1.out]
    have N1_f1 : V1.frozen? ⟨w.heap.size, 1, none⟩ = false := by simp [World.frozen?, N1.out]
    have zN1 := lt_of_heap N1.out
    go_simp
    go_wp2_with fail
    refine (H3.out _).mono ?_
    rintro e V2 ⟨rfl, hb2⟩
    clear N1_0 N1_1 N1_f0 N1_f1 zN1
    have B2 : Hid (Below w.heap.size w V2) := by first | exact Lib.hid ((B1.out).trans (hb2.mono (by have := B1.out.size; first | assumption | (simp <;> omega) | (simp; done)))) | exact Lib.hid (((B1.out).alloc (B1.out.size) _).trans (hb2.mono (by have := B1.out.size; first | assumption | (simp <;> omega) | (simp; done)))) | exact Lib.hid ((((B1.out).alloc (B1.out.size) _).alloc (by have := B1.out.size; simp <;> omega) _).trans (hb2.mono (by have := B1.out.size; first | assumption | (simp <;> omega) | (simp; done)))) | exact Lib.hid (((((B1.out).alloc (B1.out.size) _).alloc (by have := B1.out.size; simp <;> omega) _).alloc (by have := B1.out.size; simp <;> omega) _).trans (hb2.mono (by have := B1.out.size; first | assumption | (simp <;> omega) | (simp; done))))
    first | replace N1 := Lib.hid (row_call hb2 N1.out) | replace N1 := Lib.hid (row_call hb2 (row_alloc N1.out _)) | replace N1 := Lib.hid (row_call hb2 (row_alloc (row_alloc N1.out _) _)) | replace N1 := Lib.hid (row_call hb2 (row_alloc (row_alloc (row_alloc N1.out _) _) _))
    clear hb2
    have N1_0 : V2.cell? ⟨w.heap.size, 0, none⟩ = some (.int .u64 (zh x)) := cell_of_row _ _ _ _ _ _ N1.out
    have N1_1 : V2.cell? ⟨w.heap.size, 1, none⟩ = some (.int .u64 (zl x)) := cell_of_row _ _ _ _ _ _ N1.out
    have N1_f0 : V2.frozen? ⟨w.heap.size, 0, none⟩ = false := by simp [World.frozen?, N1.out]
    have N1_f1 : V2.frozen? ⟨w.heap.size, 1, none⟩ = false := by simp [World.frozen?, N1.out]
    have zN1 := lt_of_heap N1.out
    go_simp
    go_wp2
    go_ret
    exact ⟨by rw [← E.out]; try rfl, B2.out⟩
set_option maxHeartbeats 1600000 in
set_option maxRecDepth 100000 in
theorem near_any (x l h : Int) (a b : Nat) (ea : x - l = (a : Int)) (eb : h - x = (b : Int)) (ha : a < 340282366920938463463374607431768211456) (hb : b < 340282366920938463463374607431768211456) (w : World) :
    Calls Try.prog 28 #[.agg #[.int .u64 (zh x), .int .u64 (zl x)], .agg #[.int .u64 (zh l), .int .u64 (zl l)], .agg #[.int .u64 (zh h), .int .u64 (zl h)]] w fun e w' => e = .returned (.int .i64 (cmpI a b)) ∧ Below w.heap.size w w' := by
  have X1 := less_any x l
  have X2 := less_any h x
  rw [ea] at X1
  rw [eb] at X2
  have H1 := Lib.hid X1
  have H2 := Lib.hid X2
  have H3 := Lib.hid (rcmp_any a b ha hb)
  clear X1 X2 ea eb ha hb
  generalize cmpI a b = c at *
  go_enter Try.func28, Try.ntmps28
  go_wp2_with fail
  
  obtain ⟨W0, hW0⟩ : ∃ W0, W0 = (((w.alloc (Obj.cells #[Value.int .u64 (zh x), Value.int .u64 (zl x)] 24)).alloc (Obj.cells #[Value.int .u64 (zh l), Value.int .u64 (zl l)] 24)).alloc (Obj.cells #[Value.int .u64 (zh h), Value.int .u64 (zl h)] 24)) := ⟨_, rfl⟩
  have N1 := Lib.hid (row_at (k' := w.heap.size) (by simp) (row_by hW0 (row_alloc (row_alloc (heap_alloc_new _ _) _) _)))
  have L1 := Lib.hid (row_at (k' := w.heap.size + 1) (by simp) (row_by hW0 (row_alloc (heap_alloc_new _ _) _)))
  have U1 := Lib.hid (row_at (k' := w.heap.size + 1 + 1) (by simp) (row_by hW0 (heap_alloc_new _ _)))
  have HB0 := Lib.hid (below_by hW0 ((((Below.refl w.heap.size w).alloc (by simp <;> omega) _).alloc (by simp <;> omega) _).alloc (by simp <;> omega) _))
  have HW0 := Lib.hid hW0
  clear hW0
  have N1_0 : W0.cell? ⟨w.heap.size, 0, none⟩ = some (.int .u64 (zh x)) := cell_of_row _ _ _ _ _ _ N1.out
  have N1_1 : W0.cell? ⟨w.heap.size, 1, none⟩ = some (.int .u64 (zl x)) := cell_of_row _ _ _ _ _ _ N1.out
  have N1_f0 : W0.frozen? ⟨w.heap.size, 0, none⟩ = false := (by simp [World.frozen?, N1.out])
  have N1_f1 : W0.frozen? ⟨w.heap.size, 1, none⟩ = false := (by simp [World.frozen?, N1.out])
  have zN1 := lt_of_heap N1.out
  have L1_0 : W0.cell? ⟨w.heap.size + 1, 0, none⟩ = some (.int .u64 (zh l)) := cell_of_row _ _ _ _ _ _ L1.out
  have L1_1 : W0.cell? ⟨w.heap.size + 1, 1, none⟩ = some (.int .u64 (zl l)) := cell_of_row _ _ _ _ _ _ L1.out
  have zL1 := lt_of_heap L1.out
  have U1_0 : W0.cell? ⟨w.heap.size + 1 + 1, 0, none⟩ = some (.int .u64 (zh h)) := cell_of_row _ _ _ _ _ _ U1.out
  have U1_1 : W0.cell? ⟨w.heap.size + 1 + 1, 1, none⟩ = some (.int .u64 (zl h)) := cell_of_row _ _ _ _ _ _ U1.out
  have zU1 := lt_of_heap U1.out
  try rw [← HW0.out]
  go_cut [6] (fun s6 wx => s6 = .int .i64 c ∧ Below W0.heap.size W0 wx)
  case first =>
    go_region_held3 (fun w' => Below W0.heap.size W0 w' ∧ w'.cell? ⟨w.heap.size, 0, none⟩ = some (.int .u64 (zh x)) ∧ w'.cell? ⟨w.heap.size, 1, none⟩ = some (.int .u64 (zl x)) ∧ w'.cell? ⟨w.heap.size + 1, 0, none⟩ = some (.int .u64 (zh l)) ∧ w'.cell? ⟨w.heap.size + 1, 1, none⟩ = some (.int .u64 (zl l)) ∧ w'.cell? ⟨w.heap.size + 1 + 1, 0, none⟩ = some (.int .u64 (zh h)) ∧ w'.cell? ⟨w.heap.size + 1 + 1, 1, none⟩ = some (.int .u64 (zl h)))
    (first
      | ((try go_split_ands); refine ⟨(Below.refl _ _).drew, ?_, ?_, ?_, ?_, ?_, ?_⟩ <;> first | assumption | (rw [World.cell?_drew]; assumption))
      | ((try go_split_ands); refine ⟨keepS (W0 := W0) ?_ hb1, cellS (W0 := W0) ?_ hb1 ?_ ?_, cellS (W0 := W0) ?_ hb1 ?_ ?_, cellS (W0 := W0) ?_ hb1 ?_ ?_, cellS (W0 := W0) ?_ hb1 ?_ ?_, cellS (W0 := W0) ?_ hb1 ?_ ?_, cellS (W0 := W0) ?_ hb1 ?_ ?_⟩ <;> first | assumption | omega)
      | ((try go_split_ands); refine ⟨keepA (W0 := W0) ?_ _, cellA (W0 := W0) ?_ _ ?_ ?_, cellA (W0 := W0) ?_ _ ?_ ?_, cellA (W0 := W0) ?_ _ ?_ ?_, cellA (W0 := W0) ?_ _ ?_ ?_, cellA (W0 := W0) ?_ _ ?_ ?_, cellA (W0 := W0) ?_ _ ?_ ?_⟩ <;> first | assumption | omega)
      | ((try go_split_ands); refine ⟨keepAd (W0 := W0) ?_ _, cellAd (W0 := W0) ?_ _ ?_ ?_, cellAd (W0 := W0) ?_ _ ?_ ?_, cellAd (W0 := W0) ?_ _ ?_ ?_, cellAd (W0 := W0) ?_ _ ?_ ?_, cellAd (W0 := W0) ?_ _ ?_ ?_, cellAd (W0 := W0) ?_ _ ?_ ?_⟩ <;> first | assumption | omega | exact Below.refl _ _)
      | ((try go_split_ands); refine ⟨keep2 (W0 := W0) ?_ ?_ _ _, cell2 (W0 := W0) ?_ _ _ ?_ ?_, cell2 (W0 := W0) ?_ _ _ ?_ ?_, cell2 (W0 := W0) ?_ _ _ ?_ ?_, cell2 (W0 := W0) ?_ _ _ ?_ ?_, cell2 (W0 := W0) ?_ _ _ ?_ ?_, cell2 (W0 := W0) ?_ _ _ ?_ ?_⟩ <;> first | assumption | omega | exact Nat.le_refl _)
      | ((try go_split_ands); refine ⟨keepZ (W0 := W0) ?_ ?_ _, cellZ (W0 := W0) ?_ _ ?_ ?_, cellZ (W0 := W0) ?_ _ ?_ ?_, cellZ (W0 := W0) ?_ _ ?_ ?_, cellZ (W0 := W0) ?_ _ ?_ ?_, cellZ (W0 := W0) ?_ _ ?_ ?_, cellZ (W0 := W0) ?_ _ ?_ ?_⟩ <;> first | assumption | omega | exact Nat.le_refl _ | exact ⟨_, by assumption⟩))
    (first | (go_at_call 48; (with_reducible refine (H1.out _).mono ?_); rintro e w1 ⟨rfl, hb1⟩; (try go_split_ands); have hge : W0.heap.size ≤ w1.heap.size := (by first | (refine (keepS (W0 := W0) ?_ hb1).size; assumption) | exact (hb1.size : W0.heap.size ≤ w1.heap.size)); (try have hrow := row_call hb1 hrow); (try have hrow := row_new hb1); (try have hrow := row_newd hb1); have hl1 := lt_below hb1; obtain ⟨hc1, hf1⟩ := bcell hb1; (try (have hrc := row_cellA hrow; clear hc1 hf1)); (try have hrf := row_frozA hrow)) | (go_at_call 48; (with_reducible refine (H2.out _).mono ?_); rintro e w1 ⟨rfl, hb1⟩; (try go_split_ands); have hge : W0.heap.size ≤ w1.heap.size := (by first | (refine (keepS (W0 := W0) ?_ hb1).size; assumption) | exact (hb1.size : W0.heap.size ≤ w1.heap.size)); (try have hrow := row_call hb1 hrow); (try have hrow := row_new hb1); (try have hrow := row_newd hb1); have hl1 := lt_below hb1; obtain ⟨hc1, hf1⟩ := bcell hb1; (try (have hrc := row_cellA hrow; clear hc1 hf1)); (try have hrf := row_frozA hrow)) | (go_at_call 23; (with_reducible refine (H3.out _).mono ?_); rintro e w1 ⟨rfl, hb1⟩; (try go_split_ands); have hge : W0.heap.size ≤ w1.heap.size := (by first | (refine (keepS (W0 := W0) ?_ hb1).size; assumption) | exact (hb1.size : W0.heap.size ≤ w1.heap.size)); (try have hrow := row_call hb1 hrow); (try have hrow := row_new hb1); (try have hrow := row_newd hb1); have hl1 := lt_below hb1; obtain ⟨hc1, hf1⟩ := bcell hb1; (try (have hrc := row_cellA hrow; clear hc1 hf1)); (try have hrf := row_frozA hrow)))
    all_goals (try go_split_ands)
    all_goals (go_wp2_with fail; go_meet; refine ⟨rfl, ?_⟩)
    all_goals first | assumption | exact heap_alloc_new _ _ | exact row_set (by assumption) _ _
  case rest =>
    obtain ⟨rfl, hB⟩ := hcut
    obtain ⟨V1, rfl⟩ : ∃ V, V = wc := ⟨_, rfl⟩
    clear N1_0 N1_1 N1_f0 N1_f1 zN1 L1_0 L1_1 zL1 U1_0 U1_1 zU1
    replace N1 := Lib.hid (row_call hB N1.out)
    replace L1 := Lib.hid (row_call hB L1.out)
    replace U1 := Lib.hid (row_call hB U1.out)
    have B1 := Lib.hid (HB0.out.trans (hB.mono HB0.out.size))
    clear hB
    have N1_0 : V1.cell? ⟨w.heap.size, 0, none⟩ = some (.int .u64 (zh x)) := cell_of_row _ _ _ _ _ _ N1.out
    have N1_1 : V1.cell? ⟨w.heap.size, 1, none⟩ = some (.int .u64 (zl x)) := cell_of_row _ _ _ _ _ _ N1.out
    have N1_f0 : V1.frozen? ⟨w.heap.size, 0, none⟩ = false := (by simp [World.frozen?, N1.out])
    have N1_f1 : V1.frozen? ⟨w.heap.size, 1, none⟩ = false := (by simp [World.frozen?, N1.out])
    have zN1 := lt_of_heap N1.out
    have L1_0 : V1.cell? ⟨w.heap.size + 1, 0, none⟩ = some (.int .u64 (zh l)) := cell_of_row _ _ _ _ _ _ L1.out
    have L1_1 : V1.cell? ⟨w.heap.size + 1, 1, none⟩ = some (.int .u64 (zl l)) := cell_of_row _ _ _ _ _ _ L1.out
    have zL1 := lt_of_heap L1.out
    have U1_0 : V1.cell? ⟨w.heap.size + 1 + 1, 0, none⟩ = some (.int .u64 (zh h)) := cell_of_row _ _ _ _ _ _ U1.out
    have U1_1 : V1.cell? ⟨w.heap.size + 1 + 1, 1, none⟩ = some (.int .u64 (zl h)) := cell_of_row _ _ _ _ _ _ U1.out
    have zU1 := lt_of_heap U1.out
    go_wp2
    go_ret
    exact ⟨rfl, B1.out⟩
end Go.Proofs.Ytlfbiidnfheelaa
