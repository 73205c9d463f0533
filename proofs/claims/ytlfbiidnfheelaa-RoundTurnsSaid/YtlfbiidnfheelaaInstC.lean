/- Contracts of package instant: numbers taken apart, made and checked. -/
import Derived.Test.YtlfbiidnfheelaaInstB
namespace Go.Proofs.Ytlfbiidnfheelaa
set_option linter.unusedVariables false
set_option linter.unusedSimpArgs false
open Go.ChangeShapes Go.WideShapes Go.ChangeAt Go.RowKit

/-- nanoseconds taken apart, within seconds first to last. -/
@[irreducible] def tkB (f l x : Int) : Bool := decide (f ≤ x / 1000000000) && decide (x / 1000000000 ≤ l)
@[irreducible] def tkS (f l x : Int) : Int := if tkB f l x = true then x / 1000000000 else 0
@[irreducible] def tkN (f l x : Int) : Int := if tkB f l x = true then x % 1000000000 else 0
@[irreducible] def tkE (f l x : Int) : Int := if tkB f l x = true then 0 else 8
theorem tk_yes {f l x : Int} (h1 : f ≤ x / 1000000000) (h2 : x / 1000000000 ≤ l) : tkS f l x = x / 1000000000 ∧ tkN f l x = x % 1000000000 ∧ tkE f l x = 0 := by
  have h : tkB f l x = true := by unfold tkB; rw [decide_eq_true h1, decide_eq_true h2]; rfl
  unfold tkS tkN tkE
  exact ⟨if_pos h, if_pos h, if_pos h⟩
theorem tk_no {f l x : Int} (h1 : ¬ (f ≤ x / 1000000000 ∧ x / 1000000000 ≤ l)) : tkS f l x = 0 ∧ tkN f l x = 0 ∧ tkE f l x = 8 := by
  have h : ¬ tkB f l x = true := by
    unfold tkB; rw [Bool.and_eq_true, decide_eq_true_eq, decide_eq_true_eq]; exact h1
  unfold tkS tkN tkE
  exact ⟨if_neg h, if_neg h, if_neg h⟩
theorem zw_zw (z : Int) : zw ((zw z : Nat) : Int) = zw z := by unfold zw; omega
theorem zh_zw (z : Int) : zh ((zw z : Nat) : Int) = zh z := by unfold zh; rw [zw_zw]
theorem zl_zw (z : Int) : zl ((zw z : Nat) : Int) = zl z := by unfold zl; rw [zw_zw]
theorem tk_math (f l x : Int) (b : in128 x) (f1 : -1099511627776 ≤ f) (f2 : f ≤ 0) (l1 : 0 ≤ l) (l2 : l ≤ 1099511627776) :
    ((f ≤ x / 1000000000 ∧ x / 1000000000 ≤ l) → ((zw (x - f * 1000000000) / 1000000000 : Nat) : Int) = x / 1000000000 - f ∧ ((zw (x - f * 1000000000) % 1000000000 : Nat) : Int) = x % 1000000000) ∧
    (¬ (f ≤ x / 1000000000 ∧ x / 1000000000 ≤ l) → l - f < ((zw (x - f * 1000000000) / 1000000000 : Nat) : Int)) ∧ in128 ((zw (x - f * 1000000000) / 1000000000 : Nat) : Int) := by
  have h := zw_lt (x - f * 1000000000)
  unfold in128 at *
  by_cases hx : f * 1000000000 ≤ x
  · have e : (zw (x - f * 1000000000) : Int) = x - f * 1000000000 := by unfold zw; omega
    generalize zw (x - f * 1000000000) = n at *
    clear h
    refine ⟨fun _ => ⟨by omega, by omega⟩, fun _ => by omega, by omega, by omega⟩
  · have e : (zw (x - f * 1000000000) : Int) = x - f * 1000000000 + 340282366920938463463374607431768211456 := by unfold zw; omega
    generalize zw (x - f * 1000000000) = n at *
    refine ⟨fun h2 => by omega, fun _ => by omega, by omega, by omega⟩
def TkRes (e : Ending) (f l x : Int) : Prop := e = .returned (.tuple #[.int .i64 (tkS f l x), .int .i64 (tkN f l x), .int .i64 (tkE f l x)])
set_option maxHeartbeats 1600000 in
set_option maxRecDepth 100000 in
theorem clos_any (f l x : Int) (p q r : Nat) (b : in128 x) (f1 : -1099511627776 ≤ f) (f2 : f ≤ 0) (l1 : 0 ≤ l) (l2 : l ≤ 1099511627776) (w : World)
    (hp : p < w.heap.size) (hq : q < w.heap.size) (hr : r < w.heap.size)
    (cp0 : w.cell? ⟨p, 0, none⟩ = some (.int .u64 (zh (f * 1000000000)))) (cp1 : w.cell? ⟨p, 1, none⟩ = some (.int .u64 (zl (f * 1000000000))))
    (cq : w.cell? ⟨q, 0, none⟩ = some (.int .i64 l)) (cr : w.cell? ⟨r, 0, none⟩ = some (.int .i64 f)) :
    Calls Try.prog 74 #[.agg #[.int .u64 (zh x), .int .u64 (zl x)], .pointer (some ⟨p, 0, none⟩), .pointer (some ⟨q, 0, none⟩), .pointer (some ⟨r, 0, none⟩)] w fun e w' => e = .returned (.tuple #[.int .i64 (tkS f l x), .int .i64 (tkN f l x), .int .i64 (tkE f l x)]) ∧ Below w.heap.size w w' := by
  obtain ⟨m1, m2, m3⟩ := tk_math f l x b f1 f2 l1 l2
  have H1 := Lib.hid (zSub_any x (f * 1000000000))
  have X2 := zDiv_any (zw (x - f * 1000000000)) 1000000000 (zw_lt _) (by unfold U; omega) (by omega)
  rw [zh_zw, zl_zw, show ((1000000000 : Nat) : Int) = 1000000000 from rfl] at X2
  have X3 := zInt_any _ m3
  have hrl : ((zw (x - f * 1000000000) % 1000000000 : Nat) : Int) < 1000000000 := by omega
  have hr0 : 0 ≤ ((zw (x - f * 1000000000) % 1000000000 : Nat) : Int) := by omega
  obtain ⟨wa, hwa⟩ : ∃ wa, wa = w.alloc (Obj.cells #[Value.int .u64 (zh x), Value.int .u64 (zl x)] 24) := ⟨_, rfl⟩
  have ca0 : (w.alloc (Obj.cells #[Value.int .u64 (zh x), Value.int .u64 (zl x)] 24)).cell? ⟨p, 0, none⟩ = some (.int .u64 (zh (f * 1000000000))) := by rw [World.cell?_alloc_past _ _ _ hp]; exact cp0
  have ca1 : (w.alloc (Obj.cells #[Value.int .u64 (zh x), Value.int .u64 (zl x)] 24)).cell? ⟨p, 1, none⟩ = some (.int .u64 (zl (f * 1000000000))) := by rw [World.cell?_alloc_past _ _ _ hp]; exact cp1
  have CQ := Lib.hid cq
  have CR := Lib.hid cr
  have M1 := Lib.hid m1
  have M2 := Lib.hid m2
  have TY := Lib.hid (@tk_yes f l x)
  have TN := Lib.hid (@tk_no f l x)
  clear cp0 cp1 cq cr m1 m2 m3 hwa wa
  generalize ((zw (x - f * 1000000000) % 1000000000 : Nat) : Int) = R at *
  generalize ((zw (x - f * 1000000000) / 1000000000 : Nat) : Int) = Q at *
  generalize x - f * 1000000000 = D at *
  generalize bb x (f * 1000000000) = bo at *
  generalize f * 1000000000 = F at *
  have H2 := Lib.hid X2
  clear X2
  by_cases hin : f ≤ x / 1000000000 ∧ x / 1000000000 ≤ l
  · obtain ⟨e1, e2⟩ := M1.out hin
    obtain ⟨t1, t2, t3⟩ := TY.out hin.1 hin.2
    have i64 : in64 Q := by unfold in64; omega
    rw [iV_of i64, iE_of i64] at X3
    have H3 := Lib.hid X3
    have hb1 : ¬ l - f < Q := by omega
    have hQ : 0 ≤ Q := by omega
    have hQ2 : Q ≤ 2199023255552 := by omega
    have T1 : Hid (tkS f l x = f + Q) := Lib.hid (by rw [t1]; omega)
    have T2 : Hid (tkN f l x = R) := Lib.hid (by rw [t2]; omega)
    have T3 := Lib.hid t3
    clear X3 i64 e1 e2 t1 t2 t3 hin b
    go_enter Try.func74, Try.ntmps74
    go_wp2_with fail
    
    refine (H1.out _).mono ?_
    rintro e V1 ⟨rfl, hb1⟩
    have B1 := Lib.hid (((Below.refl w.heap.size w).alloc (Nat.le_refl _) _).trans (hb1.mono (by first | assumption | (simp <;> omega) | (simp; done))))
    have A1 := Lib.hid (row_call hb1 (heap_alloc_new _ _))
    clear hb1
    have A1_0 : V1.cell? ⟨w.heap.size, 0, none⟩ = some (.int .u64 (zh x)) := cell_of_row _ _ _ _ _ _ A1.out
    have A1_1 : V1.cell? ⟨w.heap.size, 1, none⟩ = some (.int .u64 (zl x)) := cell_of_row _ _ _ _ _ _ A1.out
    have zA1 := lt_of_heap A1.out
    go_simp
    go_wp2_with fail
    refine (H2.out _).mono ?_
    rintro e V2 ⟨rfl, hb2⟩
    clear A1_0 A1_1 zA1
    have nA1D1 := Lib.hid (lt_of_heap A1.out)
    have B2 := Lib.hid (((B1.out).alloc (B1.out.size) _).trans (hb2.mono (by have := B1.out.size; first | assumption | (simp <;> omega) | (simp; done))))
    replace A1 := Lib.hid (row_call hb2 (row_alloc A1.out _))
    have D1 := Lib.hid (row_call hb2 (heap_alloc_new _ _))
    clear hb2
    have A1_0 : V2.cell? ⟨w.heap.size, 0, none⟩ = some (.int .u64 (zh x)) := cell_of_row _ _ _ _ _ _ A1.out
    have A1_1 : V2.cell? ⟨w.heap.size, 1, none⟩ = some (.int .u64 (zl x)) := cell_of_row _ _ _ _ _ _ A1.out
    have D1_0 : V2.cell? ⟨V1.heap.size, 0, none⟩ = some (.int .u64 (zh D)) := cell_of_row _ _ _ _ _ _ D1.out
    have D1_1 : V2.cell? ⟨V1.heap.size, 1, none⟩ = some (.int .u64 (zl D)) := cell_of_row _ _ _ _ _ _ D1.out
    have zA1 := lt_of_heap A1.out
    have zD1 := lt_of_heap D1.out
    go_simp
    go_wp2_with fail
    refine (H3.out _).mono ?_
    rintro e V3 ⟨rfl, hb3⟩
    clear A1_0 A1_1 zA1 D1_0 D1_1 zD1
    have nA1Q1 := Lib.hid (lt_of_heap A1.out)
    have nD1Q1 := Lib.hid (lt_of_heap D1.out)
    have B3 := Lib.hid (((B2.out).alloc (B2.out.size) _).trans (hb3.mono (by have := B2.out.size; first | assumption | (simp <;> omega) | (simp; done))))
    replace A1 := Lib.hid (row_call hb3 (row_alloc A1.out _))
    replace D1 := Lib.hid (row_call hb3 (row_alloc D1.out _))
    have Q1 := Lib.hid (row_call hb3 (heap_alloc_new _ _))
    clear hb3
    have A1_0 : V3.cell? ⟨w.heap.size, 0, none⟩ = some (.int .u64 (zh x)) := cell_of_row _ _ _ _ _ _ A1.out
    have A1_1 : V3.cell? ⟨w.heap.size, 1, none⟩ = some (.int .u64 (zl x)) := cell_of_row _ _ _ _ _ _ A1.out
    have D1_0 : V3.cell? ⟨V1.heap.size, 0, none⟩ = some (.int .u64 (zh D)) := cell_of_row _ _ _ _ _ _ D1.out
    have D1_1 : V3.cell? ⟨V1.heap.size, 1, none⟩ = some (.int .u64 (zl D)) := cell_of_row _ _ _ _ _ _ D1.out
    have Q1_0 : V3.cell? ⟨V2.heap.size, 0, none⟩ = some (.int .u64 (zh Q)) := cell_of_row _ _ _ _ _ _ Q1.out
    have Q1_1 : V3.cell? ⟨V2.heap.size, 1, none⟩ = some (.int .u64 (zl Q)) := cell_of_row _ _ _ _ _ _ Q1.out
    have zA1 := lt_of_heap A1.out
    have zD1 := lt_of_heap D1.out
    have zQ1 := lt_of_heap Q1.out
    have cq : V3.cell? ⟨q, 0, none⟩ = some (.int .i64 l) := by rw [B3.out.cell (p := ⟨q, 0, none⟩) hq]; exact CQ.out
    have cr : V3.cell? ⟨r, 0, none⟩ = some (.int .i64 f) := by rw [B3.out.cell (p := ⟨r, 0, none⟩) hr]; exact CR.out
    go_simp
    go_wp2
    go_ret3
    exact ⟨by rw [T1.out, T2.out, T3.out]; try rfl, B3.out⟩
  · have hb1 := M2.out hin
    obtain ⟨t1, t2, t3⟩ := TN.out hin
    have T1 := Lib.hid t1
    have T2 := Lib.hid t2
    have T3 := Lib.hid t3
    by_cases hq64 : in64 Q
    · rw [iV_of hq64, iE_of hq64] at X3
      have H3 := Lib.hid X3
      clear X3 t1 t2 t3 hin b hq64
      go_enter Try.func74, Try.ntmps74
      go_wp2_with fail
      
      refine (H1.out _).mono ?_
      rintro e V1 ⟨rfl, hb1⟩
      have B1 := Lib.hid (((Below.refl w.heap.size w).alloc (Nat.le_refl _) _).trans (hb1.mono (by first | assumption | (simp <;> omega) | (simp; done))))
      have A1 := Lib.hid (row_call hb1 (heap_alloc_new _ _))
      clear hb1
      have A1_0 : V1.cell? ⟨w.heap.size, 0, none⟩ = some (.int .u64 (zh x)) := cell_of_row _ _ _ _ _ _ A1.out
      have A1_1 : V1.cell? ⟨w.heap.size, 1, none⟩ = some (.int .u64 (zl x)) := cell_of_row _ _ _ _ _ _ A1.out
      have zA1 := lt_of_heap A1.out
      go_simp
      go_wp2_with fail
      refine (H2.out _).mono ?_
      rintro e V2 ⟨rfl, hb2⟩
      clear A1_0 A1_1 zA1
      have nA1D1 := Lib.hid (lt_of_heap A1.out)
      have B2 := Lib.hid (((B1.out).alloc (B1.out.size) _).trans (hb2.mono (by have := B1.out.size; first | assumption | (simp <;> omega) | (simp; done))))
      replace A1 := Lib.hid (row_call hb2 (row_alloc A1.out _))
      have D1 := Lib.hid (row_call hb2 (heap_alloc_new _ _))
      clear hb2
      have A1_0 : V2.cell? ⟨w.heap.size, 0, none⟩ = some (.int .u64 (zh x)) := cell_of_row _ _ _ _ _ _ A1.out
      have A1_1 : V2.cell? ⟨w.heap.size, 1, none⟩ = some (.int .u64 (zl x)) := cell_of_row _ _ _ _ _ _ A1.out
      have D1_0 : V2.cell? ⟨V1.heap.size, 0, none⟩ = some (.int .u64 (zh D)) := cell_of_row _ _ _ _ _ _ D1.out
      have D1_1 : V2.cell? ⟨V1.heap.size, 1, none⟩ = some (.int .u64 (zl D)) := cell_of_row _ _ _ _ _ _ D1.out
      have zA1 := lt_of_heap A1.out
      have zD1 := lt_of_heap D1.out
      go_simp
      go_wp2_with fail
      refine (H3.out _).mono ?_
      rintro e V3 ⟨rfl, hb3⟩
      clear A1_0 A1_1 zA1 D1_0 D1_1 zD1
      have nA1Q1 := Lib.hid (lt_of_heap A1.out)
      have nD1Q1 := Lib.hid (lt_of_heap D1.out)
      have B3 := Lib.hid (((B2.out).alloc (B2.out.size) _).trans (hb3.mono (by have := B2.out.size; first | assumption | (simp <;> omega) | (simp; done))))
      replace A1 := Lib.hid (row_call hb3 (row_alloc A1.out _))
      replace D1 := Lib.hid (row_call hb3 (row_alloc D1.out _))
      have Q1 := Lib.hid (row_call hb3 (heap_alloc_new _ _))
      clear hb3
      have A1_0 : V3.cell? ⟨w.heap.size, 0, none⟩ = some (.int .u64 (zh x)) := cell_of_row _ _ _ _ _ _ A1.out
      have A1_1 : V3.cell? ⟨w.heap.size, 1, none⟩ = some (.int .u64 (zl x)) := cell_of_row _ _ _ _ _ _ A1.out
      have D1_0 : V3.cell? ⟨V1.heap.size, 0, none⟩ = some (.int .u64 (zh D)) := cell_of_row _ _ _ _ _ _ D1.out
      have D1_1 : V3.cell? ⟨V1.heap.size, 1, none⟩ = some (.int .u64 (zl D)) := cell_of_row _ _ _ _ _ _ D1.out
      have Q1_0 : V3.cell? ⟨V2.heap.size, 0, none⟩ = some (.int .u64 (zh Q)) := cell_of_row _ _ _ _ _ _ Q1.out
      have Q1_1 : V3.cell? ⟨V2.heap.size, 1, none⟩ = some (.int .u64 (zl Q)) := cell_of_row _ _ _ _ _ _ Q1.out
      have zA1 := lt_of_heap A1.out
      have zD1 := lt_of_heap D1.out
      have zQ1 := lt_of_heap Q1.out
      have cq : V3.cell? ⟨q, 0, none⟩ = some (.int .i64 l) := by rw [B3.out.cell (p := ⟨q, 0, none⟩) hq]; exact CQ.out
      have cr : V3.cell? ⟨r, 0, none⟩ = some (.int .i64 f) := by rw [B3.out.cell (p := ⟨r, 0, none⟩) hr]; exact CR.out
      go_simp
      go_wp2
      go_ret3
      exact ⟨by rw [T1.out, T2.out, T3.out]; try rfl, B3.out⟩
    · rw [iV_not hq64, iE_not hq64] at X3
      have H3 := Lib.hid X3
      clear X3 t1 t2 t3 hin b hq64
      go_enter Try.func74, Try.ntmps74
      go_wp2_with fail
      
      refine (H1.out _).mono ?_
      rintro e V1 ⟨rfl, hb1⟩
      have B1 := Lib.hid (((Below.refl w.heap.size w).alloc (Nat.le_refl _) _).trans (hb1.mono (by first | assumption | (simp <;> omega) | (simp; done))))
      have A1 := Lib.hid (row_call hb1 (heap_alloc_new _ _))
      clear hb1
      have A1_0 : V1.cell? ⟨w.heap.size, 0, none⟩ = some (.int .u64 (zh x)) := cell_of_row _ _ _ _ _ _ A1.out
      have A1_1 : V1.cell? ⟨w.heap.size, 1, none⟩ = some (.int .u64 (zl x)) := cell_of_row _ _ _ _ _ _ A1.out
      have zA1 := lt_of_heap A1.out
      go_simp
      go_wp2_with fail
      refine (H2.out _).mono ?_
      rintro e V2 ⟨rfl, hb2⟩
      clear A1_0 A1_1 zA1
      have nA1D1 := Lib.hid (lt_of_heap A1.out)
      have B2 := Lib.hid (((B1.out).alloc (B1.out.size) _).trans (hb2.mono (by have := B1.out.size; first | assumption | (simp <;> omega) | (simp; done))))
      replace A1 := Lib.hid (row_call hb2 (row_alloc A1.out _))
      have D1 := Lib.hid (row_call hb2 (heap_alloc_new _ _))
      clear hb2
      have A1_0 : V2.cell? ⟨w.heap.size, 0, none⟩ = some (.int .u64 (zh x)) := cell_of_row _ _ _ _ _ _ A1.out
      have A1_1 : V2.cell? ⟨w.heap.size, 1, none⟩ = some (.int .u64 (zl x)) := cell_of_row _ _ _ _ _ _ A1.out
      have D1_0 : V2.cell? ⟨V1.heap.size, 0, none⟩ = some (.int .u64 (zh D)) := cell_of_row _ _ _ _ _ _ D1.out
      have D1_1 : V2.cell? ⟨V1.heap.size, 1, none⟩ = some (.int .u64 (zl D)) := cell_of_row _ _ _ _ _ _ D1.out
      have zA1 := lt_of_heap A1.out
      have zD1 := lt_of_heap D1.out
      go_simp
      go_wp2_with fail
      refine (H3.out _).mono ?_
      rintro e V3 ⟨rfl, hb3⟩
      clear A1_0 A1_1 zA1 D1_0 D1_1 zD1
      have nA1Q1 := Lib.hid (lt_of_heap A1.out)
      have nD1Q1 := Lib.hid (lt_of_heap D1.out)
      have B3 := Lib.hid (((B2.out).alloc (B2.out.size) _).trans (hb3.mono (by have := B2.out.size; first | assumption | (simp <;> omega) | (simp; done))))
      replace A1 := Lib.hid (row_call hb3 (row_alloc A1.out _))
      replace D1 := Lib.hid (row_call hb3 (row_alloc D1.out _))
      have Q1 := Lib.hid (row_call hb3 (heap_alloc_new _ _))
      clear hb3
      have A1_0 : V3.cell? ⟨w.heap.size, 0, none⟩ = some (.int .u64 (zh x)) := cell_of_row _ _ _ _ _ _ A1.out
      have A1_1 : V3.cell? ⟨w.heap.size, 1, none⟩ = some (.int .u64 (zl x)) := cell_of_row _ _ _ _ _ _ A1.out
      have D1_0 : V3.cell? ⟨V1.heap.size, 0, none⟩ = some (.int .u64 (zh D)) := cell_of_row _ _ _ _ _ _ D1.out
      have D1_1 : V3.cell? ⟨V1.heap.size, 1, none⟩ = some (.int .u64 (zl D)) := cell_of_row _ _ _ _ _ _ D1.out
      have Q1_0 : V3.cell? ⟨V2.heap.size, 0, none⟩ = some (.int .u64 (zh Q)) := cell_of_row _ _ _ _ _ _ Q1.out
      have Q1_1 : V3.cell? ⟨V2.heap.size, 1, none⟩ = some (.int .u64 (zl Q)) := cell_of_row _ _ _ _ _ _ Q1.out
      have zA1 := lt_of_heap A1.out
      have zD1 := lt_of_heap D1.out
      have zQ1 := lt_of_heap Q1.out
      go_simp
      go_wp2
      go_ret3
      exact ⟨by rw [T1.out, T2.out, T3.out]; try rfl, B3.out⟩
def TkFun (f l : Int) (w : World) (e : Ending) (w' : World) : Prop := ∃ p q r : Nat, e = .returned (.func (.func 74) #[] #[.pointer (some ⟨p, 0, none⟩), .pointer (some ⟨q, 0, none⟩), .pointer (some ⟨r, 0, none⟩)]) ∧
  p < w'.heap.size ∧ q < w'.heap.size ∧ r < w'.heap.size ∧ w'.cell? ⟨p, 0, none⟩ = some (.int .u64 (zh (f * 1000000000))) ∧ w'.cell? ⟨p, 1, none⟩ = some (.int .u64 (zl (f * 1000000000))) ∧
  w'.cell? ⟨q, 0, none⟩ = some (.int .i64 l) ∧ w'.cell? ⟨r, 0, none⟩ = some (.int .i64 f) ∧ Below w.heap.size w w'
set_option maxHeartbeats 1600000 in
set_option maxRecDepth 100000 in
theorem taker_any (f l : Int) (bf : in64 f) (bl : in64 l) (w : World) : Calls Try.prog 52 #[.int .i64 f, .int .i64 l] w (TkFun f l w) := by
  have X1 := total_any f 0 bf (by unfold in64; omega)
  rw [show nanos f 0 = f * 1000000000 by unfold nanos; omega] at X1
  have H1 := Lib.hid X1
  have hmf : ∀ (fn : Fn) (first cap : Array Value) (w : World), (Instr.makeFunc fn first cap).run Try.prog w = .ok (.func fn first cap) w := fun _ _ _ _ => rfl
  clear X1 bf bl
  go_enter Try.func52, Try.ntmps52
  go_wp2_with fail
  
  refine (H1.out _).mono ?_
  rintro e V1 ⟨rfl, hb1⟩
  have B1 := Lib.hid ((((Below.refl w.heap.size w).alloc (Nat.le_refl _) _).alloc (by simp <;> omega) _).trans (hb1.mono (by first | assumption | (simp <;> omega) | (simp; done))))
  have F1 := Lib.hid (row_call hb1 (row_alloc (heap_alloc_new _ _) _))
  have L1 := Lib.hid (row_at (k' := w.heap.size + 1) (by simp) (row_call hb1 (heap_alloc_new _ _)))
  clear hb1
  have F1_0 : V1.cell? ⟨w.heap.size, 0, none⟩ = some (.int .i64 f) := cell_of_row _ _ _ _ _ _ F1.out
  have L1_0 : V1.cell? ⟨w.heap.size + 1, 0, none⟩ = some (.int .i64 l) := cell_of_row _ _ _ _ _ _ L1.out
  have zF1 := lt_of_heap F1.out
  have zL1 := lt_of_heap L1.out
  go_simp
  go_wp2
  go_ret
  refine ⟨V1.heap.size, w.heap.size + 1, w.heap.size, rfl, by simp, by simp; omega, by simp; omega, by simp [go_sem], by simp [go_sem], ?_, ?_, B1.out.alloc B1.out.size _⟩
  · rw [World.cell?_alloc_past _ _ _ zL1]; exact L1_0
  · rw [World.cell?_alloc_past _ _ _ zF1]; exact F1_0
end Go.Proofs.Ytlfbiidnfheelaa
