/- Package clock: its functions. -/
import Derived.Test.YtpkbcnofieinaaaDoorClkC
import Derived.Test.YtpkbcnofieinaaaDoorDurB
namespace Go.Proofs.YtpkbcnofieinaaaDoor
set_option linter.unusedVariables false
set_option linter.unusedSimpArgs false
open Go.ChangeShapes Go.WideShapes Go.ChangeAt Go.RowKit

/-- whole days, and the hour and the minute behind midnight, rounded down. -/
def aD (n : Int) : Int := n / 1000000000 / 60 / 60 / 24
def aH (n : Int) : Int := n / 1000000000 / 60 / 60 % 24
def aM (n : Int) : Int := n / 1000000000 / 60 % 60
theorem pApart_any (n : Int) (b : in64 n) (w : World) (hM : SZ w) : Calls Tryd.prog 22 #[.int .i64 n] w fun e w' => e = .returned (.tuple #[.int .i64 (aD n), .agg #[.int .i64 (aH n), .int .i64 (aM n), .int .i64 (kS n), .int .i64 (kN n)]]) ∧ Below w.heap.size w w' :=
  apart_of n _ _ _ _ _ _ _ _ w hM (stg_any n 1000000000 b (by decide) (by decide)) (stg_any (n / 1000000000) 60 (by unfold in64 at *; omega) (by decide) (by decide))
    (stg_any (n / 1000000000 / 60) 60 (by unfold in64 at *; omega) (by decide) (by decide)) (stg_any (n / 1000000000 / 60 / 60) 24 (by unfold in64 at *; omega) (by decide) (by decide))
set_option maxHeartbeats 1600000 in
set_option maxRecDepth 100000 in
theorem pPartsOf_any (a b c d : Int) (w : World) : Calls Tryd.prog 20 #[.agg #[.int .i64 a, .int .i64 b, .int .i64 c, .int .i64 d]] w fun e w' => e = .returned (.agg #[.int .i64 a, .int .i64 b, .int .i64 c, .int .i64 d]) ∧ Below w.heap.size w w' := by
  go_enter Tryd.func20, Tryd.ntmps20
  refine wp_shut ?_
  go_wp2
  refine shut_ret (v := .agg #[.int .i64 a, .int .i64 b, .int .i64 c, .int .i64 d]) (by simp [results, Tryd.results20, go_sem]) rfl ⟨rfl, ?_⟩
  go_grown
set_option maxHeartbeats 1600000 in
set_option maxRecDepth 100000 in
theorem pClockOf_any (a b c d : Int) (w : World) : Calls Tryd.prog 23 #[.agg #[.int .i64 a, .int .i64 b, .int .i64 c, .int .i64 d]] w fun e w' => e = .returned (.agg #[.int .i64 a, .int .i64 b, .int .i64 c, .int .i64 d]) ∧ Below w.heap.size w w' := by
  go_enter Tryd.func23, Tryd.ntmps23
  refine wp_shut ?_
  go_wp2
  refine shut_ret (v := .agg #[.int .i64 a, .int .i64 b, .int .i64 c, .int .i64 d]) (by simp [results, Tryd.results23, go_sem]) rfl ⟨rfl, ?_⟩
  go_grown
theorem eq4_parts (a b c d a2 b2 c2 d2 : Int) (w : World) : (Op.equalIn 10000 52 (.agg #[.int .i64 a, .int .i64 b, .int .i64 c, .int .i64 d]) (.agg #[.int .i64 a2, .int .i64 b2, .int .i64 c2, .int .i64 d2])).run Tryd.prog w = .ok (a == a2 && b == b2 && c == c2 && d == d2) w := by
  have u3 := Tryd.underlying3
  have a3 := Tryd.isAgg3
  have z3 := Tryd.sizeOf3
  rw [show (10000 : Nat) = 9999 + 1 from rfl, Op.equalIn]
  simp only [Sem.run_bind, run_underlying Tryd.underlying52, Result.andThen_ok]
  simp only [Std.Legacy.Range.forIn_eq_forIn_range', Std.Legacy.Range.size, Nat.sub_zero, Nat.add_sub_cancel, Nat.div_one, List.range'_succ, List.range'_zero, List.forIn_cons, List.forIn_nil]
  go_simp
  by_cases h1 : a = a2 <;> by_cases h2 : b = b2 <;> by_cases h3 : c = c2 <;> by_cases h4 : d = d2 <;> simp [h1, h2, h3, h4]
theorem tg_in (h m s n : Int) : in64 (tgK h m s n) := by unfold tgK in64; rw [IntKind.wrap_i64]; omega
theorem tg_ok {h m s n : Int} (k : okK h m s n) : tgK h m s n = scK h m s * 1000000000 + n := by
  unfold okK at k
  unfold tgK scK
  rw [IntKind.wrap_i64]; omega
theorem tg_back {h m s n : Int} (k : okK h m s n) : aH (tgK h m s n) = h ∧ aM (tgK h m s n) = m ∧ kS (tgK h m s n) = s ∧ kN (tgK h m s n) = n ∧ aD (tgK h m s n) = 0 := by
  rw [tg_ok k]
  unfold okK at k
  have e : (scK h m s * 1000000000 + n) / 1000000000 = 3600 * h + 60 * m + s := by unfold scK; omega
  unfold aH aM kS kN aD
  rw [e]
  exact ⟨by omega, by omega, by omega, by omega, by omega⟩
theorem part_ok (n : Int) : okK (aH n) (aM n) (kS n) (kN n) := by unfold okK aH aM kS kN; omega
set_option maxHeartbeats 3200000 in
set_option maxRecDepth 100000 in
theorem pkCheck_any (h m s n : Int) (w : World) (hM : SZ w) : Calls Tryd.prog 14 #[.agg #[.int .i64 h, .int .i64 m, .int .i64 s, .int .i64 n]] w fun e w' => e = .returned (.int .i64 (ckK h m s n)) ∧ Below w.heap.size w w' := by
  have H1 := Lib.hid (pPartsOf_any h m s n)
  have H2 := Lib.hid (pTog_any h m s n)
  have X3 := pApart_any (tgK h m s n) (tg_in h m s n)
  have po := part_ok (tgK h m s n)
  by_cases k : okK h m s n
  · obtain ⟨e1, e2, e3, e4, e5⟩ := tg_back k
    rw [e1, e2, e3, e4, e5] at X3
    have H3 := Lib.hid X3
    have E := Lib.hid (ckK_ok k)
    clear X3 po k e1 e2 e3 e4 e5
    generalize tgK h m s n = T at *
    have heq : ∀ w, (Op.equalIn 10000 52 (.agg #[.int .i64 h, .int .i64 m, .int .i64 s, .int .i64 n]) (.agg #[.int .i64 h, .int .i64 m, .int .i64 s, .int .i64 n])).run Tryd.prog w = .ok true w := fun w => (eq4_parts h m s n h m s n w).trans (by simp)
    replace hM := Lib.hid hM
    go_enter Tryd.func14, Tryd.ntmps14
    go_wp2_with fail
    
    refine (H1.out _).mono ?_
    rintro e V1 ⟨rfl, hb1⟩
    have B1 := Lib.hid (((Below.refl w.heap.size w).alloc (Nat.le_refl _) _).trans (hb1.mono (by first | assumption | (simp <;> omega) | (simp; done))))
    have A1 := Lib.hid (row_call hb1 (heap_alloc_new _ _))
    clear hb1
    have A1_0 : V1.cell? ⟨w.heap.size, 0, none⟩ = some (.int .i64 h) := cell_of_row _ _ _ _ _ _ A1.out
    have A1_1 : V1.cell? ⟨w.heap.size, 1, none⟩ = some (.int .i64 m) := cell_of_row _ _ _ _ _ _ A1.out
    have A1_2 : V1.cell? ⟨w.heap.size, 2, none⟩ = some (.int .i64 s) := cell_of_row _ _ _ _ _ _ A1.out
    have A1_3 : V1.cell? ⟨w.heap.size, 3, none⟩ = some (.int .i64 n) := cell_of_row _ _ _ _ _ _ A1.out
    have zA1 := lt_of_heap A1.out
    go_simp
    go_wp2_with fail
    refine (H2.out _ (by first | exact sz_keep hM ((B1.out).alloc (B1.out.size) _))).mono ?_
    rintro e V2 ⟨rfl, hb2⟩
    clear A1_0 A1_1 A1_2 A1_3 zA1
    have nA1O1 := Lib.hid (lt_of_heap A1.out)
    have B2 := Lib.hid (((B1.out).alloc (B1.out.size) _).trans (hb2.mono (by have := B1.out.size; first | assumption | (simp <;> omega) | (simp; done))))
    replace A1 := Lib.hid (row_call hb2 (row_alloc A1.out _))
    have O1 := Lib.hid (row_call hb2 (heap_alloc_new _ _))
    clear hb2
    have A1_0 : V2.cell? ⟨w.heap.size, 0, none⟩ = some (.int .i64 h) := cell_of_row _ _ _ _ _ _ A1.out
    have A1_1 : V2.cell? ⟨w.heap.size, 1, none⟩ = some (.int .i64 m) := cell_of_row _ _ _ _ _ _ A1.out
    have A1_2 : V2.cell? ⟨w.heap.size, 2, none⟩ = some (.int .i64 s) := cell_of_row _ _ _ _ _ _ A1.out
    have A1_3 : V2.cell? ⟨w.heap.size, 3, none⟩ = some (.int .i64 n) := cell_of_row _ _ _ _ _ _ A1.out
    have O1_0 : V2.cell? ⟨V1.heap.size, 0, none⟩ = some (.int .i64 h) := cell_of_row _ _ _ _ _ _ O1.out
    have O1_1 : V2.cell? ⟨V1.heap.size, 1, none⟩ = some (.int .i64 m) := cell_of_row _ _ _ _ _ _ O1.out
    have O1_2 : V2.cell? ⟨V1.heap.size, 2, none⟩ = some (.int .i64 s) := cell_of_row _ _ _ _ _ _ O1.out
    have O1_3 : V2.cell? ⟨V1.heap.size, 3, none⟩ = some (.int .i64 n) := cell_of_row _ _ _ _ _ _ O1.out
    have zA1 := lt_of_heap A1.out
    have zO1 := lt_of_heap O1.out
    go_simp
    go_wp2_with fail
    refine (H3.out _ (by first | exact sz_keep hM (B2.out) | exact sz_keep hM ((B2.out).alloc (B2.out.size) _) | exact sz_keep hM (((B2.out).alloc (B2.out.size) _).alloc (by have := B2.out.size; simp <;> omega) _) | exact sz_keep hM ((((B2.out).alloc (B2.out.size) _).alloc (by have := B2.out.size; simp <;> omega) _).alloc (by have := B2.out.size; simp <;> omega) _))).mono ?_
    rintro e V3 ⟨rfl, hb3⟩
    clear A1_0 A1_1 A1_2 A1_3 zA1 O1_0 O1_1 O1_2 O1_3 zO1
    have B3 : Hid (Below w.heap.size w V3) := by first | exact Lib.hid ((B2.out).trans (hb3.mono (by have := B2.out.size; first | assumption | (simp <;> omega) | (simp; done)))) | exact Lib.hid (((B2.out).alloc (B2.out.size) _).trans (hb3.mono (by have := B2.out.size; first | assumption | (simp <;> omega) | (simp; done)))) | exact Lib.hid ((((B2.out).alloc (B2.out.size) _).alloc (by have := B2.out.size; simp <;> omega) _).trans (hb3.mono (by have := B2.out.size; first | assumption | (simp <;> omega) | (simp; done)))) | exact Lib.hid (((((B2.out).alloc (B2.out.size) _).alloc (by have := B2.out.size; simp <;> omega) _).alloc (by have := B2.out.size; simp <;> omega) _).trans (hb3.mono (by have := B2.out.size; first | assumption | (simp <;> omega) | (simp; done))))
    first | replace A1 := Lib.hid (row_call hb3 A1.out) | replace A1 := Lib.hid (row_call hb3 (row_alloc A1.out _)) | replace A1 := Lib.hid (row_call hb3 (row_alloc (row_alloc A1.out _) _)) | replace A1 := Lib.hid (row_call hb3 (row_alloc (row_alloc (row_alloc A1.out _) _) _))
    first | replace O1 := Lib.hid (row_call hb3 O1.out) | replace O1 := Lib.hid (row_call hb3 (row_alloc O1.out _)) | replace O1 := Lib.hid (row_call hb3 (row_alloc (row_alloc O1.out _) _)) | replace O1 := Lib.hid (row_call hb3 (row_alloc (row_alloc (row_alloc O1.out _) _) _))
    clear hb3
    have A1_0 : V3.cell? ⟨w.heap.size, 0, none⟩ = some (.int .i64 h) := cell_of_row _ _ _ _ _ _ A1.out
    have A1_1 : V3.cell? ⟨w.heap.size, 1, none⟩ = some (.int .i64 m) := cell_of_row _ _ _ _ _ _ A1.out
    have A1_2 : V3.cell? ⟨w.heap.size, 2, none⟩ = some (.int .i64 s) := cell_of_row _ _ _ _ _ _ A1.out
    have A1_3 : V3.cell? ⟨w.heap.size, 3, none⟩ = some (.int .i64 n) := cell_of_row _ _ _ _ _ _ A1.out
    have O1_0 : V3.cell? ⟨V1.heap.size, 0, none⟩ = some (.int .i64 h) := cell_of_row _ _ _ _ _ _ O1.out
    have O1_1 : V3.cell? ⟨V1.heap.size, 1, none⟩ = some (.int .i64 m) := cell_of_row _ _ _ _ _ _ O1.out
    have O1_2 : V3.cell? ⟨V1.heap.size, 2, none⟩ = some (.int .i64 s) := cell_of_row _ _ _ _ _ _ O1.out
    have O1_3 : V3.cell? ⟨V1.heap.size, 3, none⟩ = some (.int .i64 n) := cell_of_row _ _ _ _ _ _ O1.out
    have zA1 := lt_of_heap A1.out
    have zO1 := lt_of_heap O1.out
    go_simp
    go_wp2
    go_ret
    exact ⟨by rw [E.out]; try rfl, B3.out.alloc (by omega) _⟩
  · have hne : ¬ (h = aH (tgK h m s n) ∧ m = aM (tgK h m s n) ∧ s = kS (tgK h m s n) ∧ n = kN (tgK h m s n)) := by
      rintro ⟨e1, e2, e3, e4⟩
      rw [← e1, ← e2, ← e3, ← e4] at po
      exact k po
    have H3 := Lib.hid X3
    have E := Lib.hid (ckK_no k)
    clear X3 po k
    generalize aH (tgK h m s n) = a at *
    generalize aM (tgK h m s n) = b at *
    generalize kS (tgK h m s n) = c at *
    generalize kN (tgK h m s n) = d at *
    generalize aD (tgK h m s n) = D at *
    generalize tgK h m s n = T at *
    have heq : ∀ w, (Op.equalIn 10000 52 (.agg #[.int .i64 h, .int .i64 m, .int .i64 s, .int .i64 n]) (.agg #[.int .i64 a, .int .i64 b, .int .i64 c, .int .i64 d])).run Tryd.prog w = .ok false w := fun w => (eq4_parts h m s n a b c d w).trans (by
      congr 1
      rw [Bool.eq_false_iff]
      intro hh
      simp at hh
      exact hne ⟨hh.1.1.1, hh.1.1.2, hh.1.2, hh.2⟩)
    clear hne
    replace hM := Lib.hid hM
    go_enter Tryd.func14, Tryd.ntmps14
    go_wp2_with fail
    
    refine (H1.out _).mono ?_
    rintro e V1 ⟨rfl, hb1⟩
    have B1 := Lib.hid (((Below.refl w.heap.size w).alloc (Nat.le_refl _) _).trans (hb1.mono (by first | assumption | (simp <;> omega) | (simp; done))))
    have A1 := Lib.hid (row_call hb1 (heap_alloc_new _ _))
    clear hb1
    have A1_0 : V1.cell? ⟨w.heap.size, 0, none⟩ = some (.int .i64 h) := cell_of_row _ _ _ _ _ _ A1.out
    have A1_1 : V1.cell? ⟨w.heap.size, 1, none⟩ = some (.int .i64 m) := cell_of_row _ _ _ _ _ _ A1.out
    have A1_2 : V1.cell? ⟨w.heap.size, 2, none⟩ = some (.int .i64 s) := cell_of_row _ _ _ _ _ _ A1.out
    have A1_3 : V1.cell? ⟨w.heap.size, 3, none⟩ = some (.int .i64 n) := cell_of_row _ _ _ _ _ _ A1.out
    have zA1 := lt_of_heap A1.out
    go_simp
    go_wp2_with fail
    refine (H2.out _ (by first | exact sz_keep hM ((B1.out).alloc (B1.out.size) _))).mono ?_
    rintro e V2 ⟨rfl, hb2⟩
    clear A1_0 A1_1 A1_2 A1_3 zA1
    have nA1O1 := Lib.hid (lt_of_heap A1.out)
    have B2 := Lib.hid (((B1.out).alloc (B1.out.size) _).trans (hb2.mono (by have := B1.out.size; first | assumption | (simp <;> omega) | (simp; done))))
    replace A1 := Lib.hid (row_call hb2 (row_alloc A1.out _))
    have O1 := Lib.hid (row_call hb2 (heap_alloc_new _ _))
    clear hb2
    have A1_0 : V2.cell? ⟨w.heap.size, 0, none⟩ = some (.int .i64 h) := cell_of_row _ _ _ _ _ _ A1.out
    have A1_1 : V2.cell? ⟨w.heap.size, 1, none⟩ = some (.int .i64 m) := cell_of_row _ _ _ _ _ _ A1.out
    have A1_2 : V2.cell? ⟨w.heap.size, 2, none⟩ = some (.int .i64 s) := cell_of_row _ _ _ _ _ _ A1.out
    have A1_3 : V2.cell? ⟨w.heap.size, 3, none⟩ = some (.int .i64 n) := cell_of_row _ _ _ _ _ _ A1.out
    have O1_0 : V2.cell? ⟨V1.heap.size, 0, none⟩ = some (.int .i64 h) := cell_of_row _ _ _ _ _ _ O1.out
    have O1_1 : V2.cell? ⟨V1.heap.size, 1, none⟩ = some (.int .i64 m) := cell_of_row _ _ _ _ _ _ O1.out
    have O1_2 : V2.cell? ⟨V1.heap.size, 2, none⟩ = some (.int .i64 s) := cell_of_row _ _ _ _ _ _ O1.out
    have O1_3 : V2.cell? ⟨V1.heap.size, 3, none⟩ = some (.int .i64 n) := cell_of_row _ _ _ _ _ _ O1.out
    have zA1 := lt_of_heap A1.out
    have zO1 := lt_of_heap O1.out
    go_simp
    go_wp2_with fail
    refine (H3.out _ (by first | exact sz_keep hM (B2.out) | exact sz_keep hM ((B2.out).alloc (B2.out.size) _) | exact sz_keep hM (((B2.out).alloc (B2.out.size) _).alloc (by have := B2.out.size; simp <;> omega) _) | exact sz_keep hM ((((B2.out).alloc (B2.out.size) _).alloc (by have := B2.out.size; simp <;> omega) _).alloc (by have := B2.out.size; simp <;> omega) _))).mono ?_
    rintro e V3 ⟨rfl, hb3⟩
    clear A1_0 A1_1 A1_2 A1_3 zA1 O1_0 O1_1 O1_2 O1_3 zO1
    have B3 : Hid (Below w.heap.size w V3) := by first | exact Lib.hid ((B2.out).trans (hb3.mono (by have := B2.out.size; first | assumption | (simp <;> omega) | (simp; done)))) | exact Lib.hid (((B2.out).alloc (B2.out.size) _).trans (hb3.mono (by have := B2.out.size; first | assumption | (simp <;> omega) | (simp; done)))) | exact Lib.hid ((((B2.out).alloc (B2.out.size) _).alloc (by have := B2.out.size; simp <;> omega) _).trans (hb3.mono (by have := B2.out.size; first | assumption | (simp <;> omega) | (simp; done)))) | exact Lib.hid (((((B2.out).alloc (B2.out.size) _).alloc (by have := B2.out.size; simp <;> omega) _).alloc (by have := B2.out.size; simp <;> omega) _).trans (hb3.mono (by have := B2.out.size; first | assumption | (simp <;> omega) | (simp; done))))
    first | replace A1 := Lib.hid (row_call hb3 A1.out) | replace A1 := Lib.hid (row_call hb3 (row_alloc A1.out _)) | replace A1 := Lib.hid (row_call hb3 (row_alloc (row_alloc A1.out _) _)) | replace A1 := Lib.hid (row_call hb3 (row_alloc (row_alloc (row_alloc A1.out _) _) _))
    first | replace O1 := Lib.hid (row_call hb3 O1.out) | replace O1 := Lib.hid (row_call hb3 (row_alloc O1.out _)) | replace O1 := Lib.hid (row_call hb3 (row_alloc (row_alloc O1.out _) _)) | replace O1 := Lib.hid (row_call hb3 (row_alloc (row_alloc (row_alloc O1.out _) _) _))
    clear hb3
    have A1_0 : V3.cell? ⟨w.heap.size, 0, none⟩ = some (.int .i64 h) := cell_of_row _ _ _ _ _ _ A1.out
    have A1_1 : V3.cell? ⟨w.heap.size, 1, none⟩ = some (.int .i64 m) := cell_of_row _ _ _ _ _ _ A1.out
    have A1_2 : V3.cell? ⟨w.heap.size, 2, none⟩ = some (.int .i64 s) := cell_of_row _ _ _ _ _ _ A1.out
    have A1_3 : V3.cell? ⟨w.heap.size, 3, none⟩ = some (.int .i64 n) := cell_of_row _ _ _ _ _ _ A1.out
    have O1_0 : V3.cell? ⟨V1.heap.size, 0, none⟩ = some (.int .i64 h) := cell_of_row _ _ _ _ _ _ O1.out
    have O1_1 : V3.cell? ⟨V1.heap.size, 1, none⟩ = some (.int .i64 m) := cell_of_row _ _ _ _ _ _ O1.out
    have O1_2 : V3.cell? ⟨V1.heap.size, 2, none⟩ = some (.int .i64 s) := cell_of_row _ _ _ _ _ _ O1.out
    have O1_3 : V3.cell? ⟨V1.heap.size, 3, none⟩ = some (.int .i64 n) := cell_of_row _ _ _ _ _ _ O1.out
    have zA1 := lt_of_heap A1.out
    have zO1 := lt_of_heap O1.out
    go_simp
    go_wp2
    go_ret
    exact ⟨by rw [E.out]; try rfl, B3.out.alloc (by omega) _⟩
set_option maxHeartbeats 3200000 in
set_option maxRecDepth 100000 in
theorem pkNanos_any (h m s n : Int) (w : World) (hM : SZ w) : Calls Tryd.prog 8 #[.agg #[.int .i64 h, .int .i64 m, .int .i64 s, .int .i64 n]] w fun e w' => e = .returned (.tuple #[.int .i64 (nnK h m s n), .int .i64 (ckK h m s n)]) ∧ Below w.heap.size w w' := by
  have X1 := pkCheck_any h m s n
  by_cases hc : ckK h m s n = 0
  · have k := of_ckK hc
    rw [nnK_ok hc, ← tg_ok k]
    rw [hc] at X1 ⊢
    have H1 := Lib.hid X1
    have H2 := Lib.hid (pPartsOf_any h m s n)
    have H3 := Lib.hid (pTog_any h m s n)
    clear X1 hc k
    generalize tgK h m s n = T at *
    replace hM := Lib.hid hM
    go_enter Tryd.func8, Tryd.ntmps8
    go_wp2_with fail
    
    refine (H1.out _ (by first | exact sz_keep hM ((Below.refl w.heap.size w).alloc (Nat.le_refl _) _))).mono ?_
    rintro e V1 ⟨rfl, hb1⟩
    have B1 := Lib.hid (((Below.refl w.heap.size w).alloc (Nat.le_refl _) _).trans (hb1.mono (by first | assumption | (simp <;> omega) | (simp; done))))
    have A1 := Lib.hid (row_call hb1 (heap_alloc_new _ _))
    clear hb1
    have A1_0 : V1.cell? ⟨w.heap.size, 0, none⟩ = some (.int .i64 h) := cell_of_row _ _ _ _ _ _ A1.out
    have A1_1 : V1.cell? ⟨w.heap.size, 1, none⟩ = some (.int .i64 m) := cell_of_row _ _ _ _ _ _ A1.out
    have A1_2 : V1.cell? ⟨w.heap.size, 2, none⟩ = some (.int .i64 s) := cell_of_row _ _ _ _ _ _ A1.out
    have A1_3 : V1.cell? ⟨w.heap.size, 3, none⟩ = some (.int .i64 n) := cell_of_row _ _ _ _ _ _ A1.out
    have zA1 := lt_of_heap A1.out
    go_simp
    go_wp2_with fail
    refine (H2.out _).mono ?_
    rintro e V2 ⟨rfl, hb2⟩
    clear A1_0 A1_1 A1_2 A1_3 zA1
    have B2 : Hid (Below w.heap.size w V2) := by first | exact Lib.hid ((B1.out).trans (hb2.mono (by have := B1.out.size; first | assumption | (simp <;> omega) | (simp; done)))) | exact Lib.hid (((B1.out).alloc (B1.out.size) _).trans (hb2.mono (by have := B1.out.size; first | assumption | (simp <;> omega) | (simp; done)))) | exact Lib.hid ((((B1.out).alloc (B1.out.size) _).alloc (by have := B1.out.size; simp <;> omega) _).trans (hb2.mono (by have := B1.out.size; first | assumption | (simp <;> omega) | (simp; done)))) | exact Lib.hid (((((B1.out).alloc (B1.out.size) _).alloc (by have := B1.out.size; simp <;> omega) _).alloc (by have := B1.out.size; simp <;> omega) _).trans (hb2.mono (by have := B1.out.size; first | assumption | (simp <;> omega) | (simp; done))))
    first | replace A1 := Lib.hid (row_call hb2 A1.out) | replace A1 := Lib.hid (row_call hb2 (row_alloc A1.out _)) | replace A1 := Lib.hid (row_call hb2 (row_alloc (row_alloc A1.out _) _)) | replace A1 := Lib.hid (row_call hb2 (row_alloc (row_alloc (row_alloc A1.out _) _) _))
    clear hb2
    have A1_0 : V2.cell? ⟨w.heap.size, 0, none⟩ = some (.int .i64 h) := cell_of_row _ _ _ _ _ _ A1.out
    have A1_1 : V2.cell? ⟨w.heap.size, 1, none⟩ = some (.int .i64 m) := cell_of_row _ _ _ _ _ _ A1.out
    have A1_2 : V2.cell? ⟨w.heap.size, 2, none⟩ = some (.int .i64 s) := cell_of_row _ _ _ _ _ _ A1.out
    have A1_3 : V2.cell? ⟨w.heap.size, 3, none⟩ = some (.int .i64 n) := cell_of_row _ _ _ _ _ _ A1.out
    have zA1 := lt_of_heap A1.out
    go_simp
    go_wp2_with fail
    refine (H3.out _ (by first | exact sz_keep hM (B2.out) | exact sz_keep hM ((B2.out).alloc (B2.out.size) _) | exact sz_keep hM (((B2.out).alloc (B2.out.size) _).alloc (by have := B2.out.size; simp <;> omega) _) | exact sz_keep hM ((((B2.out).alloc (B2.out.size) _).alloc (by have := B2.out.size; simp <;> omega) _).alloc (by have := B2.out.size; simp <;> omega) _))).mono ?_
    rintro e V3 ⟨rfl, hb3⟩
    clear A1_0 A1_1 A1_2 A1_3 zA1
    have B3 : Hid (Below w.heap.size w V3) := by first | exact Lib.hid ((B2.out).trans (hb3.mono (by have := B2.out.size; first | assumption | (simp <;> omega) | (simp; done)))) | exact Lib.hid (((B2.out).alloc (B2.out.size) _).trans (hb3.mono (by have := B2.out.size; first | assumption | (simp <;> omega) | (simp; done)))) | exact Lib.hid ((((B2.out).alloc (B2.out.size) _).alloc (by have := B2.out.size; simp <;> omega) _).trans (hb3.mono (by have := B2.out.size; first | assumption | (simp <;> omega) | (simp; done)))) | exact Lib.hid (((((B2.out).alloc (B2.out.size) _).alloc (by have := B2.out.size; simp <;> omega) _).alloc (by have := B2.out.size; simp <;> omega) _).trans (hb3.mono (by have := B2.out.size; first | assumption | (simp <;> omega) | (simp; done))))
    first | replace A1 := Lib.hid (row_call hb3 A1.out) | replace A1 := Lib.hid (row_call hb3 (row_alloc A1.out _)) | replace A1 := Lib.hid (row_call hb3 (row_alloc (row_alloc A1.out _) _)) | replace A1 := Lib.hid (row_call hb3 (row_alloc (row_alloc (row_alloc A1.out _) _) _))
    clear hb3
    have A1_0 : V3.cell? ⟨w.heap.size, 0, none⟩ = some (.int .i64 h) := cell_of_row _ _ _ _ _ _ A1.out
    have A1_1 : V3.cell? ⟨w.heap.size, 1, none⟩ = some (.int .i64 m) := cell_of_row _ _ _ _ _ _ A1.out
    have A1_2 : V3.cell? ⟨w.heap.size, 2, none⟩ = some (.int .i64 s) := cell_of_row _ _ _ _ _ _ A1.out
    have A1_3 : V3.cell? ⟨w.heap.size, 3, none⟩ = some (.int .i64 n) := cell_of_row _ _ _ _ _ _ A1.out
    have zA1 := lt_of_heap A1.out
    go_simp
    go_wp2
    go_ret2
    exact ⟨rfl, B3.out⟩
  · rw [nnK_no hc]
    have H1 := Lib.hid X1
    clear X1
    generalize ckK h m s n = E at *
    have f1 : (E != 0) = true := by rw [bne_iff_ne]; exact hc
    replace hM := Lib.hid hM
    go_enter Tryd.func8, Tryd.ntmps8
    go_wp2_with fail
    
    refine (H1.out _ (by first | exact sz_keep hM ((Below.refl w.heap.size w).alloc (Nat.le_refl _) _))).mono ?_
    rintro e V1 ⟨rfl, hb1⟩
    have B1 := Lib.hid (((Below.refl w.heap.size w).alloc (Nat.le_refl _) _).trans (hb1.mono (by first | assumption | (simp <;> omega) | (simp; done))))
    have A1 := Lib.hid (row_call hb1 (heap_alloc_new _ _))
    clear hb1
    have A1_0 : V1.cell? ⟨w.heap.size, 0, none⟩ = some (.int .i64 h) := cell_of_row _ _ _ _ _ _ A1.out
    have A1_1 : V1.cell? ⟨w.heap.size, 1, none⟩ = some (.int .i64 m) := cell_of_row _ _ _ _ _ _ A1.out
    have A1_2 : V1.cell? ⟨w.heap.size, 2, none⟩ = some (.int .i64 s) := cell_of_row _ _ _ _ _ _ A1.out
    have A1_3 : V1.cell? ⟨w.heap.size, 3, none⟩ = some (.int .i64 n) := cell_of_row _ _ _ _ _ _ A1.out
    have zA1 := lt_of_heap A1.out
    go_simp
    go_wp2
    go_ret2
    exact ⟨rfl, B1.out⟩
set_option maxHeartbeats 3200000 in
set_option maxRecDepth 100000 in
theorem pkOf_no (n : Int) (b : in64 n) (h : n < 0 ∨ 86400000000000 ≤ n) (w : World) (hM : SZ w) : Calls Tryd.prog 10 #[.int .i64 n] w fun e w' => e = .returned (.tuple #[.agg #[.int .i64 0, .int .i64 0, .int .i64 0, .int .i64 0], .int .i64 8]) ∧ Below w.heap.size w w' := by
  have H1 := Lib.hid (pApart_any n b)
  have f1 : (aD n != 0) = true := by rw [bne_iff_ne]; unfold aD; omega
  generalize aH n = p1 at *
  generalize aM n = p2 at *
  generalize kS n = p3 at *
  generalize kN n = p4 at *
  generalize aD n = D at *
  replace hM := Lib.hid hM
  go_enter Tryd.func10, Tryd.ntmps10
  refine wp_shut ?_
  go_wp2_with fail
  
  refine (H1.out _ (by first | exact sz_keep hM ((Below.refl w.heap.size w).alloc (Nat.le_refl _) _))).mono ?_
  rintro e V1 ⟨rfl, hb1⟩
  have B1 := Lib.hid (((Below.refl w.heap.size w).alloc (Nat.le_refl _) _).trans (hb1.mono (by first | assumption | (simp <;> omega) | (simp; done))))
  have Z1 := Lib.hid (row_call hb1 (heap_alloc_new _ _))
  clear hb1
  have Z1_0 : V1.cell? ⟨w.heap.size, 0, none⟩ = some (.int .i64 0) := cell_of_row _ _ _ _ _ _ Z1.out
  have Z1_1 : V1.cell? ⟨w.heap.size, 1, none⟩ = some (.int .i64 0) := cell_of_row _ _ _ _ _ _ Z1.out
  have Z1_2 : V1.cell? ⟨w.heap.size, 2, none⟩ = some (.int .i64 0) := cell_of_row _ _ _ _ _ _ Z1.out
  have Z1_3 : V1.cell? ⟨w.heap.size, 3, none⟩ = some (.int .i64 0) := cell_of_row _ _ _ _ _ _ Z1.out
  have Z1_f0 : V1.frozen? ⟨w.heap.size, 0, none⟩ = false := by simp [World.frozen?, Z1.out]
  have Z1_f1 : V1.frozen? ⟨w.heap.size, 1, none⟩ = false := by simp [World.frozen?, Z1.out]
  have Z1_f2 : V1.frozen? ⟨w.heap.size, 2, none⟩ = false := by simp [World.frozen?, Z1.out]
  have Z1_f3 : V1.frozen? ⟨w.heap.size, 3, none⟩ = false := by simp [World.frozen?, Z1.out]
  have zZ1 := lt_of_heap Z1.out
  go_simp
  go_wp2
  refine shut_ret (v := .tuple #[.agg #[.int .i64 0, .int .i64 0, .int .i64 0, .int .i64 0], .int .i64 8]) (by simp [results, Tryd.results10, go_sem, zZ1, Z1_0, Z1_1, Z1_2, Z1_3]) rfl ⟨rfl, ?_⟩
  have hk := keep4 B1.out (Nat.le_refl w.heap.size) (.int .i64 0) (.int .i64 0) (.int .i64 0) (.int .i64 0)
  exact hk.alloc hk.size _
theorem kH_is {n : Int} (h1 : 0 ≤ n) (h2 : n < 86400000000000) : aH n = kH n ∧ aM n = kM n ∧ aD n = 0 := by
  unfold aH aM aD kH kM
  exact ⟨by omega, rfl, by omega⟩
set_option maxHeartbeats 3200000 in
set_option maxRecDepth 100000 in
theorem pkOf_any (n : Int) (h1 : 0 ≤ n) (h2 : n < 86400000000000) (w : World) (hM : SZ w) : Calls Tryd.prog 10 #[.int .i64 n] w fun e w' => e = .returned (.tuple #[.agg #[.int .i64 (kH n), .int .i64 (kM n), .int .i64 (kS n), .int .i64 (kN n)], .int .i64 0]) ∧ Below w.heap.size w w' := by
  have X1 := pApart_any n (by unfold in64; omega)
  obtain ⟨e1, e2, e3⟩ := kH_is h1 h2
  rw [e1, e2, e3] at X1
  have H1 := Lib.hid X1
  have H2 := Lib.hid (pClockOf_any (kH n) (kM n) (kS n) (kN n))
  clear X1 e1 e2 e3
  generalize kH n = a at *
  generalize kM n = b at *
  generalize kS n = c at *
  generalize kN n = d at *
  replace hM := Lib.hid hM
  go_enter Tryd.func10, Tryd.ntmps10
  refine wp_shut ?_
  go_wp2_with fail
  
  refine (H1.out _ (by first | exact sz_keep hM ((Below.refl w.heap.size w).alloc (Nat.le_refl _) _))).mono ?_
  rintro e V1 ⟨rfl, hb1⟩
  have B1 := Lib.hid (((Below.refl w.heap.size w).alloc (Nat.le_refl _) _).trans (hb1.mono (by first | assumption | (simp <;> omega) | (simp; done))))
  have Z1 := Lib.hid (row_call hb1 (heap_alloc_new _ _))
  clear hb1
  have Z1_0 : V1.cell? ⟨w.heap.size, 0, none⟩ = some (.int .i64 0) := cell_of_row _ _ _ _ _ _ Z1.out
  have Z1_1 : V1.cell? ⟨w.heap.size, 1, none⟩ = some (.int .i64 0) := cell_of_row _ _ _ _ _ _ Z1.out
  have Z1_2 : V1.cell? ⟨w.heap.size, 2, none⟩ = some (.int .i64 0) := cell_of_row _ _ _ _ _ _ Z1.out
  have Z1_3 : V1.cell? ⟨w.heap.size, 3, none⟩ = some (.int .i64 0) := cell_of_row _ _ _ _ _ _ Z1.out
  have Z1_f0 : V1.frozen? ⟨w.heap.size, 0, none⟩ = false := by simp [World.frozen?, Z1.out]
  have Z1_f1 : V1.frozen? ⟨w.heap.size, 1, none⟩ = false := by simp [World.frozen?, Z1.out]
  have Z1_f2 : V1.frozen? ⟨w.heap.size, 2, none⟩ = false := by simp [World.frozen?, Z1.out]
  have Z1_f3 : V1.frozen? ⟨w.heap.size, 3, none⟩ = false := by simp [World.frozen?, Z1.out]
  have zZ1 := lt_of_heap Z1.out
  go_simp
  go_wp2_with fail
  refine (H2.out _).mono ?_
  rintro e V2 ⟨rfl, hb2⟩
  clear Z1_0 Z1_1 Z1_2 Z1_3 Z1_f0 Z1_f1 Z1_f2 Z1_f3 zZ1
  have nZ1O1 := Lib.hid (lt_of_heap Z1.out)
  have B2 := Lib.hid (((B1.out).alloc (B1.out.size) _).trans (hb2.mono (by have := B1.out.size; first | assumption | (simp <;> omega) | (simp; done))))
  replace Z1 := Lib.hid (row_call hb2 (row_alloc Z1.out _))
  have O1 := Lib.hid (row_call hb2 (heap_alloc_new _ _))
  clear hb2
  have Z1_0 : V2.cell? ⟨w.heap.size, 0, none⟩ = some (.int .i64 0) := cell_of_row _ _ _ _ _ _ Z1.out
  have Z1_1 : V2.cell? ⟨w.heap.size, 1, none⟩ = some (.int .i64 0) := cell_of_row _ _ _ _ _ _ Z1.out
  have Z1_2 : V2.cell? ⟨w.heap.size, 2, none⟩ = some (.int .i64 0) := cell_of_row _ _ _ _ _ _ Z1.out
  have Z1_3 : V2.cell? ⟨w.heap.size, 3, none⟩ = some (.int .i64 0) := cell_of_row _ _ _ _ _ _ Z1.out
  have Z1_f0 : V2.frozen? ⟨w.heap.size, 0, none⟩ = false := by simp [World.frozen?, Z1.out]
  have Z1_f1 : V2.frozen? ⟨w.heap.size, 1, none⟩ = false := by simp [World.frozen?, Z1.out]
  have Z1_f2 : V2.frozen? ⟨w.heap.size, 2, none⟩ = false := by simp [World.frozen?, Z1.out]
  have Z1_f3 : V2.frozen? ⟨w.heap.size, 3, none⟩ = false := by simp [World.frozen?, Z1.out]
  have O1_0 : V2.cell? ⟨V1.heap.size, 0, none⟩ = some (.int .i64 a) := cell_of_row _ _ _ _ _ _ O1.out
  have O1_1 : V2.cell? ⟨V1.heap.size, 1, none⟩ = some (.int .i64 b) := cell_of_row _ _ _ _ _ _ O1.out
  have O1_2 : V2.cell? ⟨V1.heap.size, 2, none⟩ = some (.int .i64 c) := cell_of_row _ _ _ _ _ _ O1.out
  have O1_3 : V2.cell? ⟨V1.heap.size, 3, none⟩ = some (.int .i64 d) := cell_of_row _ _ _ _ _ _ O1.out
  have zZ1 := lt_of_heap Z1.out
  have zO1 := lt_of_heap O1.out
  go_simp
  go_wp2
  refine shut_ret (v := .tuple #[.agg #[.int .i64 a, .int .i64 b, .int .i64 c, .int .i64 d], .int .i64 0]) (by simp [results, Tryd.results10, go_sem, zZ1, Z1_0, Z1_1, Z1_2, Z1_3]) rfl ⟨rfl, ?_⟩
  exact keep4 B2.out (by omega) _ _ _ _
set_option maxHeartbeats 1600000 in
set_option maxRecDepth 100000 in
theorem pkHalf_no (h m s n : Int) (hc : ckK h m s n ≠ 0) (w : World) (hM : SZ w) : Calls Tryd.prog 12 #[.agg #[.int .i64 h, .int .i64 m, .int .i64 s, .int .i64 n]] w fun e w' => e = .returned (.tuple #[.int .i64 0, .bool false, .int .i64 (ckK h m s n)]) ∧ Below w.heap.size w w' := by
  have H1 := Lib.hid (pkCheck_any h m s n)
  generalize ckK h m s n = E at *
  have f1 : (E != 0) = true := by rw [bne_iff_ne]; exact hc
  replace hM := Lib.hid hM
  go_enter Tryd.func12, Tryd.ntmps12
  refine wp_shut ?_
  go_wp2_with fail
  
  refine (H1.out _ (by first | exact sz_keep hM ((Below.refl w.heap.size w).alloc (Nat.le_refl _) _))).mono ?_
  rintro e V1 ⟨rfl, hb1⟩
  have B1 := Lib.hid (((Below.refl w.heap.size w).alloc (Nat.le_refl _) _).trans (hb1.mono (by first | assumption | (simp <;> omega) | (simp; done))))
  have A1 := Lib.hid (row_call hb1 (heap_alloc_new _ _))
  clear hb1
  have A1_0 : V1.cell? ⟨w.heap.size, 0, none⟩ = some (.int .i64 h) := cell_of_row _ _ _ _ _ _ A1.out
  have A1_1 : V1.cell? ⟨w.heap.size, 1, none⟩ = some (.int .i64 m) := cell_of_row _ _ _ _ _ _ A1.out
  have A1_2 : V1.cell? ⟨w.heap.size, 2, none⟩ = some (.int .i64 s) := cell_of_row _ _ _ _ _ _ A1.out
  have A1_3 : V1.cell? ⟨w.heap.size, 3, none⟩ = some (.int .i64 n) := cell_of_row _ _ _ _ _ _ A1.out
  have zA1 := lt_of_heap A1.out
  go_simp
  go_wp2
  refine shut_ret (v := .tuple #[.int .i64 0, .bool false, .int .i64 E]) (by simp [results, Tryd.results12, go_sem]) rfl ⟨rfl, ?_⟩
  exact B1.out
set_option maxHeartbeats 1600000 in
set_option maxRecDepth 100000 in
theorem pkHalf_any (h m s n : Int) (hc : ckK h m s n = 0) (w : World) (hM : SZ w) : Calls Tryd.prog 12 #[.agg #[.int .i64 h, .int .i64 m, .int .i64 s, .int .i64 n]] w fun e w' => e = .returned (.tuple #[.int .i64 (hfK h), .bool (decide (12 ≤ h)), .int .i64 0]) ∧ Below w.heap.size w w' := by
  have X1 := pkCheck_any h m s n
  have k := of_ckK hc
  unfold okK at k
  rw [hc] at X1
  have H1 := Lib.hid X1
  have k1 : 0 ≤ h := k.1
  clear X1 hc k
  replace hM := Lib.hid hM
  by_cases h0 : h % 12 = 0
  · have E : Hid (hfK h = 12) := Lib.hid (if_pos h0)
    go_enter Tryd.func12, Tryd.ntmps12
    refine wp_shut ?_
    go_wp2_with fail
    
    refine (H1.out _ (by first | exact sz_keep hM ((Below.refl w.heap.size w).alloc (Nat.le_refl _) _))).mono ?_
    rintro e V1 ⟨rfl, hb1⟩
    have B1 := Lib.hid (((Below.refl w.heap.size w).alloc (Nat.le_refl _) _).trans (hb1.mono (by first | assumption | (simp <;> omega) | (simp; done))))
    have A1 := Lib.hid (row_call hb1 (heap_alloc_new _ _))
    clear hb1
    have A1_0 : V1.cell? ⟨w.heap.size, 0, none⟩ = some (.int .i64 h) := cell_of_row _ _ _ _ _ _ A1.out
    have A1_1 : V1.cell? ⟨w.heap.size, 1, none⟩ = some (.int .i64 m) := cell_of_row _ _ _ _ _ _ A1.out
    have A1_2 : V1.cell? ⟨w.heap.size, 2, none⟩ = some (.int .i64 s) := cell_of_row _ _ _ _ _ _ A1.out
    have A1_3 : V1.cell? ⟨w.heap.size, 3, none⟩ = some (.int .i64 n) := cell_of_row _ _ _ _ _ _ A1.out
    have zA1 := lt_of_heap A1.out
    go_simp
    go_wp2
    go_region
    go_wp2
    refine shut_ret (v := .tuple #[.int .i64 12, .bool (decide (12 ≤ h)), .int .i64 0]) (by simp [results, Tryd.results12, go_sem]) rfl ⟨by rw [E.out], ?_⟩
    exact B1.out.drew
  · have E : Hid (hfK h = h % 12) := Lib.hid (if_neg h0)
    have f0 : (h % 12 == 0) = false := by rw [beq_eq_false_iff_ne]; exact h0
    go_enter Tryd.func12, Tryd.ntmps12
    refine wp_shut ?_
    go_wp2_with fail
    
    refine (H1.out _ (by first | exact sz_keep hM ((Below.refl w.heap.size w).alloc (Nat.le_refl _) _))).mono ?_
    rintro e V1 ⟨rfl, hb1⟩
    have B1 := Lib.hid (((Below.refl w.heap.size w).alloc (Nat.le_refl _) _).trans (hb1.mono (by first | assumption | (simp <;> omega) | (simp; done))))
    have A1 := Lib.hid (row_call hb1 (heap_alloc_new _ _))
    clear hb1
    have A1_0 : V1.cell? ⟨w.heap.size, 0, none⟩ = some (.int .i64 h) := cell_of_row _ _ _ _ _ _ A1.out
    have A1_1 : V1.cell? ⟨w.heap.size, 1, none⟩ = some (.int .i64 m) := cell_of_row _ _ _ _ _ _ A1.out
    have A1_2 : V1.cell? ⟨w.heap.size, 2, none⟩ = some (.int .i64 s) := cell_of_row _ _ _ _ _ _ A1.out
    have A1_3 : V1.cell? ⟨w.heap.size, 3, none⟩ = some (.int .i64 n) := cell_of_row _ _ _ _ _ _ A1.out
    have zA1 := lt_of_heap A1.out
    go_simp
    go_wp2
    go_region
    go_wp2
    refine shut_ret (v := .tuple #[.int .i64 (h % 12), .bool (decide (12 ≤ h)), .int .i64 0]) (by simp [results, Tryd.results12, go_sem]) rfl ⟨by rw [E.out], ?_⟩
    exact B1.out.drew
set_option maxHeartbeats 3200000 in
set_option maxRecDepth 100000 in
theorem pkAdd_no1 (h m s n d k : Int) (hc : ckK h m s n ≠ 0) (w : World) (hM : SZ w) :
    Calls Tryd.prog 17 #[.agg #[.int .i64 h, .int .i64 m, .int .i64 s, .int .i64 n], .agg #[.int .i64 d, .int .i64 k]] w fun e w' => e = .returned (.tuple #[.agg #[.int .i64 0, .int .i64 0, .int .i64 0, .int .i64 0], .int .i64 0, .int .i64 (ckK h m s n)]) ∧ Below w.heap.size w w' := by
  have H1 := Lib.hid (pkNanos_any h m s n)
  generalize nnK h m s n = N at *
  generalize ckK h m s n = E at *
  have f1 : (E != 0) = true := by rw [bne_iff_ne]; exact hc
  replace hM := Lib.hid hM
  go_enter Tryd.func17, Tryd.ntmps17
  refine wp_shut ?_
  go_wp2_with fail
  
  refine (H1.out _ (by first | exact sz_keep hM ((((Below.refl w.heap.size w).alloc (Nat.le_refl _) _).alloc (by simp <;> omega) _).alloc (by simp <;> omega) _))).mono ?_
  rintro e V1 ⟨rfl, hb1⟩
  have B1 := Lib.hid (((((Below.refl w.heap.size w).alloc (Nat.le_refl _) _).alloc (by simp <;> omega) _).alloc (by simp <;> omega) _).trans (hb1.mono (by first | assumption | (simp <;> omega) | (simp; done))))
  have A1 := Lib.hid (row_call hb1 (row_alloc (row_alloc (heap_alloc_new _ _) _) _))
  have D1 := Lib.hid (row_at (k' := w.heap.size + 1) (by simp) (row_call hb1 (row_alloc (heap_alloc_new _ _) _)))
  have Z1 := Lib.hid (row_at (k' := w.heap.size + 1 + 1) (by simp) (row_call hb1 (heap_alloc_new _ _)))
  clear hb1
  have A1_0 : V1.cell? ⟨w.heap.size, 0, none⟩ = some (.int .i64 h) := cell_of_row _ _ _ _ _ _ A1.out
  have A1_1 : V1.cell? ⟨w.heap.size, 1, none⟩ = some (.int .i64 m) := cell_of_row _ _ _ _ _ _ A1.out
  have A1_2 : V1.cell? ⟨w.heap.size, 2, none⟩ = some (.int .i64 s) := cell_of_row _ _ _ _ _ _ A1.out
  have A1_3 : V1.cell? ⟨w.heap.size, 3, none⟩ = some (.int .i64 n) := cell_of_row _ _ _ _ _ _ A1.out
  have D1_0 : V1.cell? ⟨w.heap.size + 1, 0, none⟩ = some (.int .i64 d) := cell_of_row _ _ _ _ _ _ D1.out
  have D1_1 : V1.cell? ⟨w.heap.size + 1, 1, none⟩ = some (.int .i64 k) := cell_of_row _ _ _ _ _ _ D1.out
  have Z1_0 : V1.cell? ⟨w.heap.size + 1 + 1, 0, none⟩ = some (.int .i64 0) := cell_of_row _ _ _ _ _ _ Z1.out
  have Z1_1 : V1.cell? ⟨w.heap.size + 1 + 1, 1, none⟩ = some (.int .i64 0) := cell_of_row _ _ _ _ _ _ Z1.out
  have Z1_2 : V1.cell? ⟨w.heap.size + 1 + 1, 2, none⟩ = some (.int .i64 0) := cell_of_row _ _ _ _ _ _ Z1.out
  have Z1_3 : V1.cell? ⟨w.heap.size + 1 + 1, 3, none⟩ = some (.int .i64 0) := cell_of_row _ _ _ _ _ _ Z1.out
  have Z1_f0 : V1.frozen? ⟨w.heap.size + 1 + 1, 0, none⟩ = false := by simp [World.frozen?, Z1.out]
  have Z1_f1 : V1.frozen? ⟨w.heap.size + 1 + 1, 1, none⟩ = false := by simp [World.frozen?, Z1.out]
  have Z1_f2 : V1.frozen? ⟨w.heap.size + 1 + 1, 2, none⟩ = false := by simp [World.frozen?, Z1.out]
  have Z1_f3 : V1.frozen? ⟨w.heap.size + 1 + 1, 3, none⟩ = false := by simp [World.frozen?, Z1.out]
  have zA1 := lt_of_heap A1.out
  have zD1 := lt_of_heap D1.out
  have zZ1 := lt_of_heap Z1.out
  go_simp
  go_wp2
  refine shut_ret (v := .tuple #[.agg #[.int .i64 0, .int .i64 0, .int .i64 0, .int .i64 0], .int .i64 0, .int .i64 E]) (by simp [results, Tryd.results17, go_sem, zZ1, Z1_0, Z1_1, Z1_2, Z1_3]) rfl ⟨rfl, ?_⟩
  exact keep4 B1.out (by omega) _ _ _ _
set_option maxHeartbeats 3200000 in
set_option maxRecDepth 100000 in
theorem pkAdd_no2 (h m s n d k : Int) (hc : ckK h m s n = 0) (hd : ckD d k ≠ 0) (w : World) (hM : SZ w) :
    Calls Tryd.prog 17 #[.agg #[.int .i64 h, .int .i64 m, .int .i64 s, .int .i64 n], .agg #[.int .i64 d, .int .i64 k]] w fun e w' => e = .returned (.tuple #[.agg #[.int .i64 0, .int .i64 0, .int .i64 0, .int .i64 0], .int .i64 0, .int .i64 (ckD d k)]) ∧ Below w.heap.size w w' := by
  have X1 := pkNanos_any h m s n
  rw [hc] at X1
  have H1 := Lib.hid X1
  have H2 := Lib.hid (dCheck_any d k)
  clear X1
  generalize nnK h m s n = N at *
  generalize ckD d k = E at *
  have f1 : (E != 0) = true := by rw [bne_iff_ne]; exact hd
  replace hM := Lib.hid hM
  go_enter Tryd.func17, Tryd.ntmps17
  refine wp_shut ?_
  go_wp2_with fail
  
  refine (H1.out _ (by first | exact sz_keep hM ((((Below.refl w.heap.size w).alloc (Nat.le_refl _) _).alloc (by simp <;> omega) _).alloc (by simp <;> omega) _))).mono ?_
  rintro e V1 ⟨rfl, hb1⟩
  have B1 := Lib.hid (((((Below.refl w.heap.size w).alloc (Nat.le_refl _) _).alloc (by simp <;> omega) _).alloc (by simp <;> omega) _).trans (hb1.mono (by first | assumption | (simp <;> omega) | (simp; done))))
  have A1 := Lib.hid (row_call hb1 (row_alloc (row_alloc (heap_alloc_new _ _) _) _))
  have D1 := Lib.hid (row_at (k' := w.heap.size + 1) (by simp) (row_call hb1 (row_alloc (heap_alloc_new _ _) _)))
  have Z1 := Lib.hid (row_at (k' := w.heap.size + 1 + 1) (by simp) (row_call hb1 (heap_alloc_new _ _)))
  clear hb1
  have A1_0 : V1.cell? ⟨w.heap.size, 0, none⟩ = some (.int .i64 h) := cell_of_row _ _ _ _ _ _ A1.out
  have A1_1 : V1.cell? ⟨w.heap.size, 1, none⟩ = some (.int .i64 m) := cell_of_row _ _ _ _ _ _ A1.out
  have A1_2 : V1.cell? ⟨w.heap.size, 2, none⟩ = some (.int .i64 s) := cell_of_row _ _ _ _ _ _ A1.out
  have A1_3 : V1.cell? ⟨w.heap.size, 3, none⟩ = some (.int .i64 n) := cell_of_row _ _ _ _ _ _ A1.out
  have D1_0 : V1.cell? ⟨w.heap.size + 1, 0, none⟩ = some (.int .i64 d) := cell_of_row _ _ _ _ _ _ D1.out
  have D1_1 : V1.cell? ⟨w.heap.size + 1, 1, none⟩ = some (.int .i64 k) := cell_of_row _ _ _ _ _ _ D1.out
  have Z1_0 : V1.cell? ⟨w.heap.size + 1 + 1, 0, none⟩ = some (.int .i64 0) := cell_of_row _ _ _ _ _ _ Z1.out
  have Z1_1 : V1.cell? ⟨w.heap.size + 1 + 1, 1, none⟩ = some (.int .i64 0) := cell_of_row _ _ _ _ _ _ Z1.out
  have Z1_2 : V1.cell? ⟨w.heap.size + 1 + 1, 2, none⟩ = some (.int .i64 0) := cell_of_row _ _ _ _ _ _ Z1.out
  have Z1_3 : V1.cell? ⟨w.heap.size + 1 + 1, 3, none⟩ = some (.int .i64 0) := cell_of_row _ _ _ _ _ _ Z1.out
  have Z1_f0 : V1.frozen? ⟨w.heap.size + 1 + 1, 0, none⟩ = false := by simp [World.frozen?, Z1.out]
  have Z1_f1 : V1.frozen? ⟨w.heap.size + 1 + 1, 1, none⟩ = false := by simp [World.frozen?, Z1.out]
  have Z1_f2 : V1.frozen? ⟨w.heap.size + 1 + 1, 2, none⟩ = false := by simp [World.frozen?, Z1.out]
  have Z1_f3 : V1.frozen? ⟨w.heap.size + 1 + 1, 3, none⟩ = false := by simp [World.frozen?, Z1.out]
  have zA1 := lt_of_heap A1.out
  have zD1 := lt_of_heap D1.out
  have zZ1 := lt_of_heap Z1.out
  go_simp
  go_wp2_with fail
  refine (H2.out _).mono ?_
  rintro e V2 ⟨rfl, hb2⟩
  clear A1_0 A1_1 A1_2 A1_3 zA1 D1_0 D1_1 zD1 Z1_0 Z1_1 Z1_2 Z1_3 Z1_f0 Z1_f1 Z1_f2 Z1_f3 zZ1
  have B2 : Hid (Below w.heap.size w V2) := by first | exact Lib.hid ((B1.out).trans (hb2.mono (by have := B1.out.size; first | assumption | (simp <;> omega) | (simp; done)))) | exact Lib.hid (((B1.out).alloc (B1.out.size) _).trans (hb2.mono (by have := B1.out.size; first | assumption | (simp <;> omega) | (simp; done)))) | exact Lib.hid ((((B1.out).alloc (B1.out.size) _).alloc (by have := B1.out.size; simp <;> omega) _).trans (hb2.mono (by have := B1.out.size; first | assumption | (simp <;> omega) | (simp; done)))) | exact Lib.hid (((((B1.out).alloc (B1.out.size) _).alloc (by have := B1.out.size; simp <;> omega) _).alloc (by have := B1.out.size; simp <;> omega) _).trans (hb2.mono (by have := B1.out.size; first | assumption | (simp <;> omega) | (simp; done))))
  first | replace A1 := Lib.hid (row_call hb2 A1.out) | replace A1 := Lib.hid (row_call hb2 (row_alloc A1.out _)) | replace A1 := Lib.hid (row_call hb2 (row_alloc (row_alloc A1.out _) _)) | replace A1 := Lib.hid (row_call hb2 (row_alloc (row_alloc (row_alloc A1.out _) _) _))
  first | replace D1 := Lib.hid (row_call hb2 D1.out) | replace D1 := Lib.hid (row_call hb2 (row_alloc D1.out _)) | replace D1 := Lib.hid (row_call hb2 (row_alloc (row_alloc D1.out _) _)) | replace D1 := Lib.hid (row_call hb2 (row_alloc (row_alloc (row_alloc D1.out _) _) _))
  first | replace Z1 := Lib.hid (row_call hb2 Z1.out) | replace Z1 := Lib.hid (row_call hb2 (row_alloc Z1.out _)) | replace Z1 := Lib.hid (row_call hb2 (row_alloc (row_alloc Z1.out _) _)) | replace Z1 := Lib.hid (row_call hb2 (row_alloc (row_alloc (row_alloc Z1.out _) _) _))
  clear hb2
  have A1_0 : V2.cell? ⟨w.heap.size, 0, none⟩ = some (.int .i64 h) := cell_of_row _ _ _ _ _ _ A1.out
  have A1_1 : V2.cell? ⟨w.heap.size, 1, none⟩ = some (.int .i64 m) := cell_of_row _ _ _ _ _ _ A1.out
  have A1_2 : V2.cell? ⟨w.heap.size, 2, none⟩ = some (.int .i64 s) := cell_of_row _ _ _ _ _ _ A1.out
  have A1_3 : V2.cell? ⟨w.heap.size, 3, none⟩ = some (.int .i64 n) := cell_of_row _ _ _ _ _ _ A1.out
  have D1_0 : V2.cell? ⟨w.heap.size + 1, 0, none⟩ = some (.int .i64 d) := cell_of_row _ _ _ _ _ _ D1.out
  have D1_1 : V2.cell? ⟨w.heap.size + 1, 1, none⟩ = some (.int .i64 k) := cell_of_row _ _ _ _ _ _ D1.out
  have Z1_0 : V2.cell? ⟨w.heap.size + 1 + 1, 0, none⟩ = some (.int .i64 0) := cell_of_row _ _ _ _ _ _ Z1.out
  have Z1_1 : V2.cell? ⟨w.heap.size + 1 + 1, 1, none⟩ = some (.int .i64 0) := cell_of_row _ _ _ _ _ _ Z1.out
  have Z1_2 : V2.cell? ⟨w.heap.size + 1 + 1, 2, none⟩ = some (.int .i64 0) := cell_of_row _ _ _ _ _ _ Z1.out
  have Z1_3 : V2.cell? ⟨w.heap.size + 1 + 1, 3, none⟩ = some (.int .i64 0) := cell_of_row _ _ _ _ _ _ Z1.out
  have Z1_f0 : V2.frozen? ⟨w.heap.size + 1 + 1, 0, none⟩ = false := by simp [World.frozen?, Z1.out]
  have Z1_f1 : V2.frozen? ⟨w.heap.size + 1 + 1, 1, none⟩ = false := by simp [World.frozen?, Z1.out]
  have Z1_f2 : V2.frozen? ⟨w.heap.size + 1 + 1, 2, none⟩ = false := by simp [World.frozen?, Z1.out]
  have Z1_f3 : V2.frozen? ⟨w.heap.size + 1 + 1, 3, none⟩ = false := by simp [World.frozen?, Z1.out]
  have zA1 := lt_of_heap A1.out
  have zD1 := lt_of_heap D1.out
  have zZ1 := lt_of_heap Z1.out
  go_simp
  go_wp2
  refine shut_ret (v := .tuple #[.agg #[.int .i64 0, .int .i64 0, .int .i64 0, .int .i64 0], .int .i64 0, .int .i64 E]) (by simp [results, Tryd.results17, go_sem, zZ1, Z1_0, Z1_1, Z1_2, Z1_3]) rfl ⟨rfl, ?_⟩
  exact keep4 B2.out (by omega) _ _ _ _
set_option maxHeartbeats 3200000 in
set_option maxRecDepth 100000 in
theorem pkAdd_of (h m s n d k N t q D a b c e D2 : Int) (ht : d.tmod 86400 = t) (hq : d.tdiv 86400 = q) (n1 : 0 ≤ N) (n2 : N < 86400000000000) (t1 : -86400 < t) (t2 : t < 86400) (k1 : 0 ≤ k) (k2 : k < 1000000000)
    (q1 : -100000000 ≤ q) (q2 : q ≤ 100000000) (D1 : -10 ≤ D) (D2' : D ≤ 10) (hD : q + D = D2)
    (H1 : Hid (∀ w, SZ w → Calls Tryd.prog 8 #[.agg #[.int .i64 h, .int .i64 m, .int .i64 s, .int .i64 n]] w fun e w' => e = .returned (.tuple #[.int .i64 N, .int .i64 0]) ∧ Below w.heap.size w w'))
    (H2 : Hid (∀ w, Calls Tryd.prog 25 #[.agg #[.int .i64 d, .int .i64 k]] w fun e w' => e = .returned (.int .i64 0) ∧ Below w.heap.size w w'))
    (H3 : Hid (∀ w, SZ w → Calls Tryd.prog 22 #[.int .i64 (N + t * 1000000000 + k)] w fun r w' => r = .returned (.tuple #[.int .i64 D, .agg #[.int .i64 a, .int .i64 b, .int .i64 c, .int .i64 e]]) ∧ Below w.heap.size w w')) (w : World) (hM : SZ w) :
    Calls Tryd.prog 17 #[.agg #[.int .i64 h, .int .i64 m, .int .i64 s, .int .i64 n], .agg #[.int .i64 d, .int .i64 k]] w fun r w' => r = .returned (.tuple #[.agg #[.int .i64 a, .int .i64 b, .int .i64 c, .int .i64 e], .int .i64 D2, .int .i64 0]) ∧ Below w.heap.size w w' := by
  have H4 := Lib.hid (pClockOf_any a b c e)
  subst hD
  have gq : IntKind.i64.wrap q = q := by rw [IntKind.wrap_i64]; omega
  have gs : IntKind.i64.wrap (q + D) = q + D := by rw [IntKind.wrap_i64]; omega
  replace hM := Lib.hid hM
  go_enter Tryd.func17, Tryd.ntmps17
  refine wp_shut ?_
  go_wp2_with fail
  
  refine (H1.out _ (by first | exact sz_keep hM ((((Below.refl w.heap.size w).alloc (Nat.le_refl _) _).alloc (by simp <;> omega) _).alloc (by simp <;> omega) _))).mono ?_
  rintro e V1 ⟨rfl, hb1⟩
  have B1 := Lib.hid (((((Below.refl w.heap.size w).alloc (Nat.le_refl _) _).alloc (by simp <;> omega) _).alloc (by simp <;> omega) _).trans (hb1.mono (by first | assumption | (simp <;> omega) | (simp; done))))
  have A1 := Lib.hid (row_call hb1 (row_alloc (row_alloc (heap_alloc_new _ _) _) _))
  have P1 := Lib.hid (row_at (k' := w.heap.size + 1) (by simp) (row_call hb1 (row_alloc (heap_alloc_new _ _) _)))
  have Z1 := Lib.hid (row_at (k' := w.heap.size + 1 + 1) (by simp) (row_call hb1 (heap_alloc_new _ _)))
  clear hb1
  have A1_0 : V1.cell? ⟨w.heap.size, 0, none⟩ = some (.int .i64 h) := cell_of_row _ _ _ _ _ _ A1.out
  have A1_1 : V1.cell? ⟨w.heap.size, 1, none⟩ = some (.int .i64 m) := cell_of_row _ _ _ _ _ _ A1.out
  have A1_2 : V1.cell? ⟨w.heap.size, 2, none⟩ = some (.int .i64 s) := cell_of_row _ _ _ _ _ _ A1.out
  have A1_3 : V1.cell? ⟨w.heap.size, 3, none⟩ = some (.int .i64 n) := cell_of_row _ _ _ _ _ _ A1.out
  have P1_0 : V1.cell? ⟨w.heap.size + 1, 0, none⟩ = some (.int .i64 d) := cell_of_row _ _ _ _ _ _ P1.out
  have P1_1 : V1.cell? ⟨w.heap.size + 1, 1, none⟩ = some (.int .i64 k) := cell_of_row _ _ _ _ _ _ P1.out
  have Z1_0 : V1.cell? ⟨w.heap.size + 1 + 1, 0, none⟩ = some (.int .i64 0) := cell_of_row _ _ _ _ _ _ Z1.out
  have Z1_1 : V1.cell? ⟨w.heap.size + 1 + 1, 1, none⟩ = some (.int .i64 0) := cell_of_row _ _ _ _ _ _ Z1.out
  have Z1_2 : V1.cell? ⟨w.heap.size + 1 + 1, 2, none⟩ = some (.int .i64 0) := cell_of_row _ _ _ _ _ _ Z1.out
  have Z1_3 : V1.cell? ⟨w.heap.size + 1 + 1, 3, none⟩ = some (.int .i64 0) := cell_of_row _ _ _ _ _ _ Z1.out
  have Z1_f0 : V1.frozen? ⟨w.heap.size + 1 + 1, 0, none⟩ = false := by simp [World.frozen?, Z1.out]
  have Z1_f1 : V1.frozen? ⟨w.heap.size + 1 + 1, 1, none⟩ = false := by simp [World.frozen?, Z1.out]
  have Z1_f2 : V1.frozen? ⟨w.heap.size + 1 + 1, 2, none⟩ = false := by simp [World.frozen?, Z1.out]
  have Z1_f3 : V1.frozen? ⟨w.heap.size + 1 + 1, 3, none⟩ = false := by simp [World.frozen?, Z1.out]
  have zA1 := lt_of_heap A1.out
  have zP1 := lt_of_heap P1.out
  have zZ1 := lt_of_heap Z1.out
  go_simp
  go_wp2_with fail
  refine (H2.out _).mono ?_
  rintro e V2 ⟨rfl, hb2⟩
  clear A1_0 A1_1 A1_2 A1_3 zA1 P1_0 P1_1 zP1 Z1_0 Z1_1 Z1_2 Z1_3 Z1_f0 Z1_f1 Z1_f2 Z1_f3 zZ1
  have B2 : Hid (Below w.heap.size w V2) := by first | exact Lib.hid ((B1.out).trans (hb2.mono (by have := B1.out.size; first | assumption | (simp <;> omega) | (simp; done)))) | exact Lib.hid (((B1.out).alloc (B1.out.size) _).trans (hb2.mono (by have := B1.out.size; first | assumption | (simp <;> omega) | (simp; done)))) | exact Lib.hid ((((B1.out).alloc (B1.out.size) _).alloc (by have := B1.out.size; simp <;> omega) _).trans (hb2.mono (by have := B1.out.size; first | assumption | (simp <;> omega) | (simp; done)))) | exact Lib.hid (((((B1.out).alloc (B1.out.size) _).alloc (by have := B1.out.size; simp <;> omega) _).alloc (by have := B1.out.size; simp <;> omega) _).trans (hb2.mono (by have := B1.out.size; first | assumption | (simp <;> omega) | (simp; done))))
  first | replace A1 := Lib.hid (row_call hb2 A1.out) | replace A1 := Lib.hid (row_call hb2 (row_alloc A1.out _)) | replace A1 := Lib.hid (row_call hb2 (row_alloc (row_alloc A1.out _) _)) | replace A1 := Lib.hid (row_call hb2 (row_alloc (row_alloc (row_alloc A1.out _) _) _))
  first | replace P1 := Lib.hid (row_call hb2 P1.out) | replace P1 := Lib.hid (row_call hb2 (row_alloc P1.out _)) | replace P1 := Lib.hid (row_call hb2 (row_alloc (row_alloc P1.out _) _)) | replace P1 := Lib.hid (row_call hb2 (row_alloc (row_alloc (row_alloc P1.out _) _) _))
  first | replace Z1 := Lib.hid (row_call hb2 Z1.out) | replace Z1 := Lib.hid (row_call hb2 (row_alloc Z1.out _)) | replace Z1 := Lib.hid (row_call hb2 (row_alloc (row_alloc Z1.out _) _)) | replace Z1 := Lib.hid (row_call hb2 (row_alloc (row_alloc (row_alloc Z1.out _) _) _))
  clear hb2
  have A1_0 : V2.cell? ⟨w.heap.size, 0, none⟩ = some (.int .i64 h) := cell_of_row _ _ _ _ _ _ A1.out
  have A1_1 : V2.cell? ⟨w.heap.size, 1, none⟩ = some (.int .i64 m) := cell_of_row _ _ _ _ _ _ A1.out
  have A1_2 : V2.cell? ⟨w.heap.size, 2, none⟩ = some (.int .i64 s) := cell_of_row _ _ _ _ _ _ A1.out
  have A1_3 : V2.cell? ⟨w.heap.size, 3, none⟩ = some (.int .i64 n) := cell_of_row _ _ _ _ _ _ A1.out
  have P1_0 : V2.cell? ⟨w.heap.size + 1, 0, none⟩ = some (.int .i64 d) := cell_of_row _ _ _ _ _ _ P1.out
  have P1_1 : V2.cell? ⟨w.heap.size + 1, 1, none⟩ = some (.int .i64 k) := cell_of_row _ _ _ _ _ _ P1.out
  have Z1_0 : V2.cell? ⟨w.heap.size + 1 + 1, 0, none⟩ = some (.int .i64 0) := cell_of_row _ _ _ _ _ _ Z1.out
  have Z1_1 : V2.cell? ⟨w.heap.size + 1 + 1, 1, none⟩ = some (.int .i64 0) := cell_of_row _ _ _ _ _ _ Z1.out
  have Z1_2 : V2.cell? ⟨w.heap.size + 1 + 1, 2, none⟩ = some (.int .i64 0) := cell_of_row _ _ _ _ _ _ Z1.out
  have Z1_3 : V2.cell? ⟨w.heap.size + 1 + 1, 3, none⟩ = some (.int .i64 0) := cell_of_row _ _ _ _ _ _ Z1.out
  have Z1_f0 : V2.frozen? ⟨w.heap.size + 1 + 1, 0, none⟩ = false := by simp [World.frozen?, Z1.out]
  have Z1_f1 : V2.frozen? ⟨w.heap.size + 1 + 1, 1, none⟩ = false := by simp [World.frozen?, Z1.out]
  have Z1_f2 : V2.frozen? ⟨w.heap.size + 1 + 1, 2, none⟩ = false := by simp [World.frozen?, Z1.out]
  have Z1_f3 : V2.frozen? ⟨w.heap.size + 1 + 1, 3, none⟩ = false := by simp [World.frozen?, Z1.out]
  have zA1 := lt_of_heap A1.out
  have zP1 := lt_of_heap P1.out
  have zZ1 := lt_of_heap Z1.out
  go_simp
  go_wp2_with fail
  refine (H3.out _ (by first | exact sz_keep hM (B2.out) | exact sz_keep hM ((B2.out).alloc (B2.out.size) _) | exact sz_keep hM (((B2.out).alloc (B2.out.size) _).alloc (by have := B2.out.size; simp <;> omega) _) | exact sz_keep hM ((((B2.out).alloc (B2.out.size) _).alloc (by have := B2.out.size; simp <;> omega) _).alloc (by have := B2.out.size; simp <;> omega) _))).mono ?_
  rintro e V3 ⟨rfl, hb3⟩
  clear A1_0 A1_1 A1_2 A1_3 zA1 P1_0 P1_1 zP1 Z1_0 Z1_1 Z1_2 Z1_3 Z1_f0 Z1_f1 Z1_f2 Z1_f3 zZ1
  have B3 : Hid (Below w.heap.size w V3) := by first | exact Lib.hid ((B2.out).trans (hb3.mono (by have := B2.out.size; first | assumption | (simp <;> omega) | (simp; done)))) | exact Lib.hid (((B2.out).alloc (B2.out.size) _).trans (hb3.mono (by have := B2.out.size; first | assumption | (simp <;> omega) | (simp; done)))) | exact Lib.hid ((((B2.out).alloc (B2.out.size) _).alloc (by have := B2.out.size; simp <;> omega) _).trans (hb3.mono (by have := B2.out.size; first | assumption | (simp <;> omega) | (simp; done)))) | exact Lib.hid (((((B2.out).alloc (B2.out.size) _).alloc (by have := B2.out.size; simp <;> omega) _).alloc (by have := B2.out.size; simp <;> omega) _).trans (hb3.mono (by have := B2.out.size; first | assumption | (simp <;> omega) | (simp; done))))
  first | replace A1 := Lib.hid (row_call hb3 A1.out) | replace A1 := Lib.hid (row_call hb3 (row_alloc A1.out _)) | replace A1 := Lib.hid (row_call hb3 (row_alloc (row_alloc A1.out _) _)) | replace A1 := Lib.hid (row_call hb3 (row_alloc (row_alloc (row_alloc A1.out _) _) _))
  first | replace P1 := Lib.hid (row_call hb3 P1.out) | replace P1 := Lib.hid (row_call hb3 (row_alloc P1.out _)) | replace P1 := Lib.hid (row_call hb3 (row_alloc (row_alloc P1.out _) _)) | replace P1 := Lib.hid (row_call hb3 (row_alloc (row_alloc (row_alloc P1.out _) _) _))
  first | replace Z1 := Lib.hid (row_call hb3 Z1.out) | replace Z1 := Lib.hid (row_call hb3 (row_alloc Z1.out _)) | replace Z1 := Lib.hid (row_call hb3 (row_alloc (row_alloc Z1.out _) _)) | replace Z1 := Lib.hid (row_call hb3 (row_alloc (row_alloc (row_alloc Z1.out _) _) _))
  clear hb3
  have A1_0 : V3.cell? ⟨w.heap.size, 0, none⟩ = some (.int .i64 h) := cell_of_row _ _ _ _ _ _ A1.out
  have A1_1 : V3.cell? ⟨w.heap.size, 1, none⟩ = some (.int .i64 m) := cell_of_row _ _ _ _ _ _ A1.out
  have A1_2 : V3.cell? ⟨w.heap.size, 2, none⟩ = some (.int .i64 s) := cell_of_row _ _ _ _ _ _ A1.out
  have A1_3 : V3.cell? ⟨w.heap.size, 3, none⟩ = some (.int .i64 n) := cell_of_row _ _ _ _ _ _ A1.out
  have P1_0 : V3.cell? ⟨w.heap.size + 1, 0, none⟩ = some (.int .i64 d) := cell_of_row _ _ _ _ _ _ P1.out
  have P1_1 : V3.cell? ⟨w.heap.size + 1, 1, none⟩ = some (.int .i64 k) := cell_of_row _ _ _ _ _ _ P1.out
  have Z1_0 : V3.cell? ⟨w.heap.size + 1 + 1, 0, none⟩ = some (.int .i64 0) := cell_of_row _ _ _ _ _ _ Z1.out
  have Z1_1 : V3.cell? ⟨w.heap.size + 1 + 1, 1, none⟩ = some (.int .i64 0) := cell_of_row _ _ _ _ _ _ Z1.out
  have Z1_2 : V3.cell? ⟨w.heap.size + 1 + 1, 2, none⟩ = some (.int .i64 0) := cell_of_row _ _ _ _ _ _ Z1.out
  have Z1_3 : V3.cell? ⟨w.heap.size + 1 + 1, 3, none⟩ = some (.int .i64 0) := cell_of_row _ _ _ _ _ _ Z1.out
  have Z1_f0 : V3.frozen? ⟨w.heap.size + 1 + 1, 0, none⟩ = false := by simp [World.frozen?, Z1.out]
  have Z1_f1 : V3.frozen? ⟨w.heap.size + 1 + 1, 1, none⟩ = false := by simp [World.frozen?, Z1.out]
  have Z1_f2 : V3.frozen? ⟨w.heap.size + 1 + 1, 2, none⟩ = false := by simp [World.frozen?, Z1.out]
  have Z1_f3 : V3.frozen? ⟨w.heap.size + 1 + 1, 3, none⟩ = false := by simp [World.frozen?, Z1.out]
  have zA1 := lt_of_heap A1.out
  have zP1 := lt_of_heap P1.out
  have zZ1 := lt_of_heap Z1.out
  go_simp
  go_wp2_with fail
  obtain ⟨W0, hW0⟩ : ∃ W0, W0 = (V3.alloc (Obj.cells #[Value.int .i64 a, Value.int .i64 b, Value.int .i64 c, Value.int .i64 e] 52)) := ⟨_, rfl⟩
  have nA1O1 := Lib.hid (lt_of_heap A1.out)
  have nP1O1 := Lib.hid (lt_of_heap P1.out)
  have nZ1O1 := Lib.hid (lt_of_heap Z1.out)
  replace A1 := Lib.hid (row_by hW0 (row_alloc A1.out _))
  replace P1 := Lib.hid (row_by hW0 (row_alloc P1.out _))
  replace Z1 := Lib.hid (row_by hW0 (row_alloc Z1.out _))
  have O1 := Lib.hid (row_at (k' := V3.heap.size) (by simp) (row_by hW0 (heap_alloc_new _ _)))
  clear A1_0 A1_1 A1_2 A1_3 zA1 P1_0 P1_1 zP1 Z1_0 Z1_1 Z1_2 Z1_3 Z1_f0 Z1_f1 Z1_f2 Z1_f3 zZ1
  have A1_0 : W0.cell? ⟨w.heap.size, 0, none⟩ = some (.int .i64 h) := cell_of_row _ _ _ _ _ _ A1.out
  have A1_1 : W0.cell? ⟨w.heap.size, 1, none⟩ = some (.int .i64 m) := cell_of_row _ _ _ _ _ _ A1.out
  have A1_2 : W0.cell? ⟨w.heap.size, 2, none⟩ = some (.int .i64 s) := cell_of_row _ _ _ _ _ _ A1.out
  have A1_3 : W0.cell? ⟨w.heap.size, 3, none⟩ = some (.int .i64 n) := cell_of_row _ _ _ _ _ _ A1.out
  have zA1 := lt_of_heap A1.out
  have P1_0 : W0.cell? ⟨w.heap.size + 1, 0, none⟩ = some (.int .i64 d) := cell_of_row _ _ _ _ _ _ P1.out
  have P1_1 : W0.cell? ⟨w.heap.size + 1, 1, none⟩ = some (.int .i64 k) := cell_of_row _ _ _ _ _ _ P1.out
  have zP1 := lt_of_heap P1.out
  have Z1_0 : W0.cell? ⟨w.heap.size + 1 + 1, 0, none⟩ = some (.int .i64 0) := cell_of_row _ _ _ _ _ _ Z1.out
  have Z1_1 : W0.cell? ⟨w.heap.size + 1 + 1, 1, none⟩ = some (.int .i64 0) := cell_of_row _ _ _ _ _ _ Z1.out
  have Z1_2 : W0.cell? ⟨w.heap.size + 1 + 1, 2, none⟩ = some (.int .i64 0) := cell_of_row _ _ _ _ _ _ Z1.out
  have Z1_3 : W0.cell? ⟨w.heap.size + 1 + 1, 3, none⟩ = some (.int .i64 0) := cell_of_row _ _ _ _ _ _ Z1.out
  have zZ1 := lt_of_heap Z1.out
  have O1_0 : W0.cell? ⟨V3.heap.size, 0, none⟩ = some (.int .i64 a) := cell_of_row _ _ _ _ _ _ O1.out
  have O1_1 : W0.cell? ⟨V3.heap.size, 1, none⟩ = some (.int .i64 b) := cell_of_row _ _ _ _ _ _ O1.out
  have O1_2 : W0.cell? ⟨V3.heap.size, 2, none⟩ = some (.int .i64 c) := cell_of_row _ _ _ _ _ _ O1.out
  have O1_3 : W0.cell? ⟨V3.heap.size, 3, none⟩ = some (.int .i64 e) := cell_of_row _ _ _ _ _ _ O1.out
  have zO1 := lt_of_heap O1.out
  have HB0 := Lib.hid (below_by hW0 ((B3.out).alloc (B3.out.size) _))
  have zW0 := HB0.out.size
  have HW0 := Lib.hid hW0
  clear hW0
  try go_simp
  rw [← HW0.out]
  refine region_plan (S := fun w2 => w2.cell? ⟨w.heap.size + 1, 0, none⟩ = some (.int .i64 d) ∧ w2.cell? ⟨w.heap.size + 1, 1, none⟩ = some (.int .i64 k) ∧ w2.cell? ⟨V3.heap.size, 0, none⟩ = some (.int .i64 a) ∧ w2.cell? ⟨V3.heap.size, 1, none⟩ = some (.int .i64 b) ∧ w2.cell? ⟨V3.heap.size, 2, none⟩ = some (.int .i64 c) ∧ w2.cell? ⟨V3.heap.size, 3, none⟩ = some (.int .i64 e)) [(0, true), (2, true), (3, true), (4, true), (5, true), (6, true), (1, false), (7, false), (8, true), (9, true)] (by as_aux_lemma => kernel_rfl) (by as_aux_lemma => kernel_rfl) (by as_aux_lemma => kernel_rfl) (by as_aux_lemma => kernel_rfl) ⟨(by rw [World.cell?_drew]; exact P1_0), (by rw [World.cell?_drew]; exact P1_1), (by rw [World.cell?_drew]; exact O1_0), (by rw [World.cell?_drew]; exact O1_1), (by rw [World.cell?_drew]; exact O1_2), (by rw [World.cell?_drew]; exact O1_3)⟩ ?_
  have Y0 := Lib.hid (Below.refl W0.heap.size W0).drew
  refine plan_yes (v := ?v1_1) (by simp only [List.getElem?_toArray, List.getElem?_cons_zero, List.getElem?_cons_succ]; exact rfl) (Or.inl ⟨by as_aux_lemma => rfl, ?hy1_1⟩) ?rest1_1
  case hy1_1 => (intro w2 hSw; (try dsimp only at hSw); obtain ⟨s0, s1, s2, s3, s4, s5⟩ := hSw; go_simp; try with_reducible rfl)
  try simp only [Act.put, List.setIfInBounds_toArray, List.set_cons_zero, List.set_cons_succ]
  refine plan_yes (v := ?v2_1) (by simp only [List.getElem?_toArray, List.getElem?_cons_zero, List.getElem?_cons_succ]; exact rfl) (Or.inl ⟨by as_aux_lemma => rfl, ?hy2_1⟩) ?rest2_1
  case hy2_1 => (intro w2 hSw; (try dsimp only at hSw); obtain ⟨s0, s1, s2, s3, s4, s5⟩ := hSw; go_simp; try with_reducible rfl)
  try simp only [Act.put, List.setIfInBounds_toArray, List.set_cons_zero, List.set_cons_succ]
  refine plan_yes (v := ?v3_1) (by simp only [List.getElem?_toArray, List.getElem?_cons_zero, List.getElem?_cons_succ]; exact rfl) (Or.inl ⟨by as_aux_lemma => rfl, ?hy3_1⟩) ?rest3_1
  case hy3_1 => (intro w2 hSw; (try dsimp only at hSw); obtain ⟨s0, s1, s2, s3, s4, s5⟩ := hSw; go_simp; try with_reducible rfl)
  try simp only [Act.put, List.setIfInBounds_toArray, List.set_cons_zero, List.set_cons_succ]
  refine plan_yes (v := ?v4_1) (by simp only [List.getElem?_toArray, List.getElem?_cons_zero, List.getElem?_cons_succ]; exact rfl) (Or.inl ⟨by as_aux_lemma => rfl, ?hy4_1⟩) ?rest4_1
  case hy4_1 => (intro w2 hSw; (try dsimp only at hSw); obtain ⟨s0, s1, s2, s3, s4, s5⟩ := hSw; go_simp; try with_reducible rfl)
  try simp only [Act.put, List.setIfInBounds_toArray, List.set_cons_zero, List.set_cons_succ]
  refine plan_yes (v := ?v5_1) (by simp only [List.getElem?_toArray, List.getElem?_cons_zero, List.getElem?_cons_succ]; exact rfl) (Or.inl ⟨by as_aux_lemma => rfl, ?hy5_1⟩) ?rest5_1
  case hy5_1 => (intro w2 hSw; (try dsimp only at hSw); obtain ⟨s0, s1, s2, s3, s4, s5⟩ := hSw; go_simp; try with_reducible rfl)
  try simp only [Act.put, List.setIfInBounds_toArray, List.set_cons_zero, List.set_cons_succ]
  refine plan_yes (v := ?v6_1) (by simp only [List.getElem?_toArray, List.getElem?_cons_zero, List.getElem?_cons_succ]; exact rfl) (Or.inl ⟨by as_aux_lemma => rfl, ?hy6_1⟩) ?rest6_1
  case hy6_1 => (intro w2 hSw; (try dsimp only at hSw); obtain ⟨s0, s1, s2, s3, s4, s5⟩ := hSw; go_simp; try with_reducible rfl)
  try simp only [Act.put, List.setIfInBounds_toArray, List.set_cons_zero, List.set_cons_succ]
  refine plan_calls (by simp only [List.getElem?_toArray, List.getElem?_cons_zero, List.getElem?_cons_succ]; exact rfl) (by as_aux_lemma => rfl) (fun K hK => ?_)
  go_simp
  refine (H4.out _).mono ?_
  rintro e Y1w ⟨rfl, hb1⟩
  have Y1 := Lib.hid (keepS (W0 := W0) Y0.out hb1)
  clear hb1
  refine hK.out _ _ ⟨((Y1.out.cell (p := ⟨w.heap.size + 1, 0, none⟩) zP1).trans P1_0), ((Y1.out.cell (p := ⟨w.heap.size + 1, 1, none⟩) zP1).trans P1_1), ((Y1.out.cell (p := ⟨V3.heap.size, 0, none⟩) zO1).trans O1_0), ((Y1.out.cell (p := ⟨V3.heap.size, 1, none⟩) zO1).trans O1_1), ((Y1.out.cell (p := ⟨V3.heap.size, 2, none⟩) zO1).trans O1_2), ((Y1.out.cell (p := ⟨V3.heap.size, 3, none⟩) zO1).trans O1_3)⟩ ?_
  clear hK K
  try simp only [Act.put, List.setIfInBounds_toArray, List.set_cons_zero, List.set_cons_succ]
  as_aux_lemma =>
   replace A1 := Lib.hid (row_call Y1.out A1.out)
   replace P1 := Lib.hid (row_call Y1.out P1.out)
   replace Z1 := Lib.hid (row_call Y1.out Z1.out)
   replace O1 := Lib.hid (row_call Y1.out O1.out)
   have Bc := Lib.hid (HB0.out.trans (Y1.out.mono zW0))
   refine plan_calls (by simp only [List.getElem?_toArray, List.getElem?_cons_zero, List.getElem?_cons_succ]; exact rfl) (by as_aux_lemma => rfl) (fun K hK => ?_)
   refine wp_store_row 23 _ _ rfl (w.heap.size + 1 + 1) #[Value.int .i64 a, Value.int .i64 b, Value.int .i64 c, Value.int .i64 e] (by rfl) (by rfl) _ _ Z1.out (by kernel_rfl) rfl (by simp [Value.oneCell']) ?_
   refine hK.out _ _ ⟨(cell_of_row _ _ _ _ _ _ (row_otherR (by first | omega | (have := nP1Z1.out; omega) | (have := nZ1P1.out; omega)) P1.out _)), (cell_of_row _ _ _ _ _ _ (row_otherR (by first | omega | (have := nP1Z1.out; omega) | (have := nZ1P1.out; omega)) P1.out _)), (cell_of_row _ _ _ _ _ _ (row_otherR (by first | omega | (have := nO1Z1.out; omega) | (have := nZ1O1.out; omega)) O1.out _)), (cell_of_row _ _ _ _ _ _ (row_otherR (by first | omega | (have := nO1Z1.out; omega) | (have := nZ1O1.out; omega)) O1.out _)), (cell_of_row _ _ _ _ _ _ (row_otherR (by first | omega | (have := nO1Z1.out; omega) | (have := nZ1O1.out; omega)) O1.out _)), (cell_of_row _ _ _ _ _ _ (row_otherR (by first | omega | (have := nO1Z1.out; omega) | (have := nZ1O1.out; omega)) O1.out _))⟩ ?_
   clear hK K
   try simp only [Act.put, List.setIfInBounds_toArray, List.set_cons_zero, List.set_cons_succ]
   obtain ⟨Y1s, hYs⟩ : ∃ V, V = Y1w.setRow (w.heap.size + 1 + 1) #[Value.int .i64 a, Value.int .i64 b, Value.int .i64 c, Value.int .i64 e] := ⟨_, rfl⟩
   rw [← hYs]
   replace A1 := Lib.hid (row_by hYs (row_otherR (by first | omega | (have := nA1Z1.out; omega) | (have := nZ1A1.out; omega)) A1.out _))
   replace P1 := Lib.hid (row_by hYs (row_otherR (by first | omega | (have := nP1Z1.out; omega) | (have := nZ1P1.out; omega)) P1.out _))
   replace Z1 := Lib.hid (row_by hYs (setRow_heap _ _ _ _ _ _ Z1.out))
   replace O1 := Lib.hid (row_by hYs (row_otherR (by first | omega | (have := nO1Z1.out; omega) | (have := nZ1O1.out; omega)) O1.out _))
   replace Bc := Lib.hid (below_by hYs (keepRow Bc.out (by omega) _))
   clear hYs
   refine plan_yes (v := ?v7_1) (by simp only [List.getElem?_toArray, List.getElem?_cons_zero, List.getElem?_cons_succ]; exact rfl) (Or.inl ⟨by as_aux_lemma => rfl, ?hy7_1⟩) ?rest7_1
   case hy7_1 => (intro w2 hSw; (try dsimp only at hSw); obtain ⟨s0, s1, s2, s3, s4, s5⟩ := hSw; go_simp; try with_reducible rfl)
   try simp only [Act.put, List.setIfInBounds_toArray, List.set_cons_zero, List.set_cons_succ]
   refine plan_yes (v := ?v8_1) (by simp only [List.getElem?_toArray, List.getElem?_cons_zero, List.getElem?_cons_succ]; exact rfl) (Or.inl ⟨by as_aux_lemma => rfl, ?hy8_1⟩) ?rest8_1
   case hy8_1 => (intro w2 hSw; (try dsimp only at hSw); obtain ⟨s0, s1, s2, s3, s4, s5⟩ := hSw; go_simp; try with_reducible rfl)
   try simp only [Act.put, List.setIfInBounds_toArray, List.set_cons_zero, List.set_cons_succ]
   refine plan_done (NoPanic.normal ?_)
   have B4 := Bc
   clear Bc A1_0 A1_1 A1_2 A1_3 P1_0 P1_1 Z1_0 Z1_1 Z1_2 Z1_3 O1_0 O1_1 O1_2 O1_3 zA1 zP1 zZ1 zO1 Y0 Y1
   obtain ⟨V4, rfl⟩ : ∃ V, V = Y1s := ⟨_, rfl⟩
   have A1_0 : V4.cell? ⟨w.heap.size, 0, none⟩ = some (.int .i64 h) := cell_of_row _ _ _ _ _ _ A1.out
   have A1_1 : V4.cell? ⟨w.heap.size, 1, none⟩ = some (.int .i64 m) := cell_of_row _ _ _ _ _ _ A1.out
   have A1_2 : V4.cell? ⟨w.heap.size, 2, none⟩ = some (.int .i64 s) := cell_of_row _ _ _ _ _ _ A1.out
   have A1_3 : V4.cell? ⟨w.heap.size, 3, none⟩ = some (.int .i64 n) := cell_of_row _ _ _ _ _ _ A1.out
   have zA1 := lt_of_heap A1.out
   have P1_0 : V4.cell? ⟨w.heap.size + 1, 0, none⟩ = some (.int .i64 d) := cell_of_row _ _ _ _ _ _ P1.out
   have P1_1 : V4.cell? ⟨w.heap.size + 1, 1, none⟩ = some (.int .i64 k) := cell_of_row _ _ _ _ _ _ P1.out
   have zP1 := lt_of_heap P1.out
   have Z1_0 : V4.cell? ⟨w.heap.size + 1 + 1, 0, none⟩ = some (.int .i64 a) := cell_of_row _ _ _ _ _ _ Z1.out
   have Z1_f0 : V4.frozen? ⟨w.heap.size + 1 + 1, 0, none⟩ = false := (by simp [World.frozen?, Z1.out])
   have Z1_1 : V4.cell? ⟨w.heap.size + 1 + 1, 1, none⟩ = some (.int .i64 b) := cell_of_row _ _ _ _ _ _ Z1.out
   have Z1_f1 : V4.frozen? ⟨w.heap.size + 1 + 1, 1, none⟩ = false := (by simp [World.frozen?, Z1.out])
   have Z1_2 : V4.cell? ⟨w.heap.size + 1 + 1, 2, none⟩ = some (.int .i64 c) := cell_of_row _ _ _ _ _ _ Z1.out
   have Z1_f2 : V4.frozen? ⟨w.heap.size + 1 + 1, 2, none⟩ = false := (by simp [World.frozen?, Z1.out])
   have Z1_3 : V4.cell? ⟨w.heap.size + 1 + 1, 3, none⟩ = some (.int .i64 e) := cell_of_row _ _ _ _ _ _ Z1.out
   have Z1_f3 : V4.frozen? ⟨w.heap.size + 1 + 1, 3, none⟩ = false := (by simp [World.frozen?, Z1.out])
   have zZ1 := lt_of_heap Z1.out
   have O1_0 : V4.cell? ⟨V3.heap.size, 0, none⟩ = some (.int .i64 a) := cell_of_row _ _ _ _ _ _ O1.out
   have O1_1 : V4.cell? ⟨V3.heap.size, 1, none⟩ = some (.int .i64 b) := cell_of_row _ _ _ _ _ _ O1.out
   have O1_2 : V4.cell? ⟨V3.heap.size, 2, none⟩ = some (.int .i64 c) := cell_of_row _ _ _ _ _ _ O1.out
   have O1_3 : V4.cell? ⟨V3.heap.size, 3, none⟩ = some (.int .i64 e) := cell_of_row _ _ _ _ _ _ O1.out
   have zO1 := lt_of_heap O1.out
   try go_simp
   go_wp2
   refine shut_ret (v := .tuple #[.agg #[.int .i64 a, .int .i64 b, .int .i64 c, .int .i64 e], .int .i64 (q + D), .int .i64 0]) (by simp [results, Tryd.results17, go_sem, zZ1, Z1_0, Z1_1, Z1_2, Z1_3]) rfl ⟨rfl, ?_⟩
   exact B4.out
theorem later_parts (S n t k q d : Int) (n1 : 0 ≤ n) (n2 : n < 1000000000) (k1 : 0 ≤ k) (k2 : k < 1000000000) (hd : d = 86400 * q + t) :
    aH (S * 1000000000 + n + t * 1000000000 + k) = (S + d + (n + k) / 1000000000) % 86400 / 3600 ∧ aM (S * 1000000000 + n + t * 1000000000 + k) = (S + d + (n + k) / 1000000000) % 86400 / 60 % 60 ∧
    kS (S * 1000000000 + n + t * 1000000000 + k) = (S + d + (n + k) / 1000000000) % 86400 % 60 ∧ kN (S * 1000000000 + n + t * 1000000000 + k) = (n + k) % 1000000000 ∧
    q + aD (S * 1000000000 + n + t * 1000000000 + k) = (S + d + (n + k) / 1000000000) / 86400 := by
  have e : (S * 1000000000 + n + t * 1000000000 + k) / 1000000000 = S + t + (n + k) / 1000000000 := by omega
  have e2 : (S * 1000000000 + n + t * 1000000000 + k) % 1000000000 = (n + k) % 1000000000 := by omega
  unfold aH aM kS kN aD
  rw [e, e2]
  generalize (n + k) / 1000000000 = j
  exact ⟨by omega, by omega, by omega, rfl, by omega⟩
set_option maxRecDepth 100000 in
theorem pkAdd_any (h m s n d k : Int) (hc : fsI (ckK h m s n) (ckD d k) = 0) (w : World) (hM : SZ w) :
    Calls Tryd.prog 17 #[.agg #[.int .i64 h, .int .i64 m, .int .i64 s, .int .i64 n], .agg #[.int .i64 d, .int .i64 k]] w fun e w' =>
      e = .returned (.tuple #[.agg #[.int .i64 (atK h m s n d k % 86400 / 3600), .int .i64 (atK h m s n d k % 86400 / 60 % 60), .int .i64 (atK h m s n d k % 86400 % 60), .int .i64 ((n + k) % 1000000000)], .int .i64 (atK h m s n d k / 86400), .int .i64 0]) ∧ Below w.heap.size w w' := by
  obtain ⟨c1, c2⟩ := fsI_none hc
  have X1 := pkNanos_any h m s n
  have X2 := dCheck_any d k
  rw [nnK_ok c1, c1] at X1
  rw [c2] at X2
  have ok := of_ckK c1
  obtain ⟨k1, k2, d1, d2⟩ := ckD_bd c2
  obtain ⟨s1, s2⟩ := scK_bd ok
  have n1 : 0 ≤ n ∧ n < 1000000000 := by unfold okK at ok; omega
  have hA : atK h m s n d k = scK h m s + d + (n + k) / 1000000000 := rfl
  generalize scK h m s = S at *
  obtain ⟨_, _, t3, t4⟩ := tdiv_parts d 86400 (by decide)
  have t5 := Int.tmod_add_mul_tdiv d 86400
  obtain ⟨e1, e2, e3, e4, e5⟩ := later_parts S n (d.tmod 86400) k (d.tdiv 86400) d n1.1 n1.2 k1 k2 (by omega)
  rw [hA, ← e1, ← e2, ← e3, ← e4, ← e5]
  have b : in64 (S * 1000000000 + n + d.tmod 86400 * 1000000000 + k) := by unfold in64; omega
  exact pkAdd_of h m s n d k (S * 1000000000 + n) _ _ _ _ _ _ _ _ rfl rfl (by omega) (by omega) (by omega) (by omega) k1 k2 (by omega) (by omega) (by unfold aD; omega) (by unfold aD; omega) rfl (Lib.hid X1) (Lib.hid X2) (Lib.hid (pApart_any _ b)) w hM
end Go.Proofs.YtpkbcnofieinaaaDoor
