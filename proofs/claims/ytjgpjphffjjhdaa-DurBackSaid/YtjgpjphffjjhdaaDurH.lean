/- Contracts of the plain answers of layer 4: products, quotients, the negative. -/
import Derived.Test.YtjgpjphffjjhdaaDurF
import Derived.Test.YtjgpjphffjjhdaaDurG
namespace Go.Proofs.Ytjgpjphffjjhdaa
set_option linter.unusedVariables false
set_option linter.unusedSimpArgs false
open Go.ChangeShapes Go.WideShapes Go.ChangeAt Go.RowKit

set_option maxHeartbeats 1600000 in
set_option maxRecDepth 100000 in
theorem rdMul_err (d m n E : Int) (w : World) (hc : E ≠ 0)
    (H1 : Hid (∀ w, Calls Try.prog 11 #[.agg #[.int .i64 d, .int .i64 m]] w fun e w' => e = .returned (.int .i64 E) ∧ Below w.heap.size w w')) :
    Calls Try.prog 22 #[.agg #[.int .i64 d, .int .i64 m], .int .i64 n] w fun e w' => e = .returned (.tuple #[.agg #[.int .i64 0, .int .i64 0], .int .i64 E]) ∧ Below w.heap.size w w' := by
  have f1 : (E != 0) = true := by rw [bne_iff_ne]; exact hc
  go_enter Try.func22, Try.ntmps22
  refine wp_shut ?_
  go_wp2_with fail
  
  refine (H1.out _).mono ?_
  rintro e V1 ⟨rfl, hb1⟩
  have B1 := Lib.hid ((((Below.refl w.heap.size w).alloc (Nat.le_refl _) _).alloc (by simp <;> omega) _).trans (hb1.mono (by first | assumption | (simp <;> omega) | (simp; done))))
  have A1 := Lib.hid (row_call hb1 (row_alloc (heap_alloc_new _ _) _))
  have Z1 := Lib.hid (row_at (k' := w.heap.size + 1) (by simp) (row_call hb1 (heap_alloc_new _ _)))
  clear hb1
  have A1_0 : V1.cell? ⟨w.heap.size, 0, none⟩ = some (.int .i64 d) := cell_of_row _ _ _ _ _ _ A1.out
  have A1_1 : V1.cell? ⟨w.heap.size, 1, none⟩ = some (.int .i64 m) := cell_of_row _ _ _ _ _ _ A1.out
  have Z1_0 : V1.cell? ⟨w.heap.size + 1, 0, none⟩ = some (.int .i64 0) := cell_of_row _ _ _ _ _ _ Z1.out
  have Z1_1 : V1.cell? ⟨w.heap.size + 1, 1, none⟩ = some (.int .i64 0) := cell_of_row _ _ _ _ _ _ Z1.out
  have Z1_f0 : V1.frozen? ⟨w.heap.size + 1, 0, none⟩ = false := by simp [World.frozen?, Z1.out]
  have Z1_f1 : V1.frozen? ⟨w.heap.size + 1, 1, none⟩ = false := by simp [World.frozen?, Z1.out]
  have zA1 := lt_of_heap A1.out
  have zZ1 := lt_of_heap Z1.out
  go_simp
  go_wp2
  refine shut_ret (v := .tuple #[.agg #[.int .i64 0, .int .i64 0], .int .i64 E]) (by simp [results, Try.results22, go_sem, zZ1, Z1_0, Z1_1]) rfl ⟨rfl, ?_⟩
  exact keep2 B1.out (by omega) _ _
theorem neg_bool {X : Int} (w : World) (b : Bool) (h : neg (zh X) = b) : Calls Try.prog 42 #[.agg #[.int .u64 (zh X), .int .u64 (zl X)]] w fun e w' => e = .returned (.bool b) ∧ Below w.heap.size w w' := by
  have := below_any (zh X) (zl X) w
  rw [h] at this
  exact this
set_option maxHeartbeats 1600000 in
theorem rdMul_any (d m n : Int) (bn : in64 n) (w : World) :
    Calls Try.prog 22 #[.agg #[.int .i64 d, .int .i64 m], .int .i64 n] w fun e w' => e = .returned (.tuple #[.agg #[.int .i64 (dpS (ckD d m) (n * nanos d m)), .int .i64 (dpN (ckD d m) (n * nanos d m))], .int .i64 (dpE (ckD d m) (n * nanos d m))]) ∧ Below w.heap.size w w' := by
  have X1 := rCheckDur_any d m
  by_cases hc : ckD d m = 0
  · obtain ⟨u1, u2, u3⟩ := pp_ok (T := n * nanos d m) hc
    rw [u1, u2, u3]
    rw [hc] at X1
    have H1 := Lib.hid X1
    obtain ⟨i1, i2, i3⟩ := nnD_in hc
    have hP := ck_nanos hc
    have H2 := Lib.hid (rdwide_any d m i1 i2)
    have X3 := rBelow_any (nanos d m) i3
    have H4 := Lib.hid (rNeg_any (nanos d m))
    have H5 := Lib.hid (rAmt_any n bn)
    have hN : n.natAbs ≤ 9223372036854775808 := by unfold in64 at bn; omega
    have hA : (nanos d m).natAbs ≤ 1099511627776000000000 := by omega
    obtain ⟨M1, M2⟩ := mulD_math (nanos d m).natAbs n.natAbs hA hN
    have bgN := @big_nanos (nanos d m) n
    have sm := @mul_same n (nanos d m)
    have df := @mul_diff n (nanos d m)
    generalize nanos d m = P at *
    have H6 := Lib.hid (rMul_any (zl P.natAbs) n.natAbs (zl_U _) (natAbs_U bn))
    have H7 := Lib.hid (rMul_any (zh P.natAbs) n.natAbs (zh_U _) (natAbs_U bn))
    have X8 := rAdd_any ((zl P.natAbs * n.natAbs : Nat) : Int) ((zl ((zh P.natAbs * n.natAbs : Nat) : Int) : Int) * 18446744073709551616)
    rw [(hl_shift _ (zl_U _)).1, (hl_shift _ (zl_U _)).2] at X8
    by_cases hx : P < 0
    · rw [decide_eq_true hx] at X3
      have H3 := Lib.hid X3
      rw [show -P = (P.natAbs : Int) by omega] at H4
      by_cases hs : P.natAbs * n.natAbs < 170141183460469231731687303715884105728
      · obtain ⟨s1, s2, s3⟩ := M1 hs
        rw [s1, s3] at X8
        have H8 := Lib.hid X8
        have hb : neg (zh ((P.natAbs * n.natAbs : Nat) : Int)) = false := by rw [neg_z _ (by unfold in128; omega)]; exact decide_eq_false (by omega)
        have H9 := Lib.hid (fun w => neg_bool (X := ((P.natAbs * n.natAbs : Nat) : Int)) w false hb)
        by_cases hn : n < 0
        · have e := sm (by rw [decide_eq_true hn, decide_eq_true hx])
          rw [Nat.mul_comm] at e
          have X11 := rdOf_any ((P.natAbs * n.natAbs : Nat) : Int) (by unfold in128; omega)
          rw [e] at X11
          rw [e] at H8 H9
          exact rdMul_true_okp d m n P P.natAbs _ _ _ 0 _ _ _ _ _ H1 H2 H3 H4 H5 H6 H7 H8 H9 s2 hn (by rw [decide_eq_true hn]; rfl) (Lib.hid X11) w
        · have e := df (by rw [decide_eq_false hn, decide_eq_true hx]; rfl)
          rw [Nat.mul_comm] at e
          have X11 := rdOf_any (n * P) (by unfold in128; omega)
          have X10 := rNeg_any ((P.natAbs * n.natAbs : Nat) : Int)
          rw [e] at X10
          exact rdMul_true_okn d m n P P.natAbs _ _ _ _ _ _ _ _ _ H1 H2 H3 H4 H5 H6 H7 H8 H9 s2 (Lib.hid X10) hn (by rw [decide_eq_false hn]; rfl) (Lib.hid X11) w
      · obtain ⟨t1, t2, t3⟩ := dd_no (bgN hs)
        rw [t1, t2, t3]
        cases ho : cb ((zl P.natAbs * n.natAbs : Nat) : Int) ((zl ((zh P.natAbs * n.natAbs : Nat) : Int) : Int) * 18446744073709551616)
        · rw [ho] at X8
          have H8 := Lib.hid X8
          by_cases hg : zh ((zh P.natAbs * n.natAbs : Nat) : Int) = 0
          · exact rdMul_true_sign d m n P P.natAbs _ _ _ 0 0 0 0 _ _ H1 H2 H3 H4 H5 H6 H7 H8 (Lib.hid (fun w => neg_bool w true (M2 hs ho hg))) hg w
          · exact rdMul_true_high d m n P P.natAbs _ _ _ 0 0 0 0 _ _ H1 H2 H3 H4 H5 H6 H7 H8 hg w
        · rw [ho] at X8
          exact rdMul_true_over d m n P P.natAbs _ _ _ 0 0 0 0 _ _ H1 H2 H3 H4 H5 H6 H7 (Lib.hid X8) w
    · rw [decide_eq_false hx] at X3
      have H3 := Lib.hid X3
      have eP : (P.natAbs : Int) = P := by omega
      rw [eP] at H6 H7 X8 M1 M2
      by_cases hs : P.natAbs * n.natAbs < 170141183460469231731687303715884105728
      · obtain ⟨s1, s2, s3⟩ := M1 hs
        rw [s1, s3] at X8
        have H8 := Lib.hid X8
        have hb : neg (zh ((P.natAbs * n.natAbs : Nat) : Int)) = false := by rw [neg_z _ (by unfold in128; omega)]; exact decide_eq_false (by omega)
        have H9 := Lib.hid (fun w => neg_bool (X := ((P.natAbs * n.natAbs : Nat) : Int)) w false hb)
        by_cases hn : n < 0
        · have e := df (by rw [decide_eq_true hn, decide_eq_false hx]; rfl)
          rw [Nat.mul_comm] at e
          have X11 := rdOf_any (n * P) (by unfold in128; omega)
          have X10 := rNeg_any ((P.natAbs * n.natAbs : Nat) : Int)
          rw [e] at X10
          exact rdMul_false_okn d m n P (-P) _ _ _ _ _ _ _ _ _ H1 H2 H3 H5 H6 H7 H8 H9 s2 (Lib.hid X10) hn (Lib.hid X11) w
        · have e := sm (by rw [decide_eq_false hn, decide_eq_false hx])
          rw [Nat.mul_comm] at e
          have X11 := rdOf_any ((P.natAbs * n.natAbs : Nat) : Int) (by unfold in128; omega)
          rw [e] at X11
          rw [e] at H8 H9
          exact rdMul_false_okp d m n P (-P) _ _ _ 0 _ _ _ _ _ H1 H2 H3 H5 H6 H7 H8 H9 s2 hn (Lib.hid X11) w
      · obtain ⟨t1, t2, t3⟩ := dd_no (bgN hs)
        rw [t1, t2, t3]
        cases ho : cb ((zl P * n.natAbs : Nat) : Int) ((zl ((zh P * n.natAbs : Nat) : Int) : Int) * 18446744073709551616)
        · rw [ho] at X8
          have H8 := Lib.hid X8
          by_cases hg : zh ((zh P * n.natAbs : Nat) : Int) = 0
          · exact rdMul_false_sign d m n P (-P) _ _ _ 0 0 0 0 _ _ H1 H2 H3 H5 H6 H7 H8 (Lib.hid (fun w => neg_bool w true (M2 hs ho hg))) hg w
          · exact rdMul_false_high d m n P (-P) _ _ _ 0 0 0 0 _ _ H1 H2 H3 H5 H6 H7 H8 hg w
        · rw [ho] at X8
          exact rdMul_false_over d m n P (-P) _ _ _ 0 0 0 0 _ _ H1 H2 H3 H5 H6 H7 (Lib.hid X8) w
  · obtain ⟨u1, u2, u3⟩ := pp_no (T := n * nanos d m) hc
    rw [u1, u2, u3]
    exact rdMul_err d m n _ w hc (Lib.hid X1)
set_option maxHeartbeats 1600000 in
set_option maxRecDepth 100000 in
theorem rdNeg_any (d m : Int) (w : World) :
    Calls Try.prog 18 #[.agg #[.int .i64 d, .int .i64 m]] w fun e w' => e = .returned (.tuple #[.agg #[.int .i64 (dpS (ckD d m) (-nanos d m)), .int .i64 (dpN (ckD d m) (-nanos d m))], .int .i64 (dpE (ckD d m) (-nanos d m))]) ∧ Below w.heap.size w w' := by
  have X1 := rCheckDur_any d m
  by_cases hc : ckD d m = 0
  · obtain ⟨u1, u2, u3⟩ := pp_ok (T := -nanos d m) hc
    rw [u1, u2, u3]
    rw [hc] at X1
    have H1 := Lib.hid X1
    obtain ⟨i1, i2, i3⟩ := nnD_in hc
    have hP := ck_nanos hc
    have H2 := Lib.hid (rdwide_any d m i1 i2)
    have H3 := Lib.hid (rNeg_any (nanos d m))
    have H4 := Lib.hid (rdOf_any (-nanos d m) (by unfold in128; omega))
    clear X1 u1 u2 u3 hc i1 i2 i3 hP
    generalize -nanos d m = T at *
    generalize nanos d m = P at *
    generalize duS T = S at *
    generalize duN T = N at *
    generalize duE T = E at *
    go_enter Try.func18, Try.ntmps18
    refine wp_shut ?_
    go_wp2_with fail
    
    refine (H1.out _).mono ?_
    rintro e V1 ⟨rfl, hb1⟩
    have B1 := Lib.hid ((((Below.refl w.heap.size w).alloc (Nat.le_refl _) _).alloc (by simp <;> omega) _).trans (hb1.mono (by first | assumption | (simp <;> omega) | (simp; done))))
    have A1 := Lib.hid (row_call hb1 (row_alloc (heap_alloc_new _ _) _))
    have Z1 := Lib.hid (row_at (k' := w.heap.size + 1) (by simp) (row_call hb1 (heap_alloc_new _ _)))
    clear hb1
    have A1_0 : V1.cell? ⟨w.heap.size, 0, none⟩ = some (.int .i64 d) := cell_of_row _ _ _ _ _ _ A1.out
    have A1_1 : V1.cell? ⟨w.heap.size, 1, none⟩ = some (.int .i64 m) := cell_of_row _ _ _ _ _ _ A1.out
    have Z1_0 : V1.cell? ⟨w.heap.size + 1, 0, none⟩ = some (.int .i64 0) := cell_of_row _ _ _ _ _ _ Z1.out
    have Z1_1 : V1.cell? ⟨w.heap.size + 1, 1, none⟩ = some (.int .i64 0) := cell_of_row _ _ _ _ _ _ Z1.out
    have Z1_f0 : V1.frozen? ⟨w.heap.size + 1, 0, none⟩ = false := by simp [World.frozen?, Z1.out]
    have Z1_f1 : V1.frozen? ⟨w.heap.size + 1, 1, none⟩ = false := by simp [World.frozen?, Z1.out]
    have zA1 := lt_of_heap A1.out
    have zZ1 := lt_of_heap Z1.out
    go_simp
    go_wp2_with fail
    refine (H2.out _).mono ?_
    rintro e V2 ⟨rfl, hb2⟩
    clear A1_0 A1_1 zA1 Z1_0 Z1_1 Z1_f0 Z1_f1 zZ1
    have B2 : Hid (Below w.heap.size w V2) := by first | exact Lib.hid ((B1.out).trans (hb2.mono (by have := B1.out.size; first | assumption | (simp <;> omega) | (simp; done)))) | exact Lib.hid (((B1.out).alloc (B1.out.size) _).trans (hb2.mono (by have := B1.out.size; first | assumption | (simp <;> omega) | (simp; done)))) | exact Lib.hid ((((B1.out).alloc (B1.out.size) _).alloc (by have := B1.out.size; simp <;> omega) _).trans (hb2.mono (by have := B1.out.size; first | assumption | (simp <;> omega) | (simp; done)))) | exact Lib.hid (((((B1.out).alloc (B1.out.size) _).alloc (by have := B1.out.size; simp <;> omega) _).alloc (by have := B1.out.size; simp <;> omega) _).trans (hb2.mono (by have := B1.out.size; first | assumption | (simp <;> omega) | (simp; done))))
    first | replace A1 := Lib.hid (row_call hb2 A1.out) | replace A1 := Lib.hid (row_call hb2 (row_alloc A1.out _)) | replace A1 := Lib.hid (row_call hb2 (row_alloc (row_alloc A1.out _) _)) | replace A1 := Lib.hid (row_call hb2 (row_alloc (row_alloc (row_alloc A1.out _) _) _))
    first | replace Z1 := Lib.hid (row_call hb2 Z1.out) | replace Z1 := Lib.hid (row_call hb2 (row_alloc Z1.out _)) | replace Z1 := Lib.hid (row_call hb2 (row_alloc (row_alloc Z1.out _) _)) | replace Z1 := Lib.hid (row_call hb2 (row_alloc (row_alloc (row_alloc Z1.out _) _) _))
    clear hb2
    have A1_0 : V2.cell? ⟨w.heap.size, 0, none⟩ = some (.int .i64 d) := cell_of_row _ _ _ _ _ _ A1.out
    have A1_1 : V2.cell? ⟨w.heap.size, 1, none⟩ = some (.int .i64 m) := cell_of_row _ _ _ _ _ _ A1.out
    have Z1_0 : V2.cell? ⟨w.heap.size + 1, 0, none⟩ = some (.int .i64 0) := cell_of_row _ _ _ _ _ _ Z1.out
    have Z1_1 : V2.cell? ⟨w.heap.size + 1, 1, none⟩ = some (.int .i64 0) := cell_of_row _ _ _ _ _ _ Z1.out
    have Z1_f0 : V2.frozen? ⟨w.heap.size + 1, 0, none⟩ = false := by simp [World.frozen?, Z1.out]
    have Z1_f1 : V2.frozen? ⟨w.heap.size + 1, 1, none⟩ = false := by simp [World.frozen?, Z1.out]
    have zA1 := lt_of_heap A1.out
    have zZ1 := lt_of_heap Z1.out
    go_simp
    go_wp2_with fail
    refine (H3.out _).mono ?_
    rintro e V3 ⟨rfl, hb3⟩
    clear A1_0 A1_1 zA1 Z1_0 Z1_1 Z1_f0 Z1_f1 zZ1
    have B3 : Hid (Below w.heap.size w V3) := by first | exact Lib.hid ((B2.out).trans (hb3.mono (by have := B2.out.size; first | assumption | (simp <;> omega) | (simp; done)))) | exact Lib.hid (((B2.out).alloc (B2.out.size) _).trans (hb3.mono (by have := B2.out.size; first | assumption | (simp <;> omega) | (simp; done)))) | exact Lib.hid ((((B2.out).alloc (B2.out.size) _).alloc (by have := B2.out.size; simp <;> omega) _).trans (hb3.mono (by have := B2.out.size; first | assumption | (simp <;> omega) | (simp; done)))) | exact Lib.hid (((((B2.out).alloc (B2.out.size) _).alloc (by have := B2.out.size; simp <;> omega) _).alloc (by have := B2.out.size; simp <;> omega) _).trans (hb3.mono (by have := B2.out.size; first | assumption | (simp <;> omega) | (simp; done))))
    first | replace A1 := Lib.hid (row_call hb3 A1.out) | replace A1 := Lib.hid (row_call hb3 (row_alloc A1.out _)) | replace A1 := Lib.hid (row_call hb3 (row_alloc (row_alloc A1.out _) _)) | replace A1 := Lib.hid (row_call hb3 (row_alloc (row_alloc (row_alloc A1.out _) _) _))
    first | replace Z1 := Lib.hid (row_call hb3 Z1.out) | replace Z1 := Lib.hid (row_call hb3 (row_alloc Z1.out _)) | replace Z1 := Lib.hid (row_call hb3 (row_alloc (row_alloc Z1.out _) _)) | replace Z1 := Lib.hid (row_call hb3 (row_alloc (row_alloc (row_alloc Z1.out _) _) _))
    clear hb3
    have A1_0 : V3.cell? ⟨w.heap.size, 0, none⟩ = some (.int .i64 d) := cell_of_row _ _ _ _ _ _ A1.out
    have A1_1 : V3.cell? ⟨w.heap.size, 1, none⟩ = some (.int .i64 m) := cell_of_row _ _ _ _ _ _ A1.out
    have Z1_0 : V3.cell? ⟨w.heap.size + 1, 0, none⟩ = some (.int .i64 0) := cell_of_row _ _ _ _ _ _ Z1.out
    have Z1_1 : V3.cell? ⟨w.heap.size + 1, 1, none⟩ = some (.int .i64 0) := cell_of_row _ _ _ _ _ _ Z1.out
    have Z1_f0 : V3.frozen? ⟨w.heap.size + 1, 0, none⟩ = false := by simp [World.frozen?, Z1.out]
    have Z1_f1 : V3.frozen? ⟨w.heap.size + 1, 1, none⟩ = false := by simp [World.frozen?, Z1.out]
    have zA1 := lt_of_heap A1.out
    have zZ1 := lt_of_heap Z1.out
    go_simp
    go_wp2_with fail
    refine (H4.out _).mono ?_
    rintro e V4 ⟨rfl, hb4⟩
    clear A1_0 A1_1 zA1 Z1_0 Z1_1 Z1_f0 Z1_f1 zZ1
    have B4 : Hid (Below w.heap.size w V4) := by first | exact Lib.hid ((B3.out).trans (hb4.mono (by have := B3.out.size; first | assumption | (simp <;> omega) | (simp; done)))) | exact Lib.hid (((B3.out).alloc (B3.out.size) _).trans (hb4.mono (by have := B3.out.size; first | assumption | (simp <;> omega) | (simp; done)))) | exact Lib.hid ((((B3.out).alloc (B3.out.size) _).alloc (by have := B3.out.size; simp <;> omega) _).trans (hb4.mono (by have := B3.out.size; first | assumption | (simp <;> omega) | (simp; done)))) | exact Lib.hid (((((B3.out).alloc (B3.out.size) _).alloc (by have := B3.out.size; simp <;> omega) _).alloc (by have := B3.out.size; simp <;> omega) _).trans (hb4.mono (by have := B3.out.size; first | assumption | (simp <;> omega) | (simp; done))))
    first | replace A1 := Lib.hid (row_call hb4 A1.out) | replace A1 := Lib.hid (row_call hb4 (row_alloc A1.out _)) | replace A1 := Lib.hid (row_call hb4 (row_alloc (row_alloc A1.out _) _)) | replace A1 := Lib.hid (row_call hb4 (row_alloc (row_alloc (row_alloc A1.out _) _) _))
    first | replace Z1 := Lib.hid (row_call hb4 Z1.out) | replace Z1 := Lib.hid (row_call hb4 (row_alloc Z1.out _)) | replace Z1 := Lib.hid (row_call hb4 (row_alloc (row_alloc Z1.out _) _)) | replace Z1 := Lib.hid (row_call hb4 (row_alloc (row_alloc (row_alloc Z1.out _) _) _))
    clear hb4
    have A1_0 : V4.cell? ⟨w.heap.size, 0, none⟩ = some (.int .i64 d) := cell_of_row _ _ _ _ _ _ A1.out
    have A1_1 : V4.cell? ⟨w.heap.size, 1, none⟩ = some (.int .i64 m) := cell_of_row _ _ _ _ _ _ A1.out
    have Z1_0 : V4.cell? ⟨w.heap.size + 1, 0, none⟩ = some (.int .i64 0) := cell_of_row _ _ _ _ _ _ Z1.out
    have Z1_1 : V4.cell? ⟨w.heap.size + 1, 1, none⟩ = some (.int .i64 0) := cell_of_row _ _ _ _ _ _ Z1.out
    have Z1_f0 : V4.frozen? ⟨w.heap.size + 1, 0, none⟩ = false := by simp [World.frozen?, Z1.out]
    have Z1_f1 : V4.frozen? ⟨w.heap.size + 1, 1, none⟩ = false := by simp [World.frozen?, Z1.out]
    have zA1 := lt_of_heap A1.out
    have zZ1 := lt_of_heap Z1.out
    go_simp
    go_wp2
    refine shut_ret (v := .tuple #[.agg #[.int .i64 S, .int .i64 N], .int .i64 E]) (by simp [results, Try.results18, go_sem, zZ1, Z1_0, Z1_1]) rfl ⟨rfl, ?_⟩
    exact keep2 B4.out (by omega) _ _
  · obtain ⟨u1, u2, u3⟩ := pp_no (T := -nanos d m) hc
    rw [u1, u2, u3]
    have H1 := Lib.hid X1
    clear X1 u1 u2 u3
    generalize ckD d m = E at *
    have f1 : (E != 0) = true := by rw [bne_iff_ne]; exact hc
    go_enter Try.func18, Try.ntmps18
    refine wp_shut ?_
    go_wp2_with fail
    
    refine (H1.out _).mono ?_
    rintro e V1 ⟨rfl, hb1⟩
    have B1 := Lib.hid ((((Below.refl w.heap.size w).alloc (Nat.le_refl _) _).alloc (by simp <;> omega) _).trans (hb1.mono (by first | assumption | (simp <;> omega) | (simp; done))))
    have A1 := Lib.hid (row_call hb1 (row_alloc (heap_alloc_new _ _) _))
    have Z1 := Lib.hid (row_at (k' := w.heap.size + 1) (by simp) (row_call hb1 (heap_alloc_new _ _)))
    clear hb1
    have A1_0 : V1.cell? ⟨w.heap.size, 0, none⟩ = some (.int .i64 d) := cell_of_row _ _ _ _ _ _ A1.out
    have A1_1 : V1.cell? ⟨w.heap.size, 1, none⟩ = some (.int .i64 m) := cell_of_row _ _ _ _ _ _ A1.out
    have Z1_0 : V1.cell? ⟨w.heap.size + 1, 0, none⟩ = some (.int .i64 0) := cell_of_row _ _ _ _ _ _ Z1.out
    have Z1_1 : V1.cell? ⟨w.heap.size + 1, 1, none⟩ = some (.int .i64 0) := cell_of_row _ _ _ _ _ _ Z1.out
    have Z1_f0 : V1.frozen? ⟨w.heap.size + 1, 0, none⟩ = false := by simp [World.frozen?, Z1.out]
    have Z1_f1 : V1.frozen? ⟨w.heap.size + 1, 1, none⟩ = false := by simp [World.frozen?, Z1.out]
    have zA1 := lt_of_heap A1.out
    have zZ1 := lt_of_heap Z1.out
    go_simp
    go_wp2
    refine shut_ret (v := .tuple #[.agg #[.int .i64 0, .int .i64 0], .int .i64 E]) (by simp [results, Try.results18, go_sem, zZ1, Z1_0, Z1_1]) rfl ⟨rfl, ?_⟩
    exact keep2 B1.out (by omega) _ _
theorem fqD_in {x n : Int} (bn : in64 n) (h0 : n ≠ 0) (h : -1099511627776000000000 ≤ x ∧ x ≤ 1099511627776000000000) : in128 (fq x n) := by
  by_cases hn : n < 0
  · rw [fq_neg hn]; exact quot_in2 _ (by omega)
  · rw [fq_pos (by omega)]; exact quot_in2 _ h
set_option maxHeartbeats 1600000 in
set_option maxRecDepth 100000 in
theorem rdDiv_any (d m n : Int) (bn : in64 n) (w : World) :
    Calls Try.prog 24 #[.agg #[.int .i64 d, .int .i64 m], .int .i64 n] w fun e w' => e = .returned (.tuple #[.agg #[.int .i64 (dpS (dvF d m n) (fq (nanos d m) n)), .int .i64 (dpN (dvF d m n) (fq (nanos d m) n))], .int .i64 (dpE (dvF d m n) (fq (nanos d m) n))]) ∧ Below w.heap.size w w' := by
  have X1 := rCheckDur_any d m
  by_cases h0 : n = 0
  · obtain ⟨u1, u2, u3⟩ := pp_no (F := dvF d m n) (T := fq (nanos d m) n) (by rw [dvF_zero h0]; decide)
    rw [u1, u2, u3, dvF_zero h0]
    subst h0
    have H1 := Lib.hid X1
    clear u1 u2 u3 bn X1
    generalize ckD d m = F at *
    go_enter Try.func24, Try.ntmps24
    refine wp_shut ?_
    go_wp2_with fail
    
    refine (H1.out _).mono ?_
    rintro e V1 ⟨rfl, hb1⟩
    have B1 := Lib.hid ((((Below.refl w.heap.size w).alloc (Nat.le_refl _) _).alloc (by simp <;> omega) _).trans (hb1.mono (by first | assumption | (simp <;> omega) | (simp; done))))
    have A1 := Lib.hid (row_call hb1 (row_alloc (heap_alloc_new _ _) _))
    have Z1 := Lib.hid (row_at (k' := w.heap.size + 1) (by simp) (row_call hb1 (heap_alloc_new _ _)))
    clear hb1
    have A1_0 : V1.cell? ⟨w.heap.size, 0, none⟩ = some (.int .i64 d) := cell_of_row _ _ _ _ _ _ A1.out
    have A1_1 : V1.cell? ⟨w.heap.size, 1, none⟩ = some (.int .i64 m) := cell_of_row _ _ _ _ _ _ A1.out
    have Z1_0 : V1.cell? ⟨w.heap.size + 1, 0, none⟩ = some (.int .i64 0) := cell_of_row _ _ _ _ _ _ Z1.out
    have Z1_1 : V1.cell? ⟨w.heap.size + 1, 1, none⟩ = some (.int .i64 0) := cell_of_row _ _ _ _ _ _ Z1.out
    have Z1_f0 : V1.frozen? ⟨w.heap.size + 1, 0, none⟩ = false := by simp [World.frozen?, Z1.out]
    have Z1_f1 : V1.frozen? ⟨w.heap.size + 1, 1, none⟩ = false := by simp [World.frozen?, Z1.out]
    have zA1 := lt_of_heap A1.out
    have zZ1 := lt_of_heap Z1.out
    go_simp
    go_wp2
    refine shut_ret (v := .tuple #[.agg #[.int .i64 0, .int .i64 0], .int .i64 5]) (by simp [results, Try.results24, go_sem, zZ1, Z1_0, Z1_1]) rfl ⟨rfl, ?_⟩
    exact keep2 B1.out (by omega) _ _
  · have g0 : (n == 0) = false := by rw [beq_eq_false_iff_ne]; exact h0
    by_cases hc : ckD d m = 0
    · have hF : dvF d m n = 0 := by rw [dvF_not h0]; exact hc
      obtain ⟨u1, u2, u3⟩ := pp_ok (T := fq (nanos d m) n) hF
      rw [u1, u2, u3]
      obtain ⟨i1, i2, i3⟩ := nnD_in hc
      have hb := ck_nanos hc
      rw [hc] at X1
      have H1 := Lib.hid X1
      have H2 := Lib.hid (rdwide_any d m i1 i2)
      have H3 := Lib.hid (rFloor_all (nanos d m) n i3 bn h0)
      have H4 := Lib.hid (rdOf_any (fq (nanos d m) n) (fqD_in bn h0 hb))
      clear X1 u1 u2 u3 hF hb hc i1 i2 i3 bn h0
      generalize fq (nanos d m) n = Q at *
      generalize fr (nanos d m) n = R at *
      generalize nanos d m = T at *
      generalize duS Q = S at *
      generalize duN Q = N at *
      generalize duE Q = E at *
      go_enter Try.func24, Try.ntmps24
      refine wp_shut ?_
      go_wp2_with fail
      
      refine (H1.out _).mono ?_
      rintro e V1 ⟨rfl, hb1⟩
      have B1 := Lib.hid ((((Below.refl w.heap.size w).alloc (Nat.le_refl _) _).alloc (by simp <;> omega) _).trans (hb1.mono (by first | assumption | (simp <;> omega) | (simp; done))))
      have A1 := Lib.hid (row_call hb1 (row_alloc (heap_alloc_new _ _) _))
      have Z1 := Lib.hid (row_at (k' := w.heap.size + 1) (by simp) (row_call hb1 (heap_alloc_new _ _)))
      clear hb1
      have A1_0 : V1.cell? ⟨w.heap.size, 0, none⟩ = some (.int .i64 d) := cell_of_row _ _ _ _ _ _ A1.out
      have A1_1 : V1.cell? ⟨w.heap.size, 1, none⟩ = some (.int .i64 m) := cell_of_row _ _ _ _ _ _ A1.out
      have Z1_0 : V1.cell? ⟨w.heap.size + 1, 0, none⟩ = some (.int .i64 0) := cell_of_row _ _ _ _ _ _ Z1.out
      have Z1_1 : V1.cell? ⟨w.heap.size + 1, 1, none⟩ = some (.int .i64 0) := cell_of_row _ _ _ _ _ _ Z1.out
      have Z1_f0 : V1.frozen? ⟨w.heap.size + 1, 0, none⟩ = false := by simp [World.frozen?, Z1.out]
      have Z1_f1 : V1.frozen? ⟨w.heap.size + 1, 1, none⟩ = false := by simp [World.frozen?, Z1.out]
      have zA1 := lt_of_heap A1.out
      have zZ1 := lt_of_heap Z1.out
      go_simp
      go_wp2_with fail
      refine (H2.out _).mono ?_
      rintro e V2 ⟨rfl, hb2⟩
      clear A1_0 A1_1 zA1 Z1_0 Z1_1 Z1_f0 Z1_f1 zZ1
      have B2 : Hid (Below w.heap.size w V2) := by first | exact Lib.hid ((B1.out).trans (hb2.mono (by have := B1.out.size; first | assumption | (simp <;> omega) | (simp; done)))) | exact Lib.hid (((B1.out).alloc (B1.out.size) _).trans (hb2.mono (by have := B1.out.size; first | assumption | (simp <;> omega) | (simp; done)))) | exact Lib.hid ((((B1.out).alloc (B1.out.size) _).alloc (by have := B1.out.size; simp <;> omega) _).trans (hb2.mono (by have := B1.out.size; first | assumption | (simp <;> omega) | (simp; done)))) | exact Lib.hid (((((B1.out).alloc (B1.out.size) _).alloc (by have := B1.out.size; simp <;> omega) _).alloc (by have := B1.out.size; simp <;> omega) _).trans (hb2.mono (by have := B1.out.size; first | assumption | (simp <;> omega) | (simp; done))))
      first | replace A1 := Lib.hid (row_call hb2 A1.out) | replace A1 := Lib.hid (row_call hb2 (row_alloc A1.out _)) | replace A1 := Lib.hid (row_call hb2 (row_alloc (row_alloc A1.out _) _)) | replace A1 := Lib.hid (row_call hb2 (row_alloc (row_alloc (row_alloc A1.out _) _) _))
      first | replace Z1 := Lib.hid (row_call hb2 Z1.out) | replace Z1 := Lib.hid (row_call hb2 (row_alloc Z1.out _)) | replace Z1 := Lib.hid (row_call hb2 (row_alloc (row_alloc Z1.out _) _)) | replace Z1 := Lib.hid (row_call hb2 (row_alloc (row_alloc (row_alloc Z1.out _) _) _))
      clear hb2
      have A1_0 : V2.cell? ⟨w.heap.size, 0, none⟩ = some (.int .i64 d) := cell_of_row _ _ _ _ _ _ A1.out
      have A1_1 : V2.cell? ⟨w.heap.size, 1, none⟩ = some (.int .i64 m) := cell_of_row _ _ _ _ _ _ A1.out
      have Z1_0 : V2.cell? ⟨w.heap.size + 1, 0, none⟩ = some (.int .i64 0) := cell_of_row _ _ _ _ _ _ Z1.out
      have Z1_1 : V2.cell? ⟨w.heap.size + 1, 1, none⟩ = some (.int .i64 0) := cell_of_row _ _ _ _ _ _ Z1.out
      have Z1_f0 : V2.frozen? ⟨w.heap.size + 1, 0, none⟩ = false := by simp [World.frozen?, Z1.out]
      have Z1_f1 : V2.frozen? ⟨w.heap.size + 1, 1, none⟩ = false := by simp [World.frozen?, Z1.out]
      have zA1 := lt_of_heap A1.out
      have zZ1 := lt_of_heap Z1.out
      go_simp
      go_wp2_with fail
      refine (H3.out _).mono ?_
      rintro e V3 ⟨rfl, hb3⟩
      clear A1_0 A1_1 zA1 Z1_0 Z1_1 Z1_f0 Z1_f1 zZ1
      have B3 : Hid (Below w.heap.size w V3) := by first | exact Lib.hid ((B2.out).trans (hb3.mono (by have := B2.out.size; first | assumption | (simp <;> omega) | (simp; done)))) | exact Lib.hid (((B2.out).alloc (B2.out.size) _).trans (hb3.mono (by have := B2.out.size; first | assumption | (simp <;> omega) | (simp; done)))) | exact Lib.hid ((((B2.out).alloc (B2.out.size) _).alloc (by have := B2.out.size; simp <;> omega) _).trans (hb3.mono (by have := B2.out.size; first | assumption | (simp <;> omega) | (simp; done)))) | exact Lib.hid (((((B2.out).alloc (B2.out.size) _).alloc (by have := B2.out.size; simp <;> omega) _).alloc (by have := B2.out.size; simp <;> omega) _).trans (hb3.mono (by have := B2.out.size; first | assumption | (simp <;> omega) | (simp; done))))
      first | replace A1 := Lib.hid (row_call hb3 A1.out) | replace A1 := Lib.hid (row_call hb3 (row_alloc A1.out _)) | replace A1 := Lib.hid (row_call hb3 (row_alloc (row_alloc A1.out _) _)) | replace A1 := Lib.hid (row_call hb3 (row_alloc (row_alloc (row_alloc A1.out _) _) _))
      first | replace Z1 := Lib.hid (row_call hb3 Z1.out) | replace Z1 := Lib.hid (row_call hb3 (row_alloc Z1.out _)) | replace Z1 := Lib.hid (row_call hb3 (row_alloc (row_alloc Z1.out _) _)) | replace Z1 := Lib.hid (row_call hb3 (row_alloc (row_alloc (row_alloc Z1.out _) _) _))
      clear hb3
      have A1_0 : V3.cell? ⟨w.heap.size, 0, none⟩ = some (.int .i64 d) := cell_of_row _ _ _ _ _ _ A1.out
      have A1_1 : V3.cell? ⟨w.heap.size, 1, none⟩ = some (.int .i64 m) := cell_of_row _ _ _ _ _ _ A1.out
      have Z1_0 : V3.cell? ⟨w.heap.size + 1, 0, none⟩ = some (.int .i64 0) := cell_of_row _ _ _ _ _ _ Z1.out
      have Z1_1 : V3.cell? ⟨w.heap.size + 1, 1, none⟩ = some (.int .i64 0) := cell_of_row _ _ _ _ _ _ Z1.out
      have Z1_f0 : V3.frozen? ⟨w.heap.size + 1, 0, none⟩ = false := by simp [World.frozen?, Z1.out]
      have Z1_f1 : V3.frozen? ⟨w.heap.size + 1, 1, none⟩ = false := by simp [World.frozen?, Z1.out]
      have zA1 := lt_of_heap A1.out
      have zZ1 := lt_of_heap Z1.out
      go_simp
      go_wp2_with fail
      refine (H4.out _).mono ?_
      rintro e V4 ⟨rfl, hb4⟩
      clear A1_0 A1_1 zA1 Z1_0 Z1_1 Z1_f0 Z1_f1 zZ1
      have nA1Q1 := Lib.hid (lt_of_heap A1.out)
      have nZ1Q1 := Lib.hid (lt_of_heap Z1.out)
      have B4 := Lib.hid (((B3.out).alloc (B3.out.size) _).trans (hb4.mono (by have := B3.out.size; first | assumption | (simp <;> omega) | (simp; done))))
      replace A1 := Lib.hid (row_call hb4 (row_alloc A1.out _))
      replace Z1 := Lib.hid (row_call hb4 (row_alloc Z1.out _))
      have Q1 := Lib.hid (row_call hb4 (heap_alloc_new _ _))
      clear hb4
      have A1_0 : V4.cell? ⟨w.heap.size, 0, none⟩ = some (.int .i64 d) := cell_of_row _ _ _ _ _ _ A1.out
      have A1_1 : V4.cell? ⟨w.heap.size, 1, none⟩ = some (.int .i64 m) := cell_of_row _ _ _ _ _ _ A1.out
      have Z1_0 : V4.cell? ⟨w.heap.size + 1, 0, none⟩ = some (.int .i64 0) := cell_of_row _ _ _ _ _ _ Z1.out
      have Z1_1 : V4.cell? ⟨w.heap.size + 1, 1, none⟩ = some (.int .i64 0) := cell_of_row _ _ _ _ _ _ Z1.out
      have Z1_f0 : V4.frozen? ⟨w.heap.size + 1, 0, none⟩ = false := by simp [World.frozen?, Z1.out]
      have Z1_f1 : V4.frozen? ⟨w.heap.size + 1, 1, none⟩ = false := by simp [World.frozen?, Z1.out]
      have Q1_0 : V4.cell? ⟨V3.heap.size, 0, none⟩ = some (.int .u64 (zh Q)) := cell_of_row _ _ _ _ _ _ Q1.out
      have Q1_1 : V4.cell? ⟨V3.heap.size, 1, none⟩ = some (.int .u64 (zl Q)) := cell_of_row _ _ _ _ _ _ Q1.out
      have zA1 := lt_of_heap A1.out
      have zZ1 := lt_of_heap Z1.out
      have zQ1 := lt_of_heap Q1.out
      go_simp
      go_wp2
      refine shut_ret (v := .tuple #[.agg #[.int .i64 S, .int .i64 N], .int .i64 E]) (by simp [results, Try.results24, go_sem, zZ1, Z1_0, Z1_1]) rfl ⟨rfl, ?_⟩
      exact keep2 B4.out (by omega) _ _
    · obtain ⟨u1, u2, u3⟩ := pp_no (F := dvF d m n) (T := fq (nanos d m) n) (by rw [dvF_not h0]; exact hc)
      rw [u1, u2, u3, dvF_not h0]
      have H1 := Lib.hid X1
      clear X1 u1 u2 u3 bn h0
      generalize ckD d m = E at *
      have f1 : (E != 0) = true := by rw [bne_iff_ne]; exact hc
      go_enter Try.func24, Try.ntmps24
      refine wp_shut ?_
      go_wp2_with fail
      
      refine (H1.out _).mono ?_
      rintro e V1 ⟨rfl, hb1⟩
      have B1 := Lib.hid ((((Below.refl w.heap.size w).alloc (Nat.le_refl _) _).alloc (by simp <;> omega) _).trans (hb1.mono (by first | assumption | (simp <;> omega) | (simp; done))))
      have A1 := Lib.hid (row_call hb1 (row_alloc (heap_alloc_new _ _) _))
      have Z1 := Lib.hid (row_at (k' := w.heap.size + 1) (by simp) (row_call hb1 (heap_alloc_new _ _)))
      clear hb1
      have A1_0 : V1.cell? ⟨w.heap.size, 0, none⟩ = some (.int .i64 d) := cell_of_row _ _ _ _ _ _ A1.out
      have A1_1 : V1.cell? ⟨w.heap.size, 1, none⟩ = some (.int .i64 m) := cell_of_row _ _ _ _ _ _ A1.out
      have Z1_0 : V1.cell? ⟨w.heap.size + 1, 0, none⟩ = some (.int .i64 0) := cell_of_row _ _ _ _ _ _ Z1.out
      have Z1_1 : V1.cell? ⟨w.heap.size + 1, 1, none⟩ = some (.int .i64 0) := cell_of_row _ _ _ _ _ _ Z1.out
      have Z1_f0 : V1.frozen? ⟨w.heap.size + 1, 0, none⟩ = false := by simp [World.frozen?, Z1.out]
      have Z1_f1 : V1.frozen? ⟨w.heap.size + 1, 1, none⟩ = false := by simp [World.frozen?, Z1.out]
      have zA1 := lt_of_heap A1.out
      have zZ1 := lt_of_heap Z1.out
      go_simp
      go_wp2
      refine shut_ret (v := .tuple #[.agg #[.int .i64 0, .int .i64 0], .int .i64 E]) (by simp [results, Try.results24, go_sem, zZ1, Z1_0, Z1_1]) rfl ⟨rfl, ?_⟩
      exact keep2 B1.out (by omega) _ _
end Go.Proofs.Ytjgpjphffjjhdaa
