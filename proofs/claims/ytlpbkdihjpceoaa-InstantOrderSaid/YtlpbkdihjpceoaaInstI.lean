/- The walk of the law InstantOrder. -/
import Derived.Test.YtlpbkdihjpceoaaInstG
namespace Go.Proofs.Ytlpbkdihjpceoaa
set_option linter.unusedVariables false
set_option linter.unusedSimpArgs false
open Go.ChangeShapes Go.WideShapes Go.ChangeAt Go.RowKit

theorem of_tkE {f l x : Int} (h : tkE f l x = 0) : f ≤ x / 1000000000 ∧ x / 1000000000 ≤ l := by
  by_cases h1 : f ≤ x / 1000000000 ∧ x / 1000000000 ≤ l
  · exact h1
  · rw [(tk_no h1).2.2] at h; omega
theorem ad_order {s n d m : Int} (h : adE s n d m = 0) : 0 ≤ n ∧ n < 1000000000 ∧ 0 ≤ m ∧ m < 1000000000 ∧ adS s n d m = (nanos s n + nanos d m) / 1000000000 ∧ adN s n d m = (nanos s n + nanos d m) % 1000000000 := by
  cases hw : wmB m
  · rw [(ad_form (s := s) (n := n) (d := d) hw).1] at h; omega
  · by_cases hc : ckI s n = 0
    · obtain ⟨t1, t2, t3⟩ := ad_sum (d := d) hw hc
      rw [t1] at h
      obtain ⟨a1, a2⟩ := of_tkE h
      obtain ⟨u1, u2, u3⟩ := tk_yes a1 a2
      have o5 := of_wmB (of_ckI hc).1
      have o6 := of_wmB hw
      exact ⟨o5.1, o5.2, o6.1, o6.2, t2.trans u1, t3.trans u2⟩
    · rw [(ad_err (d := d) hw hc).1] at h; exact absurd h hc
theorem ord2_of {a b c d : Int} : ord2 a b c d = if a = c then (if b < d then -1 else if d < b then 1 else 0) else (if a < c then -1 else if c < a then 1 else 0) := rfl
theorem ad_zero {s n : Int} (h : adE s n 0 0 = 0) : ord2 (adS s n 0 0) (adN s n 0 0) s n = 0 ∧ ord2 s n (adS s n 0 0) (adN s n 0 0) = 0 := by
  obtain ⟨h1, h2, h3, h4, h5, h6⟩ := ad_order h
  have e1 : adS s n 0 0 = s := by rw [h5]; unfold nanos; omega
  have e2 : adN s n 0 0 = n := by rw [h6]; unfold nanos; omega
  rw [e1, e2, ord2_of, if_pos rfl, if_neg (by omega), if_neg (by omega)]
  exact ⟨rfl, rfl⟩
theorem ad_up {s n d m : Int} (h : adE s n d m = 0) (hd : 0 ≤ d) (hz : ¬ (d = 0 ∧ m = 0)) : ord2 (adS s n d m) (adN s n d m) s n = 1 ∧ ord2 s n (adS s n d m) (adN s n d m) = -1 := by
  obtain ⟨h1, h2, h3, h4, h5, h6⟩ := ad_order h
  rw [h5, h6, ord2_of, ord2_of]
  unfold nanos
  constructor
  · repeat' split
    all_goals omega
  · repeat' split
    all_goals omega
theorem ad_down {s n d m : Int} (h : adE s n d m = 0) (hd : d < 0) : ord2 (adS s n d m) (adN s n d m) s n = -1 ∧ ord2 s n (adS s n d m) (adN s n d m) = 1 := by
  obtain ⟨h1, h2, h3, h4, h5, h6⟩ := ad_order h
  rw [h5, h6, ord2_of, ord2_of]
  unfold nanos
  constructor
  · repeat' split
    all_goals omega
  · repeat' split
    all_goals omega
set_option maxHeartbeats 6400000 in
set_option maxRecDepth 100000 in
theorem instantOrder_walk (s n d m : Int) (bs : in64 s) (bn : in64 n) (bd : in64 d) (bm : in64 m) (w : World) :
    Calls Try.prog 8 #[.agg #[.int .i64 s, .int .i64 n], .agg #[.int .i64 d, .int .i64 m]] w fun e w' => e = .returned (.bool true) ∧ Below w.heap.size w w' := by
  have X1 := iAdd_any s n d m bs bn bd bm
  have X2 := iCmp_any (adS s n d m) (adN s n d m) s n
  have X3 := iCmp_any s n (adS s n d m) (adN s n d m)
  have H8 := Lib.hid awake3_any
  by_cases he : adE s n d m = 0
  · rw [he] at X1
    by_cases hz : d = 0 ∧ m = 0
    · obtain ⟨rfl, rfl⟩ := hz
      obtain ⟨e1, e2⟩ := ad_zero he
      rw [e1] at X2
      rw [e2] at X3
      have H1 := Lib.hid X1
      have H2 := Lib.hid X2
      have H3 := Lib.hid X3
      clear X1 X2 X3 e1 e2 he bs bn bd bm
      generalize adS s n 0 0 = S at *
      generalize adN s n 0 0 = N at *
      go_enter Try.func8, Try.ntmps8
      go_wp2_with fail
      
      refine (H1.out _).mono ?_
      rintro e V1 ⟨rfl, hb1⟩
      have B1 := Lib.hid ((((Below.refl w.heap.size w).alloc (Nat.le_refl _) _).alloc (by simp <;> omega) _).trans (hb1.mono (by first | assumption | (simp <;> omega) | (simp; done))))
      have A1 := Lib.hid (row_call hb1 (row_alloc (heap_alloc_new _ _) _))
      have D1 := Lib.hid (row_at (k' := w.heap.size + 1) (by simp) (row_call hb1 (heap_alloc_new _ _)))
      clear hb1
      have A1_0 : V1.cell? ⟨w.heap.size, 0, none⟩ = some (.int .i64 s) := cell_of_row _ _ _ _ _ _ A1.out
      have A1_1 : V1.cell? ⟨w.heap.size, 1, none⟩ = some (.int .i64 n) := cell_of_row _ _ _ _ _ _ A1.out
      have D1_0 : V1.cell? ⟨w.heap.size + 1, 0, none⟩ = some (.int .i64 0) := cell_of_row _ _ _ _ _ _ D1.out
      have D1_1 : V1.cell? ⟨w.heap.size + 1, 1, none⟩ = some (.int .i64 0) := cell_of_row _ _ _ _ _ _ D1.out
      have zA1 := lt_of_heap A1.out
      have zD1 := lt_of_heap D1.out
      go_simp
      go_wp2_with fail
      refine (H2.out _).mono ?_
      rintro e V2 ⟨rfl, hb2⟩
      clear A1_0 A1_1 zA1 D1_0 D1_1 zD1
      have nA1I1 := Lib.hid (lt_of_heap A1.out)
      have nD1I1 := Lib.hid (lt_of_heap D1.out)
      have B2 := Lib.hid (((B1.out).alloc (B1.out.size) _).trans (hb2.mono (by have := B1.out.size; first | assumption | (simp <;> omega) | (simp; done))))
      replace A1 := Lib.hid (row_call hb2 (row_alloc A1.out _))
      replace D1 := Lib.hid (row_call hb2 (row_alloc D1.out _))
      have I1 := Lib.hid (row_call hb2 (heap_alloc_new _ _))
      clear hb2
      have A1_0 : V2.cell? ⟨w.heap.size, 0, none⟩ = some (.int .i64 s) := cell_of_row _ _ _ _ _ _ A1.out
      have A1_1 : V2.cell? ⟨w.heap.size, 1, none⟩ = some (.int .i64 n) := cell_of_row _ _ _ _ _ _ A1.out
      have D1_0 : V2.cell? ⟨w.heap.size + 1, 0, none⟩ = some (.int .i64 0) := cell_of_row _ _ _ _ _ _ D1.out
      have D1_1 : V2.cell? ⟨w.heap.size + 1, 1, none⟩ = some (.int .i64 0) := cell_of_row _ _ _ _ _ _ D1.out
      have I1_0 : V2.cell? ⟨V1.heap.size, 0, none⟩ = some (.int .i64 S) := cell_of_row _ _ _ _ _ _ I1.out
      have I1_1 : V2.cell? ⟨V1.heap.size, 1, none⟩ = some (.int .i64 N) := cell_of_row _ _ _ _ _ _ I1.out
      have zA1 := lt_of_heap A1.out
      have zD1 := lt_of_heap D1.out
      have zI1 := lt_of_heap I1.out
      go_simp
      go_wp2_with fail
      refine (H3.out _).mono ?_
      rintro e V3 ⟨rfl, hb3⟩
      clear A1_0 A1_1 zA1 D1_0 D1_1 zD1 I1_0 I1_1 zI1
      have B3 : Hid (Below w.heap.size w V3) := by first | exact Lib.hid ((B2.out).trans (hb3.mono (by have := B2.out.size; first | assumption | (simp <;> omega) | (simp; done)))) | exact Lib.hid (((B2.out).alloc (B2.out.size) _).trans (hb3.mono (by have := B2.out.size; first | assumption | (simp <;> omega) | (simp; done)))) | exact Lib.hid ((((B2.out).alloc (B2.out.size) _).alloc (by have := B2.out.size; simp <;> omega) _).trans (hb3.mono (by have := B2.out.size; first | assumption | (simp <;> omega) | (simp; done)))) | exact Lib.hid (((((B2.out).alloc (B2.out.size) _).alloc (by have := B2.out.size; simp <;> omega) _).alloc (by have := B2.out.size; simp <;> omega) _).trans (hb3.mono (by have := B2.out.size; first | assumption | (simp <;> omega) | (simp; done))))
      first | replace A1 := Lib.hid (row_call hb3 A1.out) | replace A1 := Lib.hid (row_call hb3 (row_alloc A1.out _)) | replace A1 := Lib.hid (row_call hb3 (row_alloc (row_alloc A1.out _) _)) | replace A1 := Lib.hid (row_call hb3 (row_alloc (row_alloc (row_alloc A1.out _) _) _))
      first | replace D1 := Lib.hid (row_call hb3 D1.out) | replace D1 := Lib.hid (row_call hb3 (row_alloc D1.out _)) | replace D1 := Lib.hid (row_call hb3 (row_alloc (row_alloc D1.out _) _)) | replace D1 := Lib.hid (row_call hb3 (row_alloc (row_alloc (row_alloc D1.out _) _) _))
      first | replace I1 := Lib.hid (row_call hb3 I1.out) | replace I1 := Lib.hid (row_call hb3 (row_alloc I1.out _)) | replace I1 := Lib.hid (row_call hb3 (row_alloc (row_alloc I1.out _) _)) | replace I1 := Lib.hid (row_call hb3 (row_alloc (row_alloc (row_alloc I1.out _) _) _))
      clear hb3
      have A1_0 : V3.cell? ⟨w.heap.size, 0, none⟩ = some (.int .i64 s) := cell_of_row _ _ _ _ _ _ A1.out
      have A1_1 : V3.cell? ⟨w.heap.size, 1, none⟩ = some (.int .i64 n) := cell_of_row _ _ _ _ _ _ A1.out
      have D1_0 : V3.cell? ⟨w.heap.size + 1, 0, none⟩ = some (.int .i64 0) := cell_of_row _ _ _ _ _ _ D1.out
      have D1_1 : V3.cell? ⟨w.heap.size + 1, 1, none⟩ = some (.int .i64 0) := cell_of_row _ _ _ _ _ _ D1.out
      have I1_0 : V3.cell? ⟨V1.heap.size, 0, none⟩ = some (.int .i64 S) := cell_of_row _ _ _ _ _ _ I1.out
      have I1_1 : V3.cell? ⟨V1.heap.size, 1, none⟩ = some (.int .i64 N) := cell_of_row _ _ _ _ _ _ I1.out
      have zA1 := lt_of_heap A1.out
      have zD1 := lt_of_heap D1.out
      have zI1 := lt_of_heap I1.out
      go_simp
      go_wp2_with fail
      refine (H8.out _).mono ?_
      rintro e V4 ⟨rfl, hb4⟩
      clear A1_0 A1_1 zA1 D1_0 D1_1 zD1 I1_0 I1_1 zI1
      have B4 : Hid (Below w.heap.size w V4) := by first | exact Lib.hid ((B3.out).trans (hb4.mono (by have := B3.out.size; first | assumption | (simp <;> omega) | (simp; done)))) | exact Lib.hid (((B3.out).alloc (B3.out.size) _).trans (hb4.mono (by have := B3.out.size; first | assumption | (simp <;> omega) | (simp; done)))) | exact Lib.hid ((((B3.out).alloc (B3.out.size) _).alloc (by have := B3.out.size; simp <;> omega) _).trans (hb4.mono (by have := B3.out.size; first | assumption | (simp <;> omega) | (simp; done)))) | exact Lib.hid (((((B3.out).alloc (B3.out.size) _).alloc (by have := B3.out.size; simp <;> omega) _).alloc (by have := B3.out.size; simp <;> omega) _).trans (hb4.mono (by have := B3.out.size; first | assumption | (simp <;> omega) | (simp; done))))
      first | replace A1 := Lib.hid (row_call hb4 A1.out) | replace A1 := Lib.hid (row_call hb4 (row_alloc A1.out _)) | replace A1 := Lib.hid (row_call hb4 (row_alloc (row_alloc A1.out _) _)) | replace A1 := Lib.hid (row_call hb4 (row_alloc (row_alloc (row_alloc A1.out _) _) _))
      first | replace D1 := Lib.hid (row_call hb4 D1.out) | replace D1 := Lib.hid (row_call hb4 (row_alloc D1.out _)) | replace D1 := Lib.hid (row_call hb4 (row_alloc (row_alloc D1.out _) _)) | replace D1 := Lib.hid (row_call hb4 (row_alloc (row_alloc (row_alloc D1.out _) _) _))
      first | replace I1 := Lib.hid (row_call hb4 I1.out) | replace I1 := Lib.hid (row_call hb4 (row_alloc I1.out _)) | replace I1 := Lib.hid (row_call hb4 (row_alloc (row_alloc I1.out _) _)) | replace I1 := Lib.hid (row_call hb4 (row_alloc (row_alloc (row_alloc I1.out _) _) _))
      clear hb4
      have A1_0 : V4.cell? ⟨w.heap.size, 0, none⟩ = some (.int .i64 s) := cell_of_row _ _ _ _ _ _ A1.out
      have A1_1 : V4.cell? ⟨w.heap.size, 1, none⟩ = some (.int .i64 n) := cell_of_row _ _ _ _ _ _ A1.out
      have D1_0 : V4.cell? ⟨w.heap.size + 1, 0, none⟩ = some (.int .i64 0) := cell_of_row _ _ _ _ _ _ D1.out
      have D1_1 : V4.cell? ⟨w.heap.size + 1, 1, none⟩ = some (.int .i64 0) := cell_of_row _ _ _ _ _ _ D1.out
      have I1_0 : V4.cell? ⟨V1.heap.size, 0, none⟩ = some (.int .i64 S) := cell_of_row _ _ _ _ _ _ I1.out
      have I1_1 : V4.cell? ⟨V1.heap.size, 1, none⟩ = some (.int .i64 N) := cell_of_row _ _ _ _ _ _ I1.out
      have zA1 := lt_of_heap A1.out
      have zD1 := lt_of_heap D1.out
      have zI1 := lt_of_heap I1.out
      go_simp
      go_wp2
      go_ret
      exact ⟨rfl, by first | exact B4.out | exact B4.out.alloc B4.out.size _⟩
    · by_cases hd : 0 ≤ d
      · obtain ⟨e1, e2⟩ := ad_up he hd hz
        rw [e1] at X2
        rw [e2] at X3
        have H1 := Lib.hid X1
        have H2 := Lib.hid X2
        have H3 := Lib.hid X3
        clear X1 X2 X3 e1 e2 he bs bn bd bm
        generalize adS s n d m = S at *
        generalize adN s n d m = N at *
        by_cases hd0 : d = 0
        · subst hd0
          have f1 : (m == 0) = false := by rw [beq_eq_false_iff_ne]; intro h; exact hz ⟨rfl, h⟩
          have f2 : ¬ m = 0 := fun h => hz ⟨rfl, h⟩
          clear hz hd
          go_enter Try.func8, Try.ntmps8
          go_wp2_with fail
          
          refine (H1.out _).mono ?_
          rintro e V1 ⟨rfl, hb1⟩
          have B1 := Lib.hid ((((Below.refl w.heap.size w).alloc (Nat.le_refl _) _).alloc (by simp <;> omega) _).trans (hb1.mono (by first | assumption | (simp <;> omega) | (simp; done))))
          have A1 := Lib.hid (row_call hb1 (row_alloc (heap_alloc_new _ _) _))
          have D1 := Lib.hid (row_at (k' := w.heap.size + 1) (by simp) (row_call hb1 (heap_alloc_new _ _)))
          clear hb1
          have A1_0 : V1.cell? ⟨w.heap.size, 0, none⟩ = some (.int .i64 s) := cell_of_row _ _ _ _ _ _ A1.out
          have A1_1 : V1.cell? ⟨w.heap.size, 1, none⟩ = some (.int .i64 n) := cell_of_row _ _ _ _ _ _ A1.out
          have D1_0 : V1.cell? ⟨w.heap.size + 1, 0, none⟩ = some (.int .i64 0) := cell_of_row _ _ _ _ _ _ D1.out
          have D1_1 : V1.cell? ⟨w.heap.size + 1, 1, none⟩ = some (.int .i64 m) := cell_of_row _ _ _ _ _ _ D1.out
          have zA1 := lt_of_heap A1.out
          have zD1 := lt_of_heap D1.out
          go_simp
          go_wp2_with fail
          refine (H2.out _).mono ?_
          rintro e V2 ⟨rfl, hb2⟩
          clear A1_0 A1_1 zA1 D1_0 D1_1 zD1
          have nA1I1 := Lib.hid (lt_of_heap A1.out)
          have nD1I1 := Lib.hid (lt_of_heap D1.out)
          have B2 := Lib.hid (((B1.out).alloc (B1.out.size) _).trans (hb2.mono (by have := B1.out.size; first | assumption | (simp <;> omega) | (simp; done))))
          replace A1 := Lib.hid (row_call hb2 (row_alloc A1.out _))
          replace D1 := Lib.hid (row_call hb2 (row_alloc D1.out _))
          have I1 := Lib.hid (row_call hb2 (heap_alloc_new _ _))
          clear hb2
          have A1_0 : V2.cell? ⟨w.heap.size, 0, none⟩ = some (.int .i64 s) := cell_of_row _ _ _ _ _ _ A1.out
          have A1_1 : V2.cell? ⟨w.heap.size, 1, none⟩ = some (.int .i64 n) := cell_of_row _ _ _ _ _ _ A1.out
          have D1_0 : V2.cell? ⟨w.heap.size + 1, 0, none⟩ = some (.int .i64 0) := cell_of_row _ _ _ _ _ _ D1.out
          have D1_1 : V2.cell? ⟨w.heap.size + 1, 1, none⟩ = some (.int .i64 m) := cell_of_row _ _ _ _ _ _ D1.out
          have I1_0 : V2.cell? ⟨V1.heap.size, 0, none⟩ = some (.int .i64 S) := cell_of_row _ _ _ _ _ _ I1.out
          have I1_1 : V2.cell? ⟨V1.heap.size, 1, none⟩ = some (.int .i64 N) := cell_of_row _ _ _ _ _ _ I1.out
          have zA1 := lt_of_heap A1.out
          have zD1 := lt_of_heap D1.out
          have zI1 := lt_of_heap I1.out
          go_simp
          go_wp2_with fail
          refine (H3.out _).mono ?_
          rintro e V3 ⟨rfl, hb3⟩
          clear A1_0 A1_1 zA1 D1_0 D1_1 zD1 I1_0 I1_1 zI1
          have B3 : Hid (Below w.heap.size w V3) := by first | exact Lib.hid ((B2.out).trans (hb3.mono (by have := B2.out.size; first | assumption | (simp <;> omega) | (simp; done)))) | exact Lib.hid (((B2.out).alloc (B2.out.size) _).trans (hb3.mono (by have := B2.out.size; first | assumption | (simp <;> omega) | (simp; done)))) | exact Lib.hid ((((B2.out).alloc (B2.out.size) _).alloc (by have := B2.out.size; simp <;> omega) _).trans (hb3.mono (by have := B2.out.size; first | assumption | (simp <;> omega) | (simp; done)))) | exact Lib.hid (((((B2.out).alloc (B2.out.size) _).alloc (by have := B2.out.size; simp <;> omega) _).alloc (by have := B2.out.size; simp <;> omega) _).trans (hb3.mono (by have := B2.out.size; first | assumption | (simp <;> omega) | (simp; done))))
          first | replace A1 := Lib.hid (row_call hb3 A1.out) | replace A1 := Lib.hid (row_call hb3 (row_alloc A1.out _)) | replace A1 := Lib.hid (row_call hb3 (row_alloc (row_alloc A1.out _) _)) | replace A1 := Lib.hid (row_call hb3 (row_alloc (row_alloc (row_alloc A1.out _) _) _))
          first | replace D1 := Lib.hid (row_call hb3 D1.out) | replace D1 := Lib.hid (row_call hb3 (row_alloc D1.out _)) | replace D1 := Lib.hid (row_call hb3 (row_alloc (row_alloc D1.out _) _)) | replace D1 := Lib.hid (row_call hb3 (row_alloc (row_alloc (row_alloc D1.out _) _) _))
          first | replace I1 := Lib.hid (row_call hb3 I1.out) | replace I1 := Lib.hid (row_call hb3 (row_alloc I1.out _)) | replace I1 := Lib.hid (row_call hb3 (row_alloc (row_alloc I1.out _) _)) | replace I1 := Lib.hid (row_call hb3 (row_alloc (row_alloc (row_alloc I1.out _) _) _))
          clear hb3
          have A1_0 : V3.cell? ⟨w.heap.size, 0, none⟩ = some (.int .i64 s) := cell_of_row _ _ _ _ _ _ A1.out
          have A1_1 : V3.cell? ⟨w.heap.size, 1, none⟩ = some (.int .i64 n) := cell_of_row _ _ _ _ _ _ A1.out
          have D1_0 : V3.cell? ⟨w.heap.size + 1, 0, none⟩ = some (.int .i64 0) := cell_of_row _ _ _ _ _ _ D1.out
          have D1_1 : V3.cell? ⟨w.heap.size + 1, 1, none⟩ = some (.int .i64 m) := cell_of_row _ _ _ _ _ _ D1.out
          have I1_0 : V3.cell? ⟨V1.heap.size, 0, none⟩ = some (.int .i64 S) := cell_of_row _ _ _ _ _ _ I1.out
          have I1_1 : V3.cell? ⟨V1.heap.size, 1, none⟩ = some (.int .i64 N) := cell_of_row _ _ _ _ _ _ I1.out
          have zA1 := lt_of_heap A1.out
          have zD1 := lt_of_heap D1.out
          have zI1 := lt_of_heap I1.out
          go_simp
          go_wp2_with fail
          refine (H8.out _).mono ?_
          rintro e V4 ⟨rfl, hb4⟩
          clear A1_0 A1_1 zA1 D1_0 D1_1 zD1 I1_0 I1_1 zI1
          have B4 : Hid (Below w.heap.size w V4) := by first | exact Lib.hid ((B3.out).trans (hb4.mono (by have := B3.out.size; first | assumption | (simp <;> omega) | (simp; done)))) | exact Lib.hid (((B3.out).alloc (B3.out.size) _).trans (hb4.mono (by have := B3.out.size; first | assumption | (simp <;> omega) | (simp; done)))) | exact Lib.hid ((((B3.out).alloc (B3.out.size) _).alloc (by have := B3.out.size; simp <;> omega) _).trans (hb4.mono (by have := B3.out.size; first | assumption | (simp <;> omega) | (simp; done)))) | exact Lib.hid (((((B3.out).alloc (B3.out.size) _).alloc (by have := B3.out.size; simp <;> omega) _).alloc (by have := B3.out.size; simp <;> omega) _).trans (hb4.mono (by have := B3.out.size; first | assumption | (simp <;> omega) | (simp; done))))
          first | replace A1 := Lib.hid (row_call hb4 A1.out) | replace A1 := Lib.hid (row_call hb4 (row_alloc A1.out _)) | replace A1 := Lib.hid (row_call hb4 (row_alloc (row_alloc A1.out _) _)) | replace A1 := Lib.hid (row_call hb4 (row_alloc (row_alloc (row_alloc A1.out _) _) _))
          first | replace D1 := Lib.hid (row_call hb4 D1.out) | replace D1 := Lib.hid (row_call hb4 (row_alloc D1.out _)) | replace D1 := Lib.hid (row_call hb4 (row_alloc (row_alloc D1.out _) _)) | replace D1 := Lib.hid (row_call hb4 (row_alloc (row_alloc (row_alloc D1.out _) _) _))
          first | replace I1 := Lib.hid (row_call hb4 I1.out) | replace I1 := Lib.hid (row_call hb4 (row_alloc I1.out _)) | replace I1 := Lib.hid (row_call hb4 (row_alloc (row_alloc I1.out _) _)) | replace I1 := Lib.hid (row_call hb4 (row_alloc (row_alloc (row_alloc I1.out _) _) _))
          clear hb4
          have A1_0 : V4.cell? ⟨w.heap.size, 0, none⟩ = some (.int .i64 s) := cell_of_row _ _ _ _ _ _ A1.out
          have A1_1 : V4.cell? ⟨w.heap.size, 1, none⟩ = some (.int .i64 n) := cell_of_row _ _ _ _ _ _ A1.out
          have D1_0 : V4.cell? ⟨w.heap.size + 1, 0, none⟩ = some (.int .i64 0) := cell_of_row _ _ _ _ _ _ D1.out
          have D1_1 : V4.cell? ⟨w.heap.size + 1, 1, none⟩ = some (.int .i64 m) := cell_of_row _ _ _ _ _ _ D1.out
          have I1_0 : V4.cell? ⟨V1.heap.size, 0, none⟩ = some (.int .i64 S) := cell_of_row _ _ _ _ _ _ I1.out
          have I1_1 : V4.cell? ⟨V1.heap.size, 1, none⟩ = some (.int .i64 N) := cell_of_row _ _ _ _ _ _ I1.out
          have zA1 := lt_of_heap A1.out
          have zD1 := lt_of_heap D1.out
          have zI1 := lt_of_heap I1.out
          go_simp
          go_wp2
          go_ret
          exact ⟨rfl, by first | exact B4.out | exact B4.out.alloc B4.out.size _⟩
        · have f1 : (d == 0) = false := by rw [beq_eq_false_iff_ne]; exact hd0
          clear hz
          go_enter Try.func8, Try.ntmps8
          go_wp2_with fail
          
          refine (H1.out _).mono ?_
          rintro e V1 ⟨rfl, hb1⟩
          have B1 := Lib.hid ((((Below.refl w.heap.size w).alloc (Nat.le_refl _) _).alloc (by simp <;> omega) _).trans (hb1.mono (by first | assumption | (simp <;> omega) | (simp; done))))
          have A1 := Lib.hid (row_call hb1 (row_alloc (heap_alloc_new _ _) _))
          have D1 := Lib.hid (row_at (k' := w.heap.size + 1) (by simp) (row_call hb1 (heap_alloc_new _ _)))
          clear hb1
          have A1_0 : V1.cell? ⟨w.heap.size, 0, none⟩ = some (.int .i64 s) := cell_of_row _ _ _ _ _ _ A1.out
          have A1_1 : V1.cell? ⟨w.heap.size, 1, none⟩ = some (.int .i64 n) := cell_of_row _ _ _ _ _ _ A1.out
          have D1_0 : V1.cell? ⟨w.heap.size + 1, 0, none⟩ = some (.int .i64 d) := cell_of_row _ _ _ _ _ _ D1.out
          have D1_1 : V1.cell? ⟨w.heap.size + 1, 1, none⟩ = some (.int .i64 m) := cell_of_row _ _ _ _ _ _ D1.out
          have zA1 := lt_of_heap A1.out
          have zD1 := lt_of_heap D1.out
          go_simp
          go_wp2_with fail
          refine (H2.out _).mono ?_
          rintro e V2 ⟨rfl, hb2⟩
          clear A1_0 A1_1 zA1 D1_0 D1_1 zD1
          have nA1I1 := Lib.hid (lt_of_heap A1.out)
          have nD1I1 := Lib.hid (lt_of_heap D1.out)
          have B2 := Lib.hid (((B1.out).alloc (B1.out.size) _).trans (hb2.mono (by have := B1.out.size; first | assumption | (simp <;> omega) | (simp; done))))
          replace A1 := Lib.hid (row_call hb2 (row_alloc A1.out _))
          replace D1 := Lib.hid (row_call hb2 (row_alloc D1.out _))
          have I1 := Lib.hid (row_call hb2 (heap_alloc_new _ _))
          clear hb2
          have A1_0 : V2.cell? ⟨w.heap.size, 0, none⟩ = some (.int .i64 s) := cell_of_row _ _ _ _ _ _ A1.out
          have A1_1 : V2.cell? ⟨w.heap.size, 1, none⟩ = some (.int .i64 n) := cell_of_row _ _ _ _ _ _ A1.out
          have D1_0 : V2.cell? ⟨w.heap.size + 1, 0, none⟩ = some (.int .i64 d) := cell_of_row _ _ _ _ _ _ D1.out
          have D1_1 : V2.cell? ⟨w.heap.size + 1, 1, none⟩ = some (.int .i64 m) := cell_of_row _ _ _ _ _ _ D1.out
          have I1_0 : V2.cell? ⟨V1.heap.size, 0, none⟩ = some (.int .i64 S) := cell_of_row _ _ _ _ _ _ I1.out
          have I1_1 : V2.cell? ⟨V1.heap.size, 1, none⟩ = some (.int .i64 N) := cell_of_row _ _ _ _ _ _ I1.out
          have zA1 := lt_of_heap A1.out
          have zD1 := lt_of_heap D1.out
          have zI1 := lt_of_heap I1.out
          go_simp
          go_wp2_with fail
          refine (H3.out _).mono ?_
          rintro e V3 ⟨rfl, hb3⟩
          clear A1_0 A1_1 zA1 D1_0 D1_1 zD1 I1_0 I1_1 zI1
          have B3 : Hid (Below w.heap.size w V3) := by first | exact Lib.hid ((B2.out).trans (hb3.mono (by have := B2.out.size; first | assumption | (simp <;> omega) | (simp; done)))) | exact Lib.hid (((B2.out).alloc (B2.out.size) _).trans (hb3.mono (by have := B2.out.size; first | assumption | (simp <;> omega) | (simp; done)))) | exact Lib.hid ((((B2.out).alloc (B2.out.size) _).alloc (by have := B2.out.size; simp <;> omega) _).trans (hb3.mono (by have := B2.out.size; first | assumption | (simp <;> omega) | (simp; done)))) | exact Lib.hid (((((B2.out).alloc (B2.out.size) _).alloc (by have := B2.out.size; simp <;> omega) _).alloc (by have := B2.out.size; simp <;> omega) _).trans (hb3.mono (by have := B2.out.size; first | assumption | (simp <;> omega) | (simp; done))))
          first | replace A1 := Lib.hid (row_call hb3 A1.out) | replace A1 := Lib.hid (row_call hb3 (row_alloc A1.out _)) | replace A1 := Lib.hid (row_call hb3 (row_alloc (row_alloc A1.out _) _)) | replace A1 := Lib.hid (row_call hb3 (row_alloc (row_alloc (row_alloc A1.out _) _) _))
          first | replace D1 := Lib.hid (row_call hb3 D1.out) | replace D1 := Lib.hid (row_call hb3 (row_alloc D1.out _)) | replace D1 := Lib.hid (row_call hb3 (row_alloc (row_alloc D1.out _) _)) | replace D1 := Lib.hid (row_call hb3 (row_alloc (row_alloc (row_alloc D1.out _) _) _))
          first | replace I1 := Lib.hid (row_call hb3 I1.out) | replace I1 := Lib.hid (row_call hb3 (row_alloc I1.out _)) | replace I1 := Lib.hid (row_call hb3 (row_alloc (row_alloc I1.out _) _)) | replace I1 := Lib.hid (row_call hb3 (row_alloc (row_alloc (row_alloc I1.out _) _) _))
          clear hb3
          have A1_0 : V3.cell? ⟨w.heap.size, 0, none⟩ = some (.int .i64 s) := cell_of_row _ _ _ _ _ _ A1.out
          have A1_1 : V3.cell? ⟨w.heap.size, 1, none⟩ = some (.int .i64 n) := cell_of_row _ _ _ _ _ _ A1.out
          have D1_0 : V3.cell? ⟨w.heap.size + 1, 0, none⟩ = some (.int .i64 d) := cell_of_row _ _ _ _ _ _ D1.out
          have D1_1 : V3.cell? ⟨w.heap.size + 1, 1, none⟩ = some (.int .i64 m) := cell_of_row _ _ _ _ _ _ D1.out
          have I1_0 : V3.cell? ⟨V1.heap.size, 0, none⟩ = some (.int .i64 S) := cell_of_row _ _ _ _ _ _ I1.out
          have I1_1 : V3.cell? ⟨V1.heap.size, 1, none⟩ = some (.int .i64 N) := cell_of_row _ _ _ _ _ _ I1.out
          have zA1 := lt_of_heap A1.out
          have zD1 := lt_of_heap D1.out
          have zI1 := lt_of_heap I1.out
          go_simp
          go_wp2_with fail
          refine (H8.out _).mono ?_
          rintro e V4 ⟨rfl, hb4⟩
          clear A1_0 A1_1 zA1 D1_0 D1_1 zD1 I1_0 I1_1 zI1
          have B4 : Hid (Below w.heap.size w V4) := by first | exact Lib.hid ((B3.out).trans (hb4.mono (by have := B3.out.size; first | assumption | (simp <;> omega) | (simp; done)))) | exact Lib.hid (((B3.out).alloc (B3.out.size) _).trans (hb4.mono (by have := B3.out.size; first | assumption | (simp <;> omega) | (simp; done)))) | exact Lib.hid ((((B3.out).alloc (B3.out.size) _).alloc (by have := B3.out.size; simp <;> omega) _).trans (hb4.mono (by have := B3.out.size; first | assumption | (simp <;> omega) | (simp; done)))) | exact Lib.hid (((((B3.out).alloc (B3.out.size) _).alloc (by have := B3.out.size; simp <;> omega) _).alloc (by have := B3.out.size; simp <;> omega) _).trans (hb4.mono (by have := B3.out.size; first | assumption | (simp <;> omega) | (simp; done))))
          first | replace A1 := Lib.hid (row_call hb4 A1.out) | replace A1 := Lib.hid (row_call hb4 (row_alloc A1.out _)) | replace A1 := Lib.hid (row_call hb4 (row_alloc (row_alloc A1.out _) _)) | replace A1 := Lib.hid (row_call hb4 (row_alloc (row_alloc (row_alloc A1.out _) _) _))
          first | replace D1 := Lib.hid (row_call hb4 D1.out) | replace D1 := Lib.hid (row_call hb4 (row_alloc D1.out _)) | replace D1 := Lib.hid (row_call hb4 (row_alloc (row_alloc D1.out _) _)) | replace D1 := Lib.hid (row_call hb4 (row_alloc (row_alloc (row_alloc D1.out _) _) _))
          first | replace I1 := Lib.hid (row_call hb4 I1.out) | replace I1 := Lib.hid (row_call hb4 (row_alloc I1.out _)) | replace I1 := Lib.hid (row_call hb4 (row_alloc (row_alloc I1.out _) _)) | replace I1 := Lib.hid (row_call hb4 (row_alloc (row_alloc (row_alloc I1.out _) _) _))
          clear hb4
          have A1_0 : V4.cell? ⟨w.heap.size, 0, none⟩ = some (.int .i64 s) := cell_of_row _ _ _ _ _ _ A1.out
          have A1_1 : V4.cell? ⟨w.heap.size, 1, none⟩ = some (.int .i64 n) := cell_of_row _ _ _ _ _ _ A1.out
          have D1_0 : V4.cell? ⟨w.heap.size + 1, 0, none⟩ = some (.int .i64 d) := cell_of_row _ _ _ _ _ _ D1.out
          have D1_1 : V4.cell? ⟨w.heap.size + 1, 1, none⟩ = some (.int .i64 m) := cell_of_row _ _ _ _ _ _ D1.out
          have I1_0 : V4.cell? ⟨V1.heap.size, 0, none⟩ = some (.int .i64 S) := cell_of_row _ _ _ _ _ _ I1.out
          have I1_1 : V4.cell? ⟨V1.heap.size, 1, none⟩ = some (.int .i64 N) := cell_of_row _ _ _ _ _ _ I1.out
          have zA1 := lt_of_heap A1.out
          have zD1 := lt_of_heap D1.out
          have zI1 := lt_of_heap I1.out
          go_simp
          go_wp2
          go_ret
          exact ⟨rfl, by first | exact B4.out | exact B4.out.alloc B4.out.size _⟩
      · obtain ⟨e1, e2⟩ := ad_down he (by omega)
        rw [e1] at X2
        rw [e2] at X3
        have H1 := Lib.hid X1
        have H2 := Lib.hid X2
        have H3 := Lib.hid X3
        have f1 : (d == 0) = false := by rw [beq_eq_false_iff_ne]; omega
        have f2 : ¬ d = 0 := by omega
        clear X1 X2 X3 e1 e2 he bs bn bd bm hz
        generalize adS s n d m = S at *
        generalize adN s n d m = N at *
        go_enter Try.func8, Try.ntmps8
        go_wp2_with fail
        
        refine (H1.out _).mono ?_
        rintro e V1 ⟨rfl, hb1⟩
        have B1 := Lib.hid ((((Below.refl w.heap.size w).alloc (Nat.le_refl _) _).alloc (by simp <;> omega) _).trans (hb1.mono (by first | assumption | (simp <;> omega) | (simp; done))))
        have A1 := Lib.hid (row_call hb1 (row_alloc (heap_alloc_new _ _) _))
        have D1 := Lib.hid (row_at (k' := w.heap.size + 1) (by simp) (row_call hb1 (heap_alloc_new _ _)))
        clear hb1
        have A1_0 : V1.cell? ⟨w.heap.size, 0, none⟩ = some (.int .i64 s) := cell_of_row _ _ _ _ _ _ A1.out
        have A1_1 : V1.cell? ⟨w.heap.size, 1, none⟩ = some (.int .i64 n) := cell_of_row _ _ _ _ _ _ A1.out
        have D1_0 : V1.cell? ⟨w.heap.size + 1, 0, none⟩ = some (.int .i64 d) := cell_of_row _ _ _ _ _ _ D1.out
        have D1_1 : V1.cell? ⟨w.heap.size + 1, 1, none⟩ = some (.int .i64 m) := cell_of_row _ _ _ _ _ _ D1.out
        have zA1 := lt_of_heap A1.out
        have zD1 := lt_of_heap D1.out
        go_simp
        go_wp2_with fail
        refine (H2.out _).mono ?_
        rintro e V2 ⟨rfl, hb2⟩
        clear A1_0 A1_1 zA1 D1_0 D1_1 zD1
        have nA1I1 := Lib.hid (lt_of_heap A1.out)
        have nD1I1 := Lib.hid (lt_of_heap D1.out)
        have B2 := Lib.hid (((B1.out).alloc (B1.out.size) _).trans (hb2.mono (by have := B1.out.size; first | assumption | (simp <;> omega) | (simp; done))))
        replace A1 := Lib.hid (row_call hb2 (row_alloc A1.out _))
        replace D1 := Lib.hid (row_call hb2 (row_alloc D1.out _))
        have I1 := Lib.hid (row_call hb2 (heap_alloc_new _ _))
        clear hb2
        have A1_0 : V2.cell? ⟨w.heap.size, 0, none⟩ = some (.int .i64 s) := cell_of_row _ _ _ _ _ _ A1.out
        have A1_1 : V2.cell? ⟨w.heap.size, 1, none⟩ = some (.int .i64 n) := cell_of_row _ _ _ _ _ _ A1.out
        have D1_0 : V2.cell? ⟨w.heap.size + 1, 0, none⟩ = some (.int .i64 d) := cell_of_row _ _ _ _ _ _ D1.out
        have D1_1 : V2.cell? ⟨w.heap.size + 1, 1, none⟩ = some (.int .i64 m) := cell_of_row _ _ _ _ _ _ D1.out
        have I1_0 : V2.cell? ⟨V1.heap.size, 0, none⟩ = some (.int .i64 S) := cell_of_row _ _ _ _ _ _ I1.out
        have I1_1 : V2.cell? ⟨V1.heap.size, 1, none⟩ = some (.int .i64 N) := cell_of_row _ _ _ _ _ _ I1.out
        have zA1 := lt_of_heap A1.out
        have zD1 := lt_of_heap D1.out
        have zI1 := lt_of_heap I1.out
        go_simp
        go_wp2_with fail
        refine (H3.out _).mono ?_
        rintro e V3 ⟨rfl, hb3⟩
        clear A1_0 A1_1 zA1 D1_0 D1_1 zD1 I1_0 I1_1 zI1
        have B3 : Hid (Below w.heap.size w V3) := by first | exact Lib.hid ((B2.out).trans (hb3.mono (by have := B2.out.size; first | assumption | (simp <;> omega) | (simp; done)))) | exact Lib.hid (((B2.out).alloc (B2.out.size) _).trans (hb3.mono (by have := B2.out.size; first | assumption | (simp <;> omega) | (simp; done)))) | exact Lib.hid ((((B2.out).alloc (B2.out.size) _).alloc (by have := B2.out.size; simp <;> omega) _).trans (hb3.mono (by have := B2.out.size; first | assumption | (simp <;> omega) | (simp; done)))) | exact Lib.hid (((((B2.out).alloc (B2.out.size) _).alloc (by have := B2.out.size; simp <;> omega) _).alloc (by have := B2.out.size; simp <;> omega) _).trans (hb3.mono (by have := B2.out.size; first | assumption | (simp <;> omega) | (simp; done))))
        first | replace A1 := Lib.hid (row_call hb3 A1.out) | replace A1 := Lib.hid (row_call hb3 (row_alloc A1.out _)) | replace A1 := Lib.hid (row_call hb3 (row_alloc (row_alloc A1.out _) _)) | replace A1 := Lib.hid (row_call hb3 (row_alloc (row_alloc (row_alloc A1.out _) _) _))
        first | replace D1 := Lib.hid (row_call hb3 D1.out) | replace D1 := Lib.hid (row_call hb3 (row_alloc D1.out _)) | replace D1 := Lib.hid (row_call hb3 (row_alloc (row_alloc D1.out _) _)) | replace D1 := Lib.hid (row_call hb3 (row_alloc (row_alloc (row_alloc D1.out _) _) _))
        first | replace I1 := Lib.hid (row_call hb3 I1.out) | replace I1 := Lib.hid (row_call hb3 (row_alloc I1.out _)) | replace I1 := Lib.hid (row_call hb3 (row_alloc (row_alloc I1.out _) _)) | replace I1 := Lib.hid (row_call hb3 (row_alloc (row_alloc (row_alloc I1.out _) _) _))
        clear hb3
        have A1_0 : V3.cell? ⟨w.heap.size, 0, none⟩ = some (.int .i64 s) := cell_of_row _ _ _ _ _ _ A1.out
        have A1_1 : V3.cell? ⟨w.heap.size, 1, none⟩ = some (.int .i64 n) := cell_of_row _ _ _ _ _ _ A1.out
        have D1_0 : V3.cell? ⟨w.heap.size + 1, 0, none⟩ = some (.int .i64 d) := cell_of_row _ _ _ _ _ _ D1.out
        have D1_1 : V3.cell? ⟨w.heap.size + 1, 1, none⟩ = some (.int .i64 m) := cell_of_row _ _ _ _ _ _ D1.out
        have I1_0 : V3.cell? ⟨V1.heap.size, 0, none⟩ = some (.int .i64 S) := cell_of_row _ _ _ _ _ _ I1.out
        have I1_1 : V3.cell? ⟨V1.heap.size, 1, none⟩ = some (.int .i64 N) := cell_of_row _ _ _ _ _ _ I1.out
        have zA1 := lt_of_heap A1.out
        have zD1 := lt_of_heap D1.out
        have zI1 := lt_of_heap I1.out
        go_simp
        go_wp2_with fail
        refine (H8.out _).mono ?_
        rintro e V4 ⟨rfl, hb4⟩
        clear A1_0 A1_1 zA1 D1_0 D1_1 zD1 I1_0 I1_1 zI1
        have B4 : Hid (Below w.heap.size w V4) := by first | exact Lib.hid ((B3.out).trans (hb4.mono (by have := B3.out.size; first | assumption | (simp <;> omega) | (simp; done)))) | exact Lib.hid (((B3.out).alloc (B3.out.size) _).trans (hb4.mono (by have := B3.out.size; first | assumption | (simp <;> omega) | (simp; done)))) | exact Lib.hid ((((B3.out).alloc (B3.out.size) _).alloc (by have := B3.out.size; simp <;> omega) _).trans (hb4.mono (by have := B3.out.size; first | assumption | (simp <;> omega) | (simp; done)))) | exact Lib.hid (((((B3.out).alloc (B3.out.size) _).alloc (by have := B3.out.size; simp <;> omega) _).alloc (by have := B3.out.size; simp <;> omega) _).trans (hb4.mono (by have := B3.out.size; first | assumption | (simp <;> omega) | (simp; done))))
        first | replace A1 := Lib.hid (row_call hb4 A1.out) | replace A1 := Lib.hid (row_call hb4 (row_alloc A1.out _)) | replace A1 := Lib.hid (row_call hb4 (row_alloc (row_alloc A1.out _) _)) | replace A1 := Lib.hid (row_call hb4 (row_alloc (row_alloc (row_alloc A1.out _) _) _))
        first | replace D1 := Lib.hid (row_call hb4 D1.out) | replace D1 := Lib.hid (row_call hb4 (row_alloc D1.out _)) | replace D1 := Lib.hid (row_call hb4 (row_alloc (row_alloc D1.out _) _)) | replace D1 := Lib.hid (row_call hb4 (row_alloc (row_alloc (row_alloc D1.out _) _) _))
        first | replace I1 := Lib.hid (row_call hb4 I1.out) | replace I1 := Lib.hid (row_call hb4 (row_alloc I1.out _)) | replace I1 := Lib.hid (row_call hb4 (row_alloc (row_alloc I1.out _) _)) | replace I1 := Lib.hid (row_call hb4 (row_alloc (row_alloc (row_alloc I1.out _) _) _))
        clear hb4
        have A1_0 : V4.cell? ⟨w.heap.size, 0, none⟩ = some (.int .i64 s) := cell_of_row _ _ _ _ _ _ A1.out
        have A1_1 : V4.cell? ⟨w.heap.size, 1, none⟩ = some (.int .i64 n) := cell_of_row _ _ _ _ _ _ A1.out
        have D1_0 : V4.cell? ⟨w.heap.size + 1, 0, none⟩ = some (.int .i64 d) := cell_of_row _ _ _ _ _ _ D1.out
        have D1_1 : V4.cell? ⟨w.heap.size + 1, 1, none⟩ = some (.int .i64 m) := cell_of_row _ _ _ _ _ _ D1.out
        have I1_0 : V4.cell? ⟨V1.heap.size, 0, none⟩ = some (.int .i64 S) := cell_of_row _ _ _ _ _ _ I1.out
        have I1_1 : V4.cell? ⟨V1.heap.size, 1, none⟩ = some (.int .i64 N) := cell_of_row _ _ _ _ _ _ I1.out
        have zA1 := lt_of_heap A1.out
        have zD1 := lt_of_heap D1.out
        have zI1 := lt_of_heap I1.out
        go_simp
        go_wp2
        go_ret
        exact ⟨rfl, by first | exact B4.out | exact B4.out.alloc B4.out.size _⟩
  · have f1 : (adE s n d m != 0) = true := by rw [bne_iff_ne]; exact he
    have H1 := Lib.hid X1
    clear X1 X2 X3 bs bn bd bm he
    generalize adS s n d m = S at *
    generalize adN s n d m = N at *
    generalize adE s n d m = E at *
    go_enter Try.func8, Try.ntmps8
    go_wp2_with fail
    
    refine (H1.out _).mono ?_
    rintro e V1 ⟨rfl, hb1⟩
    have B1 := Lib.hid ((((Below.refl w.heap.size w).alloc (Nat.le_refl _) _).alloc (by simp <;> omega) _).trans (hb1.mono (by first | assumption | (simp <;> omega) | (simp; done))))
    have A1 := Lib.hid (row_call hb1 (row_alloc (heap_alloc_new _ _) _))
    have D1 := Lib.hid (row_at (k' := w.heap.size + 1) (by simp) (row_call hb1 (heap_alloc_new _ _)))
    clear hb1
    have A1_0 : V1.cell? ⟨w.heap.size, 0, none⟩ = some (.int .i64 s) := cell_of_row _ _ _ _ _ _ A1.out
    have A1_1 : V1.cell? ⟨w.heap.size, 1, none⟩ = some (.int .i64 n) := cell_of_row _ _ _ _ _ _ A1.out
    have D1_0 : V1.cell? ⟨w.heap.size + 1, 0, none⟩ = some (.int .i64 d) := cell_of_row _ _ _ _ _ _ D1.out
    have D1_1 : V1.cell? ⟨w.heap.size + 1, 1, none⟩ = some (.int .i64 m) := cell_of_row _ _ _ _ _ _ D1.out
    have zA1 := lt_of_heap A1.out
    have zD1 := lt_of_heap D1.out
    go_simp
    go_wp2_with fail
    refine (H8.out _).mono ?_
    rintro e V2 ⟨rfl, hb2⟩
    clear A1_0 A1_1 zA1 D1_0 D1_1 zD1
    have nA1I1 := Lib.hid (lt_of_heap A1.out)
    have nD1I1 := Lib.hid (lt_of_heap D1.out)
    have B2 := Lib.hid (((B1.out).alloc (B1.out.size) _).trans (hb2.mono (by have := B1.out.size; first | assumption | (simp <;> omega) | (simp; done))))
    replace A1 := Lib.hid (row_call hb2 (row_alloc A1.out _))
    replace D1 := Lib.hid (row_call hb2 (row_alloc D1.out _))
    have I1 := Lib.hid (row_call hb2 (heap_alloc_new _ _))
    clear hb2
    have A1_0 : V2.cell? ⟨w.heap.size, 0, none⟩ = some (.int .i64 s) := cell_of_row _ _ _ _ _ _ A1.out
    have A1_1 : V2.cell? ⟨w.heap.size, 1, none⟩ = some (.int .i64 n) := cell_of_row _ _ _ _ _ _ A1.out
    have D1_0 : V2.cell? ⟨w.heap.size + 1, 0, none⟩ = some (.int .i64 d) := cell_of_row _ _ _ _ _ _ D1.out
    have D1_1 : V2.cell? ⟨w.heap.size + 1, 1, none⟩ = some (.int .i64 m) := cell_of_row _ _ _ _ _ _ D1.out
    have I1_0 : V2.cell? ⟨V1.heap.size, 0, none⟩ = some (.int .i64 S) := cell_of_row _ _ _ _ _ _ I1.out
    have I1_1 : V2.cell? ⟨V1.heap.size, 1, none⟩ = some (.int .i64 N) := cell_of_row _ _ _ _ _ _ I1.out
    have zA1 := lt_of_heap A1.out
    have zD1 := lt_of_heap D1.out
    have zI1 := lt_of_heap I1.out
    go_simp
    go_wp2
    go_ret
    exact ⟨rfl, by first | exact B2.out | exact B2.out.alloc B2.out.size _⟩
end Go.Proofs.Ytlpbkdihjpceoaa
