/- Contracts of package checked's division, whole. -/
import Derived.Test.YtkmhebfahfaokaaChkC
namespace Go.Proofs.Ytkmhebfahfaokaa
set_option linter.unusedVariables false
set_option linter.unusedSimpArgs false
open Go.ChangeShapes Go.WideShapes Go.ChangeAt Go.RowKit

theorem ediv_uniq {n d k r : Int} (hd : 0 < d) (h : n = d * k + r) (h0 : 0 ≤ r) (h1 : r < d) : n / d = k :=
  ((Int.ediv_emod_unique hd).2 ⟨by omega, h0, h1⟩).1
theorem neg_div0 {m d : Nat} (hd : 0 < d) (h : m % d = 0) : -(m : Int) / (d : Int) = -((m / d : Nat) : Int) := by
  have e := Nat.div_add_mod m d
  refine ediv_uniq (r := 0) (by omega) ?_ (by omega) (by omega)
  rw [Int.mul_neg]
  have : ((d * (m / d) : Nat) : Int) = (d : Int) * ((m / d : Nat) : Int) := Int.natCast_mul _ _
  omega
theorem neg_div1 {m d : Nat} (hd : 0 < d) (h : ¬ m % d = 0) : -(m : Int) / (d : Int) = -(((m / d : Nat) : Int) + 1) := by
  have e := Nat.div_add_mod m d
  have hr := Nat.mod_lt m hd
  refine ediv_uniq (r := (d : Int) - ((m % d : Nat) : Int)) (by omega) ?_ (by omega) (by omega)
  rw [Int.mul_neg, Int.mul_add, Int.mul_one]
  have : ((d * (m / d) : Nat) : Int) = (d : Int) * ((m / d : Nat) : Int) := Int.natCast_mul _ _
  omega
/-- n and c by their amounts and signs. -/
structure SG (n c : Int) (m d : Nat) (p z : Bool) : Prop where
  n1 : p = true → n = (m : Int)
  n0 : p = false → n = -(m : Int)
  c1 : z = true → c = -(d : Int)
  c0 : z = false → c = (d : Int)
  d : 0 < d
theorem SG.up {n c : Int} {m d : Nat} {p z : Bool} (h : SG n c m d p z) (e : ((!p) == z) = true) : fq n c = ((m / d : Nat) : Int) ∧ fr n c = sg c (m % d) := by
  have hd := h.d
  have e1 := Nat.div_add_mod m d
  have e2 : ((d * (m / d) : Nat) : Int) = (d : Int) * ((m / d : Nat) : Int) := Int.natCast_mul _ _
  have e3 : ((m / d : Nat) : Int) = (m : Int) / (d : Int) := Int.natCast_ediv _ _
  cases p <;> cases z
  · cases e
  · have hn := h.n0 rfl; have hc := h.c1 rfl
    have q : fq n c = ((m / d : Nat) : Int) := by unfold fq; rw [hn, hc, if_neg (by omega), Int.neg_neg, Int.neg_neg, e3]
    refine ⟨q, ?_⟩
    unfold fr sg
    rw [q, hn, hc, if_pos (by omega), Int.neg_mul]
    omega
  · have hn := h.n1 rfl; have hc := h.c0 rfl
    have q : fq n c = ((m / d : Nat) : Int) := by unfold fq; rw [hn, hc, if_pos (by omega), e3]
    refine ⟨q, ?_⟩
    unfold fr sg
    rw [q, hn, hc, if_neg (by omega)]
    omega
  · cases e
theorem SG.zero {n c : Int} {m d : Nat} {p z : Bool} (h : SG n c m d p z) (e : ((!p) == z) = false) (hr : m % d = 0) : fq n c = -((m / d : Nat) : Int) ∧ fr n c = sg c (m % d) := by
  have hd := h.d
  have e1 := Nat.div_add_mod m d
  have e2 : ((d * (m / d) : Nat) : Int) = (d : Int) * ((m / d : Nat) : Int) := Int.natCast_mul _ _
  have e3 := neg_div0 hd hr
  cases p <;> cases z
  · have hn := h.n0 rfl; have hc := h.c0 rfl
    have q : fq n c = -((m / d : Nat) : Int) := by unfold fq; rw [hn, hc, if_pos (by omega), e3]
    refine ⟨q, ?_⟩
    unfold fr sg
    rw [q, hn, hc, if_neg (by omega), Int.mul_neg]
    omega
  · cases e
  · cases e
  · have hn := h.n1 rfl; have hc := h.c1 rfl
    have q : fq n c = -((m / d : Nat) : Int) := by unfold fq; rw [hn, hc, if_neg (by omega), Int.neg_neg, e3]
    refine ⟨q, ?_⟩
    unfold fr sg
    rw [q, hn, hc, if_pos (by omega), Int.neg_mul_neg]
    omega
theorem SG.down {n c : Int} {m d : Nat} {p z : Bool} (h : SG n c m d p z) (e : ((!p) == z) = false) (hr : ¬ m % d = 0) : fq n c = -(((m / d : Nat) : Int) + 1) ∧ fr n c = sg c (d - m % d) := by
  have hd := h.d
  have e1 := Nat.div_add_mod m d
  have e4 := Nat.mod_lt m hd
  have e2 : ((d * (m / d) : Nat) : Int) = (d : Int) * ((m / d : Nat) : Int) := Int.natCast_mul _ _
  have e3 := neg_div1 hd hr
  cases p <;> cases z
  · have hn := h.n0 rfl; have hc := h.c0 rfl
    have q : fq n c = -(((m / d : Nat) : Int) + 1) := by unfold fq; rw [hn, hc, if_pos (by omega), e3]
    refine ⟨q, ?_⟩
    unfold fr sg
    rw [q, hn, hc, if_neg (by omega), Int.mul_neg, Int.mul_add, Int.mul_one]
    omega
  · cases e
  · cases e
  · have hn := h.n1 rfl; have hc := h.c1 rfl
    have q : fq n c = -(((m / d : Nat) : Int) + 1) := by unfold fq; rw [hn, hc, if_neg (by omega), Int.neg_neg, e3]
    refine ⟨q, ?_⟩
    unfold fr sg
    rw [q, hn, hc, if_pos (by omega), Int.neg_mul_neg, Int.mul_add, Int.mul_one]
    omega
theorem SG.of_prod {a b c : Int} (hc : c ≠ 0) : SG (a * b) c (a.natAbs * b.natAbs) c.natAbs (decide (a < 0) == decide (b < 0)) (decide (c < 0)) :=
  ⟨fun h => (mul_same (by simpa using h)).symm, fun h => (mul_diff (by cases h1 : decide (a < 0) <;> cases h2 : decide (b < 0) <;> simp_all)).symm, fun h => by have := of_decide_eq_true h; omega, fun h => by have := of_decide_eq_false h; omega, by omega⟩
theorem prod_U {a b : Int} (ba : in64 a) (bb : in64 b) : a.natAbs * b.natAbs ≤ 85070591730234615865843651857942052864 := by
  have h1 : a.natAbs * b.natAbs ≤ 9223372036854775808 * 9223372036854775808 := by
    unfold in64 at ba bb
    exact Nat.mul_le_mul (by omega) (by omega)
  exact h1
theorem floor_any (a b c : Int) (ba : in64 a) (bb : in64 b) (bc : in64 c) (hc : c ≠ 0) (w : World) :
    Calls Try.prog 70 #[.int .i64 a, .int .i64 b, .int .i64 c] w fun e w' => e = .returned (.tuple #[.agg #[.int .u64 (zh (fq (a * b) c)), .int .u64 (zl (fq (a * b) c))], .int .i64 (fr (a * b) c), .int .i64 0]) ∧ Below w.heap.size w w' := by
  have S := SG.of_prod (a := a) (b := b) hc
  have hM := prod_U ba bb
  have hd : 0 < c.natAbs := by omega
  have hd2 : c.natAbs ≤ 9223372036854775808 := by unfold in64 at bc; omega
  have H1 := Lib.hid (zAmt_any c bc)
  have H2 := Lib.hid (zAmt_any a ba)
  have H3 := Lib.hid (zAmt_any b bb)
  have H4 := Lib.hid (zMul_any a.natAbs b.natAbs (natAbs_U ba) (natAbs_U bb))
  have H5 := Lib.hid (zDiv_any (a.natAbs * b.natAbs) c.natAbs (by omega) (natAbs_U bc) hd)
  generalize a.natAbs * b.natAbs = M at *
  generalize c.natAbs = d at *
  have hrd := Nat.mod_lt M hd
  by_cases e2 : ((!(decide (a < 0) == decide (b < 0))) == decide (c < 0)) = true
  · obtain ⟨x1, x2⟩ := S.up e2
    rw [x1, x2]
    exact floor_up a b c a.natAbs b.natAbs d (M / d) (M % d) M w H1 H2 H3 H4 H5 _ _ _ _ rfl rfl rfl rfl (by omega) e2
  · rw [Bool.not_eq_true] at e2
    by_cases hr : M % d = 0
    · obtain ⟨x1, x2⟩ := S.zero e2 hr
      rw [x1, x2]
      exact floor_zero a b c a.natAbs b.natAbs d (M / d) (M % d) M w H1 H2 H3 H4 H5 _ _ _ _ rfl rfl rfl rfl (by omega) e2 hr _ (Lib.hid (zNeg_any _))
    · obtain ⟨x1, x2⟩ := S.down e2 hr
      rw [x1, x2]
      exact floor_down a b c a.natAbs b.natAbs d (M / d) (M % d) (d - M % d) M w H1 H2 H3 H4 H5 _ _ _ _ rfl rfl rfl rfl (by omega) e2 hr (by rw [IntKind.wrap_u64]; omega) _ _ _ (Lib.hid (zOf_any 1 (by unfold in64; omega))) (Lib.hid (zAdd_any _ 1)) (Lib.hid (zNeg_any _))
set_option maxHeartbeats 800000 in
theorem floor_none (a b : Int) (ba : in64 a) (bb : in64 b) (w : World) :
    Calls Try.prog 70 #[.int .i64 a, .int .i64 b, .int .i64 0] w fun e w' => e = .returned (.tuple #[.agg #[.int .u64 0, .int .u64 0], .int .i64 0, .int .i64 5]) ∧ Below w.heap.size w w' := by
  have H1 := Lib.hid (zAmt_any 0 (by unfold in64; omega))
  have H2 := Lib.hid (zAmt_any a ba)
  have H3 := Lib.hid (zAmt_any b bb)
  have H4 := Lib.hid (zMul_any a.natAbs b.natAbs (natAbs_U ba) (natAbs_U bb))
  have H5 := Lib.hid (zDiv_zero ((a.natAbs * b.natAbs : Nat) : Int))
  generalize ((a.natAbs * b.natAbs : Nat) : Int) = M at *
  generalize a.natAbs = m1 at *
  generalize b.natAbs = m2 at *
  clear ba bb
  go_enter Try.func70, Try.ntmps70
  go_wp2_with fail
  
  refine (H1.out _).mono ?_
  rintro e V1 ⟨rfl, hb1⟩
  have B1 := Lib.hid (((Below.refl w.heap.size w).alloc (Nat.le_refl _) _).trans (hb1.mono (by first | assumption | (simp <;> omega) | (simp; done))))
  have Z1 := Lib.hid (row_call hb1 (heap_alloc_new _ _))
  clear hb1
  have Z1_0 : V1.cell? ⟨w.heap.size, 0, none⟩ = some (.int .u64 0) := cell_of_row _ _ _ _ _ _ Z1.out
  have Z1_1 : V1.cell? ⟨w.heap.size, 1, none⟩ = some (.int .u64 0) := cell_of_row _ _ _ _ _ _ Z1.out
  have Z1_f0 : V1.frozen? ⟨w.heap.size, 0, none⟩ = false := by simp [World.frozen?, Z1.out]
  have Z1_f1 : V1.frozen? ⟨w.heap.size, 1, none⟩ = false := by simp [World.frozen?, Z1.out]
  have zZ1 := lt_of_heap Z1.out
  go_simp
  go_wp2_with fail
  refine (H2.out _).mono ?_
  rintro e V2 ⟨rfl, hb2⟩
  clear Z1_0 Z1_1 Z1_f0 Z1_f1 zZ1
  have B2 : Hid (Below w.heap.size w V2) := by first | exact Lib.hid ((B1.out).trans (hb2.mono (by have := B1.out.size; first | assumption | (simp <;> omega) | (simp; done)))) | exact Lib.hid (((B1.out).alloc (B1.out.size) _).trans (hb2.mono (by have := B1.out.size; first | assumption | (simp <;> omega) | (simp; done)))) | exact Lib.hid ((((B1.out).alloc (B1.out.size) _).alloc (by have := B1.out.size; simp <;> omega) _).trans (hb2.mono (by have := B1.out.size; first | assumption | (simp <;> omega) | (simp; done)))) | exact Lib.hid (((((B1.out).alloc (B1.out.size) _).alloc (by have := B1.out.size; simp <;> omega) _).alloc (by have := B1.out.size; simp <;> omega) _).trans (hb2.mono (by have := B1.out.size; first | assumption | (simp <;> omega) | (simp; done))))
  first | replace Z1 := Lib.hid (row_call hb2 Z1.out) | replace Z1 := Lib.hid (row_call hb2 (row_alloc Z1.out _)) | replace Z1 := Lib.hid (row_call hb2 (row_alloc (row_alloc Z1.out _) _)) | replace Z1 := Lib.hid (row_call hb2 (row_alloc (row_alloc (row_alloc Z1.out _) _) _))
  clear hb2
  have Z1_0 : V2.cell? ⟨w.heap.size, 0, none⟩ = some (.int .u64 0) := cell_of_row _ _ _ _ _ _ Z1.out
  have Z1_1 : V2.cell? ⟨w.heap.size, 1, none⟩ = some (.int .u64 0) := cell_of_row _ _ _ _ _ _ Z1.out
  have Z1_f0 : V2.frozen? ⟨w.heap.size, 0, none⟩ = false := by simp [World.frozen?, Z1.out]
  have Z1_f1 : V2.frozen? ⟨w.heap.size, 1, none⟩ = false := by simp [World.frozen?, Z1.out]
  have zZ1 := lt_of_heap Z1.out
  go_simp
  go_wp2_with fail
  refine (H3.out _).mono ?_
  rintro e V3 ⟨rfl, hb3⟩
  clear Z1_0 Z1_1 Z1_f0 Z1_f1 zZ1
  have B3 : Hid (Below w.heap.size w V3) := by first | exact Lib.hid ((B2.out).trans (hb3.mono (by have := B2.out.size; first | assumption | (simp <;> omega) | (simp; done)))) | exact Lib.hid (((B2.out).alloc (B2.out.size) _).trans (hb3.mono (by have := B2.out.size; first | assumption | (simp <;> omega) | (simp; done)))) | exact Lib.hid ((((B2.out).alloc (B2.out.size) _).alloc (by have := B2.out.size; simp <;> omega) _).trans (hb3.mono (by have := B2.out.size; first | assumption | (simp <;> omega) | (simp; done)))) | exact Lib.hid (((((B2.out).alloc (B2.out.size) _).alloc (by have := B2.out.size; simp <;> omega) _).alloc (by have := B2.out.size; simp <;> omega) _).trans (hb3.mono (by have := B2.out.size; first | assumption | (simp <;> omega) | (simp; done))))
  first | replace Z1 := Lib.hid (row_call hb3 Z1.out) | replace Z1 := Lib.hid (row_call hb3 (row_alloc Z1.out _)) | replace Z1 := Lib.hid (row_call hb3 (row_alloc (row_alloc Z1.out _) _)) | replace Z1 := Lib.hid (row_call hb3 (row_alloc (row_alloc (row_alloc Z1.out _) _) _))
  clear hb3
  have Z1_0 : V3.cell? ⟨w.heap.size, 0, none⟩ = some (.int .u64 0) := cell_of_row _ _ _ _ _ _ Z1.out
  have Z1_1 : V3.cell? ⟨w.heap.size, 1, none⟩ = some (.int .u64 0) := cell_of_row _ _ _ _ _ _ Z1.out
  have Z1_f0 : V3.frozen? ⟨w.heap.size, 0, none⟩ = false := by simp [World.frozen?, Z1.out]
  have Z1_f1 : V3.frozen? ⟨w.heap.size, 1, none⟩ = false := by simp [World.frozen?, Z1.out]
  have zZ1 := lt_of_heap Z1.out
  go_simp
  go_wp2_with fail
  refine (H4.out _).mono ?_
  rintro e V4 ⟨rfl, hb4⟩
  clear Z1_0 Z1_1 Z1_f0 Z1_f1 zZ1
  have B4 : Hid (Below w.heap.size w V4) := by first | exact Lib.hid ((B3.out).trans (hb4.mono (by have := B3.out.size; first | assumption | (simp <;> omega) | (simp; done)))) | exact Lib.hid (((B3.out).alloc (B3.out.size) _).trans (hb4.mono (by have := B3.out.size; first | assumption | (simp <;> omega) | (simp; done)))) | exact Lib.hid ((((B3.out).alloc (B3.out.size) _).alloc (by have := B3.out.size; simp <;> omega) _).trans (hb4.mono (by have := B3.out.size; first | assumption | (simp <;> omega) | (simp; done)))) | exact Lib.hid (((((B3.out).alloc (B3.out.size) _).alloc (by have := B3.out.size; simp <;> omega) _).alloc (by have := B3.out.size; simp <;> omega) _).trans (hb4.mono (by have := B3.out.size; first | assumption | (simp <;> omega) | (simp; done))))
  first | replace Z1 := Lib.hid (row_call hb4 Z1.out) | replace Z1 := Lib.hid (row_call hb4 (row_alloc Z1.out _)) | replace Z1 := Lib.hid (row_call hb4 (row_alloc (row_alloc Z1.out _) _)) | replace Z1 := Lib.hid (row_call hb4 (row_alloc (row_alloc (row_alloc Z1.out _) _) _))
  clear hb4
  have Z1_0 : V4.cell? ⟨w.heap.size, 0, none⟩ = some (.int .u64 0) := cell_of_row _ _ _ _ _ _ Z1.out
  have Z1_1 : V4.cell? ⟨w.heap.size, 1, none⟩ = some (.int .u64 0) := cell_of_row _ _ _ _ _ _ Z1.out
  have Z1_f0 : V4.frozen? ⟨w.heap.size, 0, none⟩ = false := by simp [World.frozen?, Z1.out]
  have Z1_f1 : V4.frozen? ⟨w.heap.size, 1, none⟩ = false := by simp [World.frozen?, Z1.out]
  have zZ1 := lt_of_heap Z1.out
  go_simp
  go_wp2_with fail
  refine (H5.out _).mono ?_
  rintro e V5 ⟨rfl, hb5⟩
  clear Z1_0 Z1_1 Z1_f0 Z1_f1 zZ1
  have B5 : Hid (Below w.heap.size w V5) := by first | exact Lib.hid ((B4.out).trans (hb5.mono (by have := B4.out.size; first | assumption | (simp <;> omega) | (simp; done)))) | exact Lib.hid (((B4.out).alloc (B4.out.size) _).trans (hb5.mono (by have := B4.out.size; first | assumption | (simp <;> omega) | (simp; done)))) | exact Lib.hid ((((B4.out).alloc (B4.out.size) _).alloc (by have := B4.out.size; simp <;> omega) _).trans (hb5.mono (by have := B4.out.size; first | assumption | (simp <;> omega) | (simp; done)))) | exact Lib.hid (((((B4.out).alloc (B4.out.size) _).alloc (by have := B4.out.size; simp <;> omega) _).alloc (by have := B4.out.size; simp <;> omega) _).trans (hb5.mono (by have := B4.out.size; first | assumption | (simp <;> omega) | (simp; done))))
  first | replace Z1 := Lib.hid (row_call hb5 Z1.out) | replace Z1 := Lib.hid (row_call hb5 (row_alloc Z1.out _)) | replace Z1 := Lib.hid (row_call hb5 (row_alloc (row_alloc Z1.out _) _)) | replace Z1 := Lib.hid (row_call hb5 (row_alloc (row_alloc (row_alloc Z1.out _) _) _))
  clear hb5
  have Z1_0 : V5.cell? ⟨w.heap.size, 0, none⟩ = some (.int .u64 0) := cell_of_row _ _ _ _ _ _ Z1.out
  have Z1_1 : V5.cell? ⟨w.heap.size, 1, none⟩ = some (.int .u64 0) := cell_of_row _ _ _ _ _ _ Z1.out
  have Z1_f0 : V5.frozen? ⟨w.heap.size, 0, none⟩ = false := by simp [World.frozen?, Z1.out]
  have Z1_f1 : V5.frozen? ⟨w.heap.size, 1, none⟩ = false := by simp [World.frozen?, Z1.out]
  have zZ1 := lt_of_heap Z1.out
  go_simp
  go_wp2
  refine bodyPost_ret (v := .tuple #[.agg #[.int .u64 0, .int .u64 0], .int .i64 0, .int .i64 5]) (by simp [results, Try.results70, go_sem, Z1_0, Z1_1, zZ1]) rfl ⟨rfl, ?_⟩
  first
  | exact (keep2 B5.out (Nat.le_refl _) _ _).alloc (by have := B5.out.size; simp; omega) _
  | exact keep2 (B5.out.alloc B5.out.size _) (Nat.le_refl _) _ _
end Go.Proofs.Ytkmhebfahfaokaa
